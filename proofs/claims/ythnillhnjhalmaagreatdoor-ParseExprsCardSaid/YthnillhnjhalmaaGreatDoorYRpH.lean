/-
  Parts of this proof: The contract of the reference's negative where f.
-/
import Derived.Test.YthnillhnjhalmaaGreatDoorYTRow
open Go.Ground renaming phase->U,data->af,guard->aj
open Go.Operand renaming tmp->ae
open Go.Act renaming put->ag
open Go.AllReadyH renaming cons->ah,nil->ai
open Option renaming some->V,none->X
set_option linter.unusedSimpArgs false
set_option linter.unusedVariables false
set_option maxHeartbeats 2000000
open Go.Lib (hid)
namespace Go.Proofs.YthnillhnjhalmaaGreatDoor
namespace Ps
open Ps.P (len)
open Go.RowKit
open Lx (Tk bs nS pE)
open Ex (Gives)
open Md (bX)
theorem ap0 {w:World} {t:TypeId} {c:Array Value} {A B:Obj}:bX (((w.alloc (.cells c t)).alloc A).alloc B).drew w.heap.size t c:=(bX.new (w:=w) (t:=t) (c:=c)).on bl
theorem ap1 {w:World} {t:TypeId} {c:Array Value} {A B:Obj}:bX (((w.alloc A).alloc (.cells c t)).alloc B).drew (w.heap.size+1) t c:=by
 have b:=bX.new (w:=w.alloc A) (t:=t) (c:=c);rw[show(w.alloc A).heap.size=w.heap.size+1 by simp] at b;exact b.on bl
theorem ap2 {w:World} {t:TypeId} {c:Array Value} {A B:Obj}:bX (((w.alloc A).alloc B).alloc (.cells c t)).drew (w.heap.size+1+1) t c:=by
 have b:=bX.new (w:=(w.alloc A).alloc B) (t:=t) (c:=c);rw[show((w.alloc A).alloc B).heap.size=w.heap.size+1+1 by simp] at b;exact b.on bl
def af3 (w0:World) (x y z:Tk) (a b c:Value) (W:World):Prop:=∃B3 B4 B5:Nat,a=.pointer (V ⟨B3,0,X⟩)/\b=.pointer (V ⟨B4,0,X⟩)/\c=.pointer (V ⟨B5,0,X⟩)/\bX W B3 87 #[.int .i64 x.k,.string x.t,.int .i64 x.n,.int .i64 x.l]/\bX W B4 87 #[.int .i64 y.k,.string y.t,.int .i64 y.n,.int .i64 y.l]/\bX W B5 87 #[.int .i64 z.k,.string z.t,.int .i64 z.n,.int .i64 z.l]/\Below w0.heap.size w0 W
section
variable {L:Lk} {g:Nat} {t:List Tk}
theorem azl {p:Prop} (h:p:=by kernel_rfl):p:=h
theorem azr {p:Prop} (h:p:=by
 go_simp
 clear hHeld;refine hK.out _ _ (F1.out _ bl) (fun hHeld=>?_);clear hK K
 try simp only[ag,sA,sB,sC]
 refine wpAnyH_ready (rs:=[36]) azl cz ?_;refine ah (o:={ dst:=X,op:=Op.store 87 (ae 3) (ae 32),type:=0,pos := "ref.go:278",after:=#[{ on:=33,ground:=af },{ on:=10,ground:=af },{ on:=0,ground:=U },{ on:=1,ground:=U },{ on:=2,ground:=U },{ on:=3,ground:=U },{ on:=4,ground:=U },{ on:=5,ground:=U },{ on:=6,ground:=U },{ on:=7,ground:=U },{ on:=8,ground:=U },{ on:=9,ground:=U },{ on:=10,ground:=U },{ on:=11,ground:=Ground.textOnly Departure.lateStores },{ on:=12,ground:=Ground.textOnly Departure.lateStores },{ on:=13,ground:=Ground.textOnly Departure.lateStores },{ on:=14,ground:=Ground.textOnly Departure.lateStores },{ on:=15,ground:=Ground.textOnly Departure.lateStores },{ on:=16,ground:=Ground.textOnly Departure.lateStores },{ on:=17,ground:=Ground.textOnly Departure.lateStores },{ on:=18,ground:=Ground.textOnly Departure.lateStores },{ on:=19,ground:=Ground.textOnly Departure.lateStores },{ on:=20,ground:=Ground.textOnly Departure.lateStores },{ on:=21,ground:=Ground.textOnly Departure.lateStores },{ on:=22,ground:=Ground.textOnly Departure.lateStores },{ on:=23,ground:=Ground.textOnly Departure.lateStores },{ on:=24,ground:=Ground.textOnly Departure.lateStores },{ on:=25,ground:=Ground.textOnly Departure.lateStores },{ on:=26,ground:=Ground.textOnly Departure.lateStores },{ on:=27,ground:=Ground.textOnly Departure.lateStores },{ on:=28,ground:=Ground.textOnly Departure.lateStores },{ on:=29,ground:=Ground.textOnly Departure.lateStores },{ on:=30,ground:=Ground.textOnly Departure.lateStores },{ on:=31,ground:=Ground.textOnly Departure.lateStores },{ on:=32,ground:=Ground.textOnly Departure.lateStores },{ on:=33,ground:=U },{ on:=34,ground:=U },{ on:=35,ground:=U }],guard:=X }) rfl (fun K hK=>?_) ?_
 · go_simp
   clear hHeld;refine hK.out _ _ (F1.out _ bl) (fun hHeld=>?_);clear hK K
   try simp only[ag,sA,sB,sC]
   refine wpAnyH_ready (rs:=[37]) azl cz ?_;refine ah (o:={ dst:=X,op:=Op.store 87 (ae 4) (ae 43),type:=0,pos := "ref.go:278",after:=#[{ on:=34,ground:=af },{ on:=21,ground:=af },{ on:=36,ground:=Ground.chain },{ on:=0,ground:=U },{ on:=1,ground:=U },{ on:=2,ground:=U },{ on:=3,ground:=U },{ on:=4,ground:=U },{ on:=5,ground:=U },{ on:=6,ground:=U },{ on:=7,ground:=U },{ on:=8,ground:=U },{ on:=9,ground:=U },{ on:=10,ground:=U },{ on:=11,ground:=U },{ on:=12,ground:=U },{ on:=13,ground:=U },{ on:=14,ground:=U },{ on:=15,ground:=U },{ on:=16,ground:=U },{ on:=17,ground:=U },{ on:=18,ground:=U },{ on:=19,ground:=U },{ on:=20,ground:=U },{ on:=21,ground:=U },{ on:=22,ground:=Ground.textOnly Departure.lateStores },{ on:=23,ground:=Ground.textOnly Departure.lateStores },{ on:=24,ground:=Ground.textOnly Departure.lateStores },{ on:=25,ground:=Ground.textOnly Departure.lateStores },{ on:=26,ground:=Ground.textOnly Departure.lateStores },{ on:=27,ground:=Ground.textOnly Departure.lateStores },{ on:=28,ground:=Ground.textOnly Departure.lateStores },{ on:=29,ground:=Ground.textOnly Departure.lateStores },{ on:=30,ground:=Ground.textOnly Departure.lateStores },{ on:=31,ground:=Ground.textOnly Departure.lateStores },{ on:=32,ground:=Ground.textOnly Departure.lateStores },{ on:=33,ground:=U },{ on:=34,ground:=U },{ on:=35,ground:=U },{ on:=36,ground:=U }],guard:=X }) rfl (fun K hK=>?_) ?_
   · go_simp
     clear hHeld;refine hK.out _ _ (F1.out _ bl) (fun hHeld=>?_);clear hK K
     try simp only[ag,sA,sB,sC]
     refine wpAnyH_ready (rs:=[38]) azl cz ?_;refine ah (o:={ dst:=X,op:=Op.store 87 (ae 5) (ae 54),type:=0,pos := "ref.go:278",after:=#[{ on:=35,ground:=af },{ on:=32,ground:=af },{ on:=37,ground:=Ground.chain },{ on:=0,ground:=U },{ on:=1,ground:=U },{ on:=2,ground:=U },{ on:=3,ground:=U },{ on:=4,ground:=U },{ on:=5,ground:=U },{ on:=6,ground:=U },{ on:=7,ground:=U },{ on:=8,ground:=U },{ on:=9,ground:=U },{ on:=10,ground:=U },{ on:=11,ground:=U },{ on:=12,ground:=U },{ on:=13,ground:=U },{ on:=14,ground:=U },{ on:=15,ground:=U },{ on:=16,ground:=U },{ on:=17,ground:=U },{ on:=18,ground:=U },{ on:=19,ground:=U },{ on:=20,ground:=U },{ on:=21,ground:=U },{ on:=22,ground:=U },{ on:=23,ground:=U },{ on:=24,ground:=U },{ on:=25,ground:=U },{ on:=26,ground:=U },{ on:=27,ground:=U },{ on:=28,ground:=U },{ on:=29,ground:=U },{ on:=30,ground:=U },{ on:=31,ground:=U },{ on:=32,ground:=U },{ on:=33,ground:=U },{ on:=34,ground:=U },{ on:=35,ground:=U },{ on:=36,ground:=U },{ on:=37,ground:=U }],guard:=X }) rfl (fun K hK=>?_) ?_
     · go_simp
       clear hHeld;refine hK.out _ _ (F1.out _ bl) (fun hHeld=>?_);clear hK K
       try simp only[ag,sA,sB,sC]
       refine wpAnyH_done azl ?_ _;clear hHeld;go_wp2_with fail
       go_meet
       refine⟨_,_,_,rfl,rfl,rfl,?_,?_,?_,bl⟩ <;> (first|exact ap0|exact ap1|exact ap2)
     exact ai
   exact ai
 exact ai
 ):p:=h
theorem ayo {p:Prop} (h:p:=by
 intro w' hS';obtain⟨d0,d1,⟨a0,a1,a2,a3⟩,⟨a4,a5,a6,a7⟩,⟨a8,a9,mh,a11⟩⟩:=hS';exact Ho
 ):p:=h
theorem ayu {p:Prop} (h:p:=by
 intro w' hS';obtain⟨d0,d1⟩:=hS';exact Ho
 ):p:=h
theorem azt {p:Prop} (h:p:=by
 go_simp
 clear hHeld;refine hK.out _ _ (F1.out _ bl) (fun hHeld=>?_);clear hK K
 try simp only[ag,sA,sB,sC]
 refine wpAnyH_ready (rs:=[35]) azl cz ?_;refine ah (o:={ dst:=V 5,op:=Op.alloc 87,type:=0,pos := "ref.go:278",after:=#[],guard:=X }) rfl (fun K hK=>?_) ?_
 · exact azr
 exact ai
 ):p:=h
theorem azu {p:Prop} (h:p:=by
 go_simp
 clear hHeld;refine hK.out _ _ (F1.out _ bl) (fun hHeld=>?_);clear hK K
 try simp only[ag,sA,sB,sC]
 refine wpAnyH_ready (rs:=[34]) azl cz ?_;refine ah (o:={ dst:=V 4,op:=Op.alloc 87,type:=0,pos := "ref.go:278",after:=#[],guard:=X }) rfl (fun K hK=>?_) ?_
 · exact azr
 exact ai
 ):p:=h
theorem azv {p:Prop} (h:p:=by
 go_simp
 clear hHeld;refine hK.out _ _ (F1.out _ bl) (fun hHeld=>?_);clear hK K
 try simp only[ag,sA,sB,sC]
 refine wpAnyH_ready (rs:=[33]) azl cz ?_;refine ah (o:={ dst:=V 3,op:=Op.alloc 87,type:=0,pos := "ref.go:278",after:=#[],guard:=X }) rfl (fun K hK=>?_) ?_
 · exact azr
 exact ai
 ):p:=h
theorem G6 {p:Prop} (h:p:=by
 go_wp2_with fail;go_ret;exact⟨rfl,HBC.out⟩
 ):p:=h
theorem azn {p:Prop} (h:p:=by assumption):p:=h
set_option maxHeartbeats 40000000 in
set_option maxRecDepth 100000 in
theorem alW (w:World) (hR:Rp L g false t w) (hi:is fK t=true) (h5:3<t.length):Calls Tryz.prog 244 #[.pointer (V ⟨g,0,X⟩)] w (Gives (.bool (pat t)) w):=by
 have C1:=hid (fun W (hW:Below w.heap.size w W)=>iF fK W (hR.low (bT.of hW)) bS bS);rw[show(!false&&is fK t)=true by rw[hi];rfl] at C1;have HR:=hid hR;have hgw:=hR.blk;obtain⟨l1,l2,l3⟩:=hR.len;have l4:=hR.few;obtain⟨j,hj⟩:∃j,L.at t=j:=⟨_,rfl⟩
 have c0:=hR.c0;have c1:=hR.c1;rw[hj] at c1 l1 l3;have hw1:IntKind.i64.wrap ((j:Int)+1)=(j:Int)+1:=by rw[IntKind.wrap_i64];omega
 have hw2:IntKind.i64.wrap ((j:Int)+2)=(j:Int)+2:=by rw[IntKind.wrap_i64];omega
 have hw3:IntKind.i64.wrap ((j:Int)+3)=(j:Int)+3:=by rw[IntKind.wrap_i64];omega
 have e3:decide (((L.m:Nat):Int)<=(j:Int)+3)=false:=decide_eq_false bU;obtain⟨x0,x1,x2,x3,r,rfl⟩:∃x0 x1 x2 x3 r,t=x0::x1::x2::x3::r:=by
  match t,h5 with
  | x0::x1::x2::x3::r,_=>exact⟨x0,x1,x2,x3,r,rfl⟩
 have n1:=hR.nth (k:=1) cz;have n2:=hR.nth (k:=2) cz;have n3:=hR.nth (k:=3) cz;rw[hj] at n1 n2 n3;have hbw:L.b<w.heap.size:=by have:=hR.lt;have:=hR.blk;omega
 have F:=hid (fun W (hW:Below w.heap.size w W)=>And.intro ((HR.out.low (w2:=W) (bT.of hW)).c0) (And.intro (show W.cell? ⟨g,1,X⟩=V (.int .i64 ((j:Nat):Int)) by have h:=(HR.out.low (w2:=W) (bT.of hW)).c1;rw[hj] at h;exact h) (And.intro (Lx.h_.on hW hbw n1) (And.intro (Lx.h_.on hW hbw n2) (Lx.h_.on hW hbw n3)))));have gd1:=(hR.gd.tail (by rcases zo hR.gd bS hi with h|h <;> (rw[h];decide))).1;obtain⟨v,hv⟩:∃v,pat (x0::x1::x2::x3::r)=v:=⟨_,rfl⟩
 have hv2:(is eH (x1::x2::x3::r)&&decide (x2.k=2)&&is iG (x3::r))=v:=by
  unfold pat at hv;rw[hi] at hv;exact hv
 rw[hv];have hlb:=hR.lt;have hm1:(0:Int)<=(j:Int)+1:=by omega
 have hm2:(j:Int)+1<((L.m:Nat):Int):=by omega
 have F4:(0:Int)<=(j:Int)+2:=by omega
 have hm4:(j:Int)+2<((L.m:Nat):Int):=by omega
 have hm5:(0:Int)<=(j:Int)+3:=by omega
 have hm6:(j:Int)+3<((L.m:Nat):Int):=by omega
 have ht1:((j:Int)+1).toNat=j+1:=by omega
 have ht2:((j:Int)+2).toNat=j+2:=by omega
 have ht3:((j:Int)+3).toNat=j+3:=by omega
 have HV:=hid hv2;have PW:=hid gd1;clear hR hi l1 l2 l3 l4 h5 hj gd1 hv hv2 n1 n2 n3
 show Calls _ _ _ _ (Gives (.bool v) w)
 go_enter Tryz.func244,Tryz.ntmps244
 go_upto_region 1 with fail
 refine wp_region_held_drew (S:=fun W:World=>W.cell? ⟨g,0,X⟩=V (.slice (V ⟨L.b,L.o,X⟩) L.m L.c)/\W.cell? ⟨g,1,X⟩=V (.int .i64 ((j:Nat):Int))) azl (by have q:=F.out w.drew bl;exact⟨q.1,q.2.1⟩) (fun hHeld=>?_);refine wpAnyH_take (i:=0) (oi:={ dst:=V 6,op:=Op.move (ae 0),type:=68,pos := "ref.go:275",after:=#[],guard:=X }) (v:=?_) rfl azl azl azl (fun _ _ _ h=>h) (Or.inl ⟨by rfl,?_⟩) azn ?_;rotate_left 1
 · exact ayu
 try simp only[ag,sA,sB,sC]
 refine wpAnyH_ready (rs:=[1]) azl cz ?_;refine ah (o:={ dst:=V 7,op:=Op.call { callee:=Callee.value (Operand.func 126),args:=#[ae 6,Operand.const (Value.string { data:=#[40] })],argTypes:=#[68,9] },type:=4,pos := "ref.go:275",after:=#[{ on:=0,ground:=af }],guard:=X }) rfl (fun K hK=>?_) ?_;rotate_left 1
 · exact ai
 go_simp
 refine(C1.out _ bl).mono ?_;rintro e w1 ⟨rfl,hb1⟩;clear hHeld;refine hK.out _ _ (by have q:=F.out w1 bl;exact⟨q.1,q.2.1⟩) (fun hHeld=>?_);clear hK K
 try simp only[ag,sA,sB,sC]
 refine wpAnyH_take (i:=2) (oi:={ dst:=V 8,op:=Op.unOp UnOp.not 4 (ae 7),type:=4,pos := "ref.go:275",after:=#[{ on:=1,ground:=af }],guard:=X }) (v:=?_) rfl azl azl azl (fun _ _ _ h=>h) (Or.inl ⟨by rfl,?_⟩) azn ?_;rotate_left 1
 · exact ayu
 try simp only[ag,sA,sB,sC]
 refine wpAnyH_take (i:=3) (oi:={ dst:=V 9,op:=Op.move (ae 8),type:=4,pos := "ref.go:275",after:=#[{ on:=2,ground:=af },{ on:=1,ground:=Ground.chain }],guard:=X }) (v:=?_) rfl azl azl azl (fun _ _ _ h=>h) (Or.inl ⟨by rfl,?_⟩) azn ?_;rotate_left 1
 · exact ayu
 try simp only[ag,sA,sB,sC]
 refine wpAnyH_take (i:=4) (oi:={ dst:=V 10,op:=Op.move (ae 0),type:=68,pos := "ref.go:275",after:=#[{ on:=3,ground:=aj }],guard:=V (3,false) }) (v:=?_) rfl azl azl azl (fun _ _ _ h=>h) (Or.inl ⟨by rfl,?_⟩) azn ?_;rotate_left 1
 · exact ayu
 try simp only[ag,sA,sB,sC]
 refine wpAnyH_take (i:=5) (oi:={ dst:=V 11,op:=Op.nilCheck (ae 10),type:=0,pos := "ref.go:275",after:=#[{ on:=4,ground:=af },{ on:=3,ground:=aj }],guard:=V (3,false) }) (v:=?_) rfl azl azl azl (fun _ _ _ h=>h) (Or.inl ⟨by rfl,?_⟩) azn ?_;rotate_left 1
 · exact ayu
 try simp only[ag,sA,sB,sC]
 refine wpAnyH_take (i:=6) (oi:={ dst:=V 12,op:=Op.fieldAddr 70 (ae 11) 1,type:=0,pos := "ref.go:275",after:=#[{ on:=5,ground:=af },{ on:=3,ground:=aj }],guard:=V (3,false) }) (v:=?_) rfl azl azl azl (fun _ _ _ h=>h) (Or.inl ⟨by rfl,?_⟩) azn ?_;rotate_left 1
 · exact ayu
 try simp only[ag,sA,sB,sC]
 refine wpAnyH_take (i:=7) (oi:={ dst:=V 13,op:=Op.load 3 (ae 12),type:=3,pos := "ref.go:275",after:=#[{ on:=6,ground:=af },{ on:=3,ground:=aj }],guard:=V (3,false) }) (v:=?_) rfl azl azl azl (fun _ _ _ h=>h) (Or.inl ⟨by rfl,?_⟩) azn ?_;rotate_left 1
 · exact ayu
 try simp only[ag,sA,sB,sC]
 refine wpAnyH_take (i:=8) (oi:={ dst:=V 14,op:=Op.binOp BinOp.add 3 (ae 13) (Operand.const (Value.int IntKind.i64 3)) 3,type:=3,pos := "ref.go:275",after:=#[{ on:=7,ground:=af },{ on:=3,ground:=aj }],guard:=V (3,false) }) (v:=?_) rfl azl azl azl (fun _ _ _ h=>h) (Or.inl ⟨by rfl,?_⟩) azn ?_;rotate_left 1
 · exact ayu
 try simp only[ag,sA,sB,sC]
 refine wpAnyH_take (i:=9) (oi:={ dst:=V 15,op:=Op.move (ae 0),type:=68,pos := "ref.go:275",after:=#[{ on:=3,ground:=aj }],guard:=V (3,false) }) (v:=?_) rfl azl azl azl (fun _ _ _ h=>h) (Or.inl ⟨by rfl,?_⟩) azn ?_;rotate_left 1
 · exact ayu
 try simp only[ag,sA,sB,sC]
 refine wpAnyH_take (i:=10) (oi:={ dst:=V 16,op:=Op.nilCheck (ae 15),type:=0,pos := "ref.go:275",after:=#[{ on:=9,ground:=af },{ on:=3,ground:=aj }],guard:=V (3,false) }) (v:=?_) rfl azl azl azl (fun _ _ _ h=>h) (Or.inl ⟨by rfl,?_⟩) azn ?_;rotate_left 1
 · exact ayu
 try simp only[ag,sA,sB,sC]
 refine wpAnyH_take (i:=11) (oi:={ dst:=V 17,op:=Op.fieldAddr 70 (ae 16) 0,type:=0,pos := "ref.go:275",after:=#[{ on:=10,ground:=af },{ on:=3,ground:=aj }],guard:=V (3,false) }) (v:=?_) rfl azl azl azl (fun _ _ _ h=>h) (Or.inl ⟨by rfl,?_⟩) azn ?_;rotate_left 1
 · exact ayu
 try simp only[ag,sA,sB,sC]
 refine wpAnyH_take (i:=12) (oi:={ dst:=V 18,op:=Op.load 65 (ae 17),type:=65,pos := "ref.go:275",after:=#[{ on:=11,ground:=af },{ on:=3,ground:=aj }],guard:=V (3,false) }) (v:=?_) rfl azl azl azl (fun _ _ _ h=>h) (Or.inl ⟨by rfl,?_⟩) azn ?_;rotate_left 1
 · exact ayu
 try simp only[ag,sA,sB,sC]
 refine wpAnyH_take (i:=13) (oi:={ dst:=V 19,op:=Op.call { callee:=Callee.builtin Builtin.len,args:=#[ae 18],argTypes:=#[65] },type:=3,pos := "ref.go:275",after:=#[{ on:=12,ground:=af },{ on:=3,ground:=aj }],guard:=V (3,false) }) (v:=?_) rfl azl azl azl (fun _ _ _ h=>h) (Or.inl ⟨by rfl,?_⟩) azn ?_;rotate_left 1
 · exact ayu
 try simp only[ag,sA,sB,sC]
 refine wpAnyH_take (i:=14) (oi:={ dst:=V 20,op:=Op.binOp BinOp.geq 3 (ae 14) (ae 19) 3,type:=4,pos := "ref.go:275",after:=#[{ on:=8,ground:=af },{ on:=13,ground:=af },{ on:=3,ground:=aj }],guard:=V (3,false) }) (v:=?_) rfl azl azl azl (fun _ _ _ h=>h) (Or.inl ⟨by rfl,?_⟩) azn ?_;rotate_left 1
 · exact ayu
 try simp only[ag,sA,sB,sC]
 refine wpAnyH_take (i:=15) (oi:={ dst:=V 21,op:=Op.pick (ae 9) (Operand.const (Value.bool true)) (ae 20),type:=4,pos := "ref.go:275",after:=#[{ on:=3,ground:=af },{ on:=14,ground:=af }],guard:=X }) (v:=?_) rfl azl azl azl (fun _ _ _ h=>h) (Or.inl ⟨by rfl,?_⟩) azn ?_;rotate_left 1
 · exact ayu
 try simp only[ag,sA,sB,sC]
 refine wpAnyH_done azl ?_ _;clear hHeld;have F1:=hid (fun W (hW:Below w1.heap.size w1 W)=>F.out W (by have q1:Below w.heap.size w w1:=bl;exact bl));have HB1:Hid (Below w.heap.size w w1):=hid bl;clear hb1 c0 c1 F
 go_upto_region 3 with fail
 go_cut [3,4,5] from 22 to 54 (af3 w1 x1 x2 x3)
 case first=>
  refine wp_region_held_drew (S:=fun W:World=>W.cell? ⟨g,0,X⟩=V (.slice (V ⟨L.b,L.o,X⟩) L.m L.c)/\W.cell? ⟨g,1,X⟩=V (.int .i64 ((j:Nat):Int))/\Lx.h_ W L.b (L.o+(j+1)*4) x1/\Lx.h_ W L.b (L.o+(j+2)*4) x2/\Lx.h_ W L.b (L.o+(j+3)*4) x3) azl (F1.out w1.drew bl) (fun hHeld=>?_);refine wpAnyH_take (i:=0) (oi:={ dst:=V 22,op:=Op.move (ae 0),type:=68,pos := "ref.go:278",after:=#[],guard:=X }) (v:=?_) rfl azl azl azl (fun _ _ _ h=>h) (Or.inl ⟨by rfl,?_⟩) azn ?_;rotate_left 1
  · exact ayo
  try simp only[ag,sA,sB,sC]
  refine wpAnyH_take (i:=1) (oi:={ dst:=V 23,op:=Op.nilCheck (ae 22),type:=0,pos := "ref.go:278",after:=#[{ on:=0,ground:=af }],guard:=X }) (v:=?_) rfl azl azl azl (fun _ _ _ h=>h) (Or.inl ⟨by rfl,?_⟩) azn ?_;rotate_left 1
  · exact ayo
  try simp only[ag,sA,sB,sC]
  refine wpAnyH_take (i:=2) (oi:={ dst:=V 24,op:=Op.fieldAddr 70 (ae 23) 0,type:=0,pos := "ref.go:278",after:=#[{ on:=1,ground:=af }],guard:=X }) (v:=?_) rfl azl azl azl (fun _ _ _ h=>h) (Or.inl ⟨by rfl,?_⟩) azn ?_;rotate_left 1
  · exact ayo
  try simp only[ag,sA,sB,sC]
  refine wpAnyH_take (i:=3) (oi:={ dst:=V 25,op:=Op.load 65 (ae 24),type:=65,pos := "ref.go:278",after:=#[{ on:=2,ground:=af }],guard:=X }) (v:=?_) rfl azl azl azl (fun _ _ _ h=>h) (Or.inl ⟨by rfl,?_⟩) azn ?_;rotate_left 1
  · exact ayo
  try simp only[ag,sA,sB,sC]
  refine wpAnyH_take (i:=4) (oi:={ dst:=V 26,op:=Op.move (ae 0),type:=68,pos := "ref.go:278",after:=#[],guard:=X }) (v:=?_) rfl azl azl azl (fun _ _ _ h=>h) (Or.inl ⟨by rfl,?_⟩) azn ?_;rotate_left 1
  · exact ayo
  try simp only[ag,sA,sB,sC]
  refine wpAnyH_take (i:=5) (oi:={ dst:=V 27,op:=Op.nilCheck (ae 26),type:=0,pos := "ref.go:278",after:=#[{ on:=4,ground:=af }],guard:=X }) (v:=?_) rfl azl azl azl (fun _ _ _ h=>h) (Or.inl ⟨by rfl,?_⟩) azn ?_;rotate_left 1
  · exact ayo
  try simp only[ag,sA,sB,sC]
  refine wpAnyH_take (i:=6) (oi:={ dst:=V 28,op:=Op.fieldAddr 70 (ae 27) 1,type:=0,pos := "ref.go:278",after:=#[{ on:=5,ground:=af }],guard:=X }) (v:=?_) rfl azl azl azl (fun _ _ _ h=>h) (Or.inl ⟨by rfl,?_⟩) azn ?_;rotate_left 1
  · exact ayo
  try simp only[ag,sA,sB,sC]
  refine wpAnyH_take (i:=7) (oi:={ dst:=V 29,op:=Op.load 3 (ae 28),type:=3,pos := "ref.go:278",after:=#[{ on:=6,ground:=af }],guard:=X }) (v:=?_) rfl azl azl azl (fun _ _ _ h=>h) (Or.inl ⟨by rfl,?_⟩) azn ?_;rotate_left 1
  · exact ayo
  try simp only[ag,sA,sB,sC]
  refine wpAnyH_take (i:=8) (oi:={ dst:=V 30,op:=Op.binOp BinOp.add 3 (ae 29) (Operand.const (Value.int IntKind.i64 1)) 3,type:=3,pos := "ref.go:278",after:=#[{ on:=7,ground:=af }],guard:=X }) (v:=?_) rfl azl azl azl (fun _ _ _ h=>h) (Or.inl ⟨by rfl,?_⟩) azn ?_;rotate_left 1
  · exact ayo
  try simp only[ag,sA,sB,sC]
  refine wpAnyH_take (i:=9) (oi:={ dst:=V 31,op:=Op.indexAddr 65 (ae 25) (ae 30),type:=0,pos := "ref.go:278",after:=#[{ on:=3,ground:=af },{ on:=8,ground:=af }],guard:=X }) (v:=?_) rfl azl azl azl (fun _ _ _ h=>h) (Or.inl ⟨by rfl,?_⟩) azn ?_;rotate_left 1
  · exact ayo
  try simp only[ag,sA,sB,sC]
  refine wpAnyH_take (i:=10) (oi:={ dst:=V 32,op:=Op.load 87 (ae 31),type:=87,pos := "ref.go:278",after:=#[{ on:=9,ground:=af }],guard:=X }) (v:=?_) rfl azl azl azl (fun _ _ _ h=>h) (Or.inl ⟨by rfl,?_⟩) azn ?_;rotate_left 1
  · exact ayo
  try simp only[ag,sA,sB,sC]
  refine wpAnyH_take (i:=11) (oi:={ dst:=V 33,op:=Op.move (ae 0),type:=68,pos := "ref.go:278",after:=#[{ on:=36,ground:=Ground.gcOnly Departure.lateStores }],guard:=X }) (v:=?_) rfl azl azl azl (fun _ _ _ h=>h) (Or.inl ⟨by rfl,?_⟩) azn ?_;rotate_left 1
  · exact ayo
  try simp only[ag,sA,sB,sC]
  refine wpAnyH_take (i:=12) (oi:={ dst:=V 34,op:=Op.nilCheck (ae 33),type:=0,pos := "ref.go:278",after:=#[{ on:=11,ground:=af },{ on:=36,ground:=Ground.gcOnly Departure.lateStores }],guard:=X }) (v:=?_) rfl azl azl azl (fun _ _ _ h=>h) (Or.inl ⟨by rfl,?_⟩) azn ?_;rotate_left 1
  · exact ayo
  try simp only[ag,sA,sB,sC]
  refine wpAnyH_take (i:=13) (oi:={ dst:=V 35,op:=Op.fieldAddr 70 (ae 34) 0,type:=0,pos := "ref.go:278",after:=#[{ on:=12,ground:=af },{ on:=36,ground:=Ground.gcOnly Departure.lateStores }],guard:=X }) (v:=?_) rfl azl azl azl (fun _ _ _ h=>h) (Or.inl ⟨by rfl,?_⟩) azn ?_;rotate_left 1
  · exact ayo
  try simp only[ag,sA,sB,sC]
  refine wpAnyH_take (i:=14) (oi:={ dst:=V 36,op:=Op.load 65 (ae 35),type:=65,pos := "ref.go:278",after:=#[{ on:=13,ground:=af },{ on:=36,ground:=Ground.gcOnly Departure.lateStores }],guard:=X }) (v:=?_) rfl azl azl azl (fun _ _ _ h=>h) (Or.inl ⟨by rfl,?_⟩) azn ?_;rotate_left 1
  · exact ayo
  try simp only[ag,sA,sB,sC]
  refine wpAnyH_take (i:=15) (oi:={ dst:=V 37,op:=Op.move (ae 0),type:=68,pos := "ref.go:278",after:=#[{ on:=36,ground:=Ground.gcOnly Departure.lateStores }],guard:=X }) (v:=?_) rfl azl azl azl (fun _ _ _ h=>h) (Or.inl ⟨by rfl,?_⟩) azn ?_;rotate_left 1
  · exact ayo
  try simp only[ag,sA,sB,sC]
  refine wpAnyH_take (i:=16) (oi:={ dst:=V 38,op:=Op.nilCheck (ae 37),type:=0,pos := "ref.go:278",after:=#[{ on:=15,ground:=af },{ on:=36,ground:=Ground.gcOnly Departure.lateStores }],guard:=X }) (v:=?_) rfl azl azl azl (fun _ _ _ h=>h) (Or.inl ⟨by rfl,?_⟩) azn ?_;rotate_left 1
  · exact ayo
  try simp only[ag,sA,sB,sC]
  refine wpAnyH_take (i:=17) (oi:={ dst:=V 39,op:=Op.fieldAddr 70 (ae 38) 1,type:=0,pos := "ref.go:278",after:=#[{ on:=16,ground:=af },{ on:=36,ground:=Ground.gcOnly Departure.lateStores }],guard:=X }) (v:=?_) rfl azl azl azl (fun _ _ _ h=>h) (Or.inl ⟨by rfl,?_⟩) azn ?_;rotate_left 1
  · exact ayo
  try simp only[ag,sA,sB,sC]
  refine wpAnyH_take (i:=18) (oi:={ dst:=V 40,op:=Op.load 3 (ae 39),type:=3,pos := "ref.go:278",after:=#[{ on:=17,ground:=af },{ on:=36,ground:=Ground.gcOnly Departure.lateStores }],guard:=X }) (v:=?_) rfl azl azl azl (fun _ _ _ h=>h) (Or.inl ⟨by rfl,?_⟩) azn ?_;rotate_left 1
  · exact ayo
  try simp only[ag,sA,sB,sC]
  refine wpAnyH_take (i:=19) (oi:={ dst:=V 41,op:=Op.binOp BinOp.add 3 (ae 40) (Operand.const (Value.int IntKind.i64 2)) 3,type:=3,pos := "ref.go:278",after:=#[{ on:=18,ground:=af },{ on:=36,ground:=Ground.gcOnly Departure.lateStores }],guard:=X }) (v:=?_) rfl azl azl azl (fun _ _ _ h=>h) (Or.inl ⟨by rfl,?_⟩) azn ?_;rotate_left 1
  · exact ayo
  try simp only[ag,sA,sB,sC]
  refine wpAnyH_take (i:=20) (oi:={ dst:=V 42,op:=Op.indexAddr 65 (ae 36) (ae 41),type:=0,pos := "ref.go:278",after:=#[{ on:=14,ground:=af },{ on:=19,ground:=af },{ on:=36,ground:=Ground.gcOnly Departure.lateStores }],guard:=X }) (v:=?_) rfl azl azl azl (fun _ _ _ h=>h) (Or.inl ⟨by rfl,?_⟩) azn ?_;rotate_left 1
  · exact ayo
  try simp only[ag,sA,sB,sC]
  refine wpAnyH_take (i:=21) (oi:={ dst:=V 43,op:=Op.load 87 (ae 42),type:=87,pos := "ref.go:278",after:=#[{ on:=20,ground:=af },{ on:=36,ground:=Ground.gcOnly Departure.lateStores }],guard:=X }) (v:=?_) rfl azl azl azl (fun _ _ _ h=>h) (Or.inl ⟨by rfl,?_⟩) azn ?_;rotate_left 1
  · exact ayo
  try simp only[ag,sA,sB,sC]
  refine wpAnyH_take (i:=22) (oi:={ dst:=V 44,op:=Op.move (ae 0),type:=68,pos := "ref.go:278",after:=#[{ on:=37,ground:=Ground.gcOnly Departure.lateStores }],guard:=X }) (v:=?_) rfl azl azl azl (fun _ _ _ h=>h) (Or.inl ⟨by rfl,?_⟩) azn ?_;rotate_left 1
  · exact ayo
  try simp only[ag,sA,sB,sC]
  refine wpAnyH_take (i:=23) (oi:={ dst:=V 45,op:=Op.nilCheck (ae 44),type:=0,pos := "ref.go:278",after:=#[{ on:=22,ground:=af },{ on:=37,ground:=Ground.gcOnly Departure.lateStores }],guard:=X }) (v:=?_) rfl azl azl azl (fun _ _ _ h=>h) (Or.inl ⟨by rfl,?_⟩) azn ?_;rotate_left 1
  · exact ayo
  try simp only[ag,sA,sB,sC]
  refine wpAnyH_take (i:=24) (oi:={ dst:=V 46,op:=Op.fieldAddr 70 (ae 45) 0,type:=0,pos := "ref.go:278",after:=#[{ on:=23,ground:=af },{ on:=37,ground:=Ground.gcOnly Departure.lateStores }],guard:=X }) (v:=?_) rfl azl azl azl (fun _ _ _ h=>h) (Or.inl ⟨by rfl,?_⟩) azn ?_;rotate_left 1
  · exact ayo
  try simp only[ag,sA,sB,sC]
  refine wpAnyH_take (i:=25) (oi:={ dst:=V 47,op:=Op.load 65 (ae 46),type:=65,pos := "ref.go:278",after:=#[{ on:=24,ground:=af },{ on:=37,ground:=Ground.gcOnly Departure.lateStores }],guard:=X }) (v:=?_) rfl azl azl azl (fun _ _ _ h=>h) (Or.inl ⟨by rfl,?_⟩) azn ?_;rotate_left 1
  · exact ayo
  try simp only[ag,sA,sB,sC]
  refine wpAnyH_take (i:=26) (oi:={ dst:=V 48,op:=Op.move (ae 0),type:=68,pos := "ref.go:278",after:=#[{ on:=37,ground:=Ground.gcOnly Departure.lateStores }],guard:=X }) (v:=?_) rfl azl azl azl (fun _ _ _ h=>h) (Or.inl ⟨by rfl,?_⟩) azn ?_;rotate_left 1
  · exact ayo
  try simp only[ag,sA,sB,sC]
  refine wpAnyH_take (i:=27) (oi:={ dst:=V 49,op:=Op.nilCheck (ae 48),type:=0,pos := "ref.go:278",after:=#[{ on:=26,ground:=af },{ on:=37,ground:=Ground.gcOnly Departure.lateStores }],guard:=X }) (v:=?_) rfl azl azl azl (fun _ _ _ h=>h) (Or.inl ⟨by rfl,?_⟩) azn ?_;rotate_left 1
  · exact ayo
  try simp only[ag,sA,sB,sC]
  refine wpAnyH_take (i:=28) (oi:={ dst:=V 50,op:=Op.fieldAddr 70 (ae 49) 1,type:=0,pos := "ref.go:278",after:=#[{ on:=27,ground:=af },{ on:=37,ground:=Ground.gcOnly Departure.lateStores }],guard:=X }) (v:=?_) rfl azl azl azl (fun _ _ _ h=>h) (Or.inl ⟨by rfl,?_⟩) azn ?_;rotate_left 1
  · exact ayo
  try simp only[ag,sA,sB,sC]
  refine wpAnyH_take (i:=29) (oi:={ dst:=V 51,op:=Op.load 3 (ae 50),type:=3,pos := "ref.go:278",after:=#[{ on:=28,ground:=af },{ on:=37,ground:=Ground.gcOnly Departure.lateStores }],guard:=X }) (v:=?_) rfl azl azl azl (fun _ _ _ h=>h) (Or.inl ⟨by rfl,?_⟩) azn ?_;rotate_left 1
  · exact ayo
  try simp only[ag,sA,sB,sC]
  refine wpAnyH_take (i:=30) (oi:={ dst:=V 52,op:=Op.binOp BinOp.add 3 (ae 51) (Operand.const (Value.int IntKind.i64 3)) 3,type:=3,pos := "ref.go:278",after:=#[{ on:=29,ground:=af },{ on:=37,ground:=Ground.gcOnly Departure.lateStores }],guard:=X }) (v:=?_) rfl azl azl azl (fun _ _ _ h=>h) (Or.inl ⟨by rfl,?_⟩) azn ?_;rotate_left 1
  · exact ayo
  try simp only[ag,sA,sB,sC]
  refine wpAnyH_take (i:=31) (oi:={ dst:=V 53,op:=Op.indexAddr 65 (ae 47) (ae 52),type:=0,pos := "ref.go:278",after:=#[{ on:=25,ground:=af },{ on:=30,ground:=af },{ on:=37,ground:=Ground.gcOnly Departure.lateStores }],guard:=X }) (v:=?_) rfl azl azl azl (fun _ _ _ h=>h) (Or.inl ⟨by rfl,?_⟩) azn ?_;rotate_left 1
  · exact ayo
  try simp only[ag,sA,sB,sC]
  refine wpAnyH_take (i:=32) (oi:={ dst:=V 54,op:=Op.load 87 (ae 53),type:=87,pos := "ref.go:278",after:=#[{ on:=31,ground:=af },{ on:=37,ground:=Ground.gcOnly Departure.lateStores }],guard:=X }) (v:=?_) rfl azl azl azl (fun _ _ _ h=>h) (Or.inl ⟨by rfl,?_⟩) azn ?_;rotate_left 1
  · exact ayo
  try simp only[ag,sA,sB,sC]
  refine wpAnyH_ready (rs:=[33,34,35]) azl cz ?_;refine ah (o:={ dst:=V 3,op:=Op.alloc 87,type:=0,pos := "ref.go:278",after:=#[],guard:=X }) rfl (fun K hK=>?_) ?_
  · go_simp
    clear hHeld;refine hK.out _ _ (F1.out _ bl) (fun hHeld=>?_);clear hK K
    try simp only[ag,sA,sB,sC]
    refine wpAnyH_ready (rs:=[34,35]) azl cz ?_;refine ah (o:={ dst:=V 4,op:=Op.alloc 87,type:=0,pos := "ref.go:278",after:=#[],guard:=X }) rfl (fun K hK=>?_) ?_
    · exact azt
    refine ah (o:={ dst:=V 5,op:=Op.alloc 87,type:=0,pos := "ref.go:278",after:=#[],guard:=X }) rfl (fun K hK=>?_) ?_
    · exact azu
    exact ai
  refine ah (o:={ dst:=V 4,op:=Op.alloc 87,type:=0,pos := "ref.go:278",after:=#[],guard:=X }) rfl (fun K hK=>?_) ?_
  · go_simp
    clear hHeld;refine hK.out _ _ (F1.out _ bl) (fun hHeld=>?_);clear hK K
    try simp only[ag,sA,sB,sC]
    refine wpAnyH_ready (rs:=[33,35]) azl cz ?_;refine ah (o:={ dst:=V 3,op:=Op.alloc 87,type:=0,pos := "ref.go:278",after:=#[],guard:=X }) rfl (fun K hK=>?_) ?_
    · exact azt
    refine ah (o:={ dst:=V 5,op:=Op.alloc 87,type:=0,pos := "ref.go:278",after:=#[],guard:=X }) rfl (fun K hK=>?_) ?_
    · exact azv
    exact ai
  refine ah (o:={ dst:=V 5,op:=Op.alloc 87,type:=0,pos := "ref.go:278",after:=#[],guard:=X }) rfl (fun K hK=>?_) ?_
  · go_simp
    clear hHeld;refine hK.out _ _ (F1.out _ bl) (fun hHeld=>?_);clear hK K
    try simp only[ag,sA,sB,sC]
    refine wpAnyH_ready (rs:=[33,34]) azl cz ?_;refine ah (o:={ dst:=V 3,op:=Op.alloc 87,type:=0,pos := "ref.go:278",after:=#[],guard:=X }) rfl (fun K hK=>?_) ?_
    · exact azu
    refine ah (o:={ dst:=V 4,op:=Op.alloc 87,type:=0,pos := "ref.go:278",after:=#[],guard:=X }) rfl (fun K hK=>?_) ?_
    · exact azv
    exact ai
  exact ai
 case rest=>
  obtain⟨B3,B4,B5,rfl,rfl,rfl,X1,X2,X3,hbc⟩:=hcut
  rename_i wc
  have HBC:Hid (Below w.heap.size w wc):=hid (by have q1:=HB1.out;exact bl);clear hbc F1 HB1;have i0:=X1.get (r:=0) rfl;have i1:=X1.get (r:=1) rfl;have i4:=X2.get (r:=0) rfl;have i8:=X3.get (r:=0) rfl;have i9:=X3.get (r:=1) rfl;have gz:v=(decide (x1.k=3)&&is eH (x1::x2::x3::r)&&decide (x2.k=2)&&decide (x3.k=3)&&is iG (x3::r)):=by
   have h:=HV.out;have e1:(decide (x1.k=3)&&is eH (x1::x2::x3::r))=is eH (x1::x2::x3::r):=by
    cases e:is eH (x1::x2::x3::r) with
    | true=>
     have hk:x1.k=3:=Tf PW.out bS bS e;rw[decide_eq_true hk];rfl
    | false=>rw[Bool.and_false]
   rw[e1,← h]
   cases e2:(is eH (x1::x2::x3::r)&&decide (x2.k=2)) with
   | false=>rw[Bool.false_and,Bool.false_and,Bool.false_and]
   | true=>
    simp only[Bool.and_eq_true,decide_eq_true_eq] at e2;have g2:=(kU PW.out bS e2.1).1;have g3:Gd (x3::r):=(g2.tail (by show ¬x2.k=0;omega)).1;have e3:(decide (x3.k=3)&&is iG (x3::r))=is iG (x3::r):=by
     cases e:is iG (x3::r) with
     | true=>
      have hk:x3.k=3:=Tf g3 bS bS e;rw[decide_eq_true hk];rfl
     | false=>rw[Bool.and_false]
    rw[Bool.true_and,Bool.true_and,e3]
  have GZ:=hid gz;clear X1 X2 X3 gz HV PW;by_cases k1:x1.k=3;rotate_left 1
  · have q1:(x1.k==3)=false:=by simp[k1]
    obtain rfl:v=false:=by rw[GZ.out,decide_eq_false k1];rfl
    clear GZ k1;exact G6
  have q1:(x1.k==3)=true:=by simp[k1]
  by_cases k2:bs x1.t=bs eH;rotate_left 1
  · have q2:(x1.t.toList==[45])=false:=by
     have h:=pE k2;rwa [show eH.toList=[45] by first|rfl|decide|simp] at h
    have q2b:¬x1.t.toList=[45]:=beq_eq_false_iff_ne.1 q2;obtain rfl:v=false:=by rw[GZ.out,show is eH (x1::x2::x3::r)=false from decide_eq_false k2,Bool.and_false];rfl
    clear GZ k1 k2;exact G6
  have q2:(x1.t.toList==[45])=true:=by
   have h:=nS k2;rwa [show eH.toList=[45] by first|rfl|decide|simp] at h
  have q2b:x1.t.toList=[45]:=beq_iff_eq.1 q2;by_cases k3:x2.k=2;rotate_left 1
  · have q3:(x2.k==2)=false:=by simp[k3]
    obtain rfl:v=false:=by rw[GZ.out,decide_eq_false k3,Bool.and_false];rfl
    clear GZ k1 k2 k3;exact G6
  have q3:(x2.k==2)=true:=by simp[k3]
  by_cases k4:x3.k=3;rotate_left 1
  · have q4:(x3.k==3)=false:=by simp[k4]
    obtain rfl:v=false:=by rw[GZ.out,decide_eq_false k4,Bool.and_false];rfl
    clear GZ k1 k2 k3 k4;exact G6
  have q4:(x3.k==3)=true:=by simp[k4]
  by_cases k5:bs x3.t=bs iG;rotate_left 1
  · have q5:(x3.t.toList==[41])=false:=by
     have h:=pE k5;rwa [show iG.toList=[41] by first|rfl|decide|simp] at h
    have q5b:¬x3.t.toList=[41]:=beq_eq_false_iff_ne.1 q5;obtain rfl:v=false:=by rw[GZ.out,show is iG (x3::r)=false from decide_eq_false k5,Bool.and_false]
    clear GZ k1 k2 k3 k4 k5;exact G6
  have q5:(x3.t.toList==[41])=true:=by
   have h:=nS k5;rwa [show iG.toList=[41] by first|rfl|decide|simp] at h
  have q5b:x3.t.toList=[41]:=beq_iff_eq.1 q5;obtain rfl:v=true:=by rw[GZ.out,decide_eq_true k1,decide_eq_true k3,decide_eq_true k4,show is eH (x1::x2::x3::r)=true from decide_eq_true k2,show is iG (x3::r)=true from decide_eq_true k5];rfl
  clear GZ k1 k2 k3 k4 k5;exact G6
end
end Ps
end Go.Proofs.YthnillhnjhalmaaGreatDoor
