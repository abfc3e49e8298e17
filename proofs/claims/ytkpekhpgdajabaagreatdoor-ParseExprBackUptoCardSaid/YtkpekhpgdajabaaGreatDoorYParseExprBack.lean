/-
  An expression that is accepted is read from its text, whatever parentheses and blanks it has, for every expression and every seed. Conditions: the arguments hold together at most 1048576 values and letters, each counted each time it is reached; the library variables of strconv and math/bits that the row lists hold what their initialisers lay, which the card ties to the program text.
-/
import Derived.Test.YtkpekhpgdajabaaGreatDoorYbTPnG
import Derived.Test.YtkpekhpgdajabaaGreatDoorCards
import Derived.Test.YtkpekhpgdajabaaGreatDoorTie
import Derived.SevenTiedAt
import Derived.Deep.DeepHandedRow
import Derived.Deep.DeepWitnessRowRef
open Go.Proofs.Tryz renaming prog->ae
set_option linter.unusedVariables false
set_option maxHeartbeats 4000000
namespace Go.Proofs.YtkpekhpgdajabaaGreatDoor
namespace ao2
open Go.ChangeShapes Go.WideShapes Go.ChangeAt Go.RowKit
open Nu (own ahk ahW aat)
set_option maxRecDepth 100000 in
theorem lifted (os:Os) (started:os.Started) (H:Type) (enc:TypeId×Value->H) (F:Stop.Interp) :
 ReturnsInHanded {} Tryz.checked os 3 .any ((Rows.OpenSpec.upto Rows.parseExprBackSpec).preRow enc ae Tryz.f3 Rows.parseExprBackUptoRow.domain false Rows.parseExprBackUptoRow.laid) (((Rows.OpenSpec.upto Rows.parseExprBackSpec).at F).post enc ae Tryz.f3 false true false false):=by
 obtain⟨places,hx⟩:∃places,DataW.whole enc ae ((World.doorLaid ae 62 os).forCall (fun _ _=>0) ⟨#[],#[.agg #[.int .i64 0,.string ⟨#[]⟩,.int .i64 0,.slice none 0 0],.int .u64 0],[]⟩).memory Tryz.f3.params.toList Rows.parseExprBackSpec.vars false (#[.agg #[.int .i64 0,.string ⟨#[]⟩,.int .i64 0,.slice none 0 0],.int .u64 0]:Array Value).toList 8=some ([.agg [.lit (.int .i64 0),.lit (.string []),.lit (.int .i64 0),.nil],.lit (.int .u64 0)],[],places):=⟨[],by kernel_rfl⟩
 refine returnsInHanded_of_row (C:=Tryz.checked) (s:=(Rows.OpenSpec.upto Rows.parseExprBackSpec)) own started (by kernel_rfl) Tryz.func3
  (witness_row_atRef (enc := enc) (C := Tryz.checked) false (World.doorLaid ae 62 os) #[.agg #[.int .i64 0, .string ⟨#[]⟩, .int .i64 0, .slice none 0 0], .int .u64 0] rfl (by kernel_rfl) (by kernel_rfl) (by kernel_rfl)
    (OpenSpec.preRow_of_cond 8 hx (by kernel_rfl) (fun k hk=>by cases hk;kernel_rfl) (by kernel_rfl) (ahk os _))) ?_
 intro W base args ds gs before hval0 hW _ hk0 _ hL _ _;have hk:=hk0 _ rfl;have hval:∀(j:Nat) t v,Tryz.f3.params[j]?=some t->args[j]?=some v->Value.okWide ae W .any base t v:=hval0;have hW':=hW;obtain⟨p,q,hA0,hV,rfl,hfz,hnd⟩:=hW;have hA:DataW.TrodAll enc ae W 0 (fun _=>true) true Tryz.f3.params.toList args.toList ds p:=hA0;rw[Tryz.params3] at hA hval;obtain⟨v0,v1,d0,d1,p0,p1,rfl,rfl,rfl,h0,h1⟩:=trodAll_two hA;obtain⟨rfl,rfl⟩:=trodVars_none hV;clear hA0 hval0;simp only[List.append_nil] at hW' hk;have ao8:Rows.uptoBulkAll [d0,d1]<=1048576:=of_decide_eq_true hk;simp only[Rows.uptoBulkAll] at ao8;have l0:∀y∈p0,y.block<W.heap.size:=fun y hy=>by simpa using hW'.lt y (by simp[hy])
 have l1:∀y∈p1,y.block<W.heap.size:=fun y hy=>by simpa using hW'.lt y (by simp[hy])
 obtain⟨e0,q0,m0,c0,rfl,I0,S0,C0⟩:=Ps.akU (hval 0 25 v0 rfl rfl) h0 (by omega);obtain⟨a1,rfl,-,-,w1⟩:=open_int Tryz.underlying26 (hval 1 26 v1 rfl rfl) h1;obtain⟨n1,rfl,g1⟩:=Ps.aon w1;refine(Ps.ao9 e0 q0 m0 c0 n1 W I0 S0 C0 g1 (ahW hL)).mono fun e W' ⟨he,hb⟩=>?_;subst he;exact⟨_,rfl,aat (s:=Rows.parseExprBackSpec) hW' (trodAll_mk1 (shut_bool Tryz.underlying4 _)) (trodAll_mk2 (Ex.aeA (by kernel_rfl) (of_decide_eq_true (by kernel_rfl)) h0 hb l0) (Ex.aeA (by kernel_rfl) (of_decide_eq_true (by kernel_rfl)) h1 hb l1)) rfl hb⟩
theorem row_holds:Rows.ParseExprBackUptoSaid:=
 OpenClaim.holds_of_cond 3 Tryz.f3 rfl rfl rfl rfl rfl rfl rfl ⟨rfl,rfl,rfl,rfl,rfl⟩ rfl rfl rfl rfl rfl (by kernel_rfl) Tryz.func3 (by kernel_rfl)
  (of_decide_eq_true (by kernel_rfl)) (by unfold Func.isWrapper;first|(rw[if_pos (by decide +kernel)];kernel_rfl)|(rw[if_neg (by decide +kernel)];exact⟨rfl,rfl⟩))
  (fun os started H enc _ F=>by rw[OpenClaim.pre_eq_preRow];exact lifted os started H enc F)
end ao2
section
open Go.ChangeShapes Go.WideShapes Go.ChangeAt Go.RowKit
theorem parseExprBackUpto_proved:Rows.ParseExprBackUptoCardSaid:=
 Claim7.holds_tied_plain_at .later [] [.data,.data,.data,.sentinel,.sentinel] true Rows.parseExprBackUptoCard.stood.harness true
  ao2.row_holds (fun _ h=>by cases h) (by kernel_rfl) (fun _ h=>by cases h) parseExprBackUpto_row_tie rfl ⟨rfl,rfl⟩ (by kernel_rfl) rfl
  (fun f fn hf hfn => by
    obtain rfl:f=3:=Option.some.inj ((show Tryz.prog.funcNamed "simulator/simulatorlaw12.ParseExprBack" = some 3 by kernel_rfl).symm.trans hf) |>.symm;obtain rfl:fn=Tryz.f3:=(Option.some.inj (Tryz.func3.symm.trans hfn)).symm;exact⟨by kernel_rfl,fun j t ht=>by
     rw[Tryz.params3] at ht;have hm:t∈[25,26]:=by simpa using Array.mem_of_getElem? ht
     have hall:([25,26].all fun u=>!Tryz.prog.wantsStandIn u)=true:=by kernel_rfl
     exact(show Tryz.prog.wantsStandIn t=false by simpa using List.all_eq_true.1 hall t hm)⟩)
  (by kernel_rfl)
end
end Go.Proofs.YtkpekhpgdajabaaGreatDoor
