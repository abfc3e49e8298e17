/-
  Expr returns the specified expression or error, for every text (the law looks at texts of at most 4000 bytes). Conditions: none on the arguments; the library variables of strconv and math/bits that the row lists hold what their initialisers lay, which the card ties to the program text.
-/
import Derived.Test.YthnillhnjhalmaaGreatDoorYPRSame2
import Derived.Test.YthnillhnjhalmaaGreatDoorCards
import Derived.Test.YthnillhnjhalmaaGreatDoorTie
open Go.Proofs.Tryz renaming prog->ae
set_option linter.unusedVariables false
set_option maxHeartbeats 4000000
namespace Go.Proofs.YthnillhnjhalmaaGreatDoor
namespace abU
open Go.ChangeShapes Go.WideShapes Go.ChangeAt Go.RowKit
open Go.ChangeMaps (open_string shut_string)
open Nu (own laidAll YL Zn Tv)
set_option maxRecDepth 100000 in
theorem lifted (os:Os) (started:os.Started) (H:Type) (enc:TypeId×Value->H) :
 ReturnsInHanded {} Tryz.checked os 3 .any (fun w args=>(Rows.parseExprsSpec.pre enc ae Tryz.f3 [] false w args/\laidMetH ae laidAll w)/\sizedMet enc ae Tryz.f3 (OpenSpec.ofChange Rows.parseExprsSpec) false w args)
  (Rows.parseExprsSpec.post enc ae Tryz.f3 false true false false):=by
 refine returnsInHanded_of_change_and (C:=Tryz.checked) (X:=fun w _=>laidMetH ae laidAll w) (fun _ _ _ hh h=>h.of_heap hh) own started (by kernel_rfl) Tryz.func3
  (ChangeSpec.witness_shaped (enc:=enc) (C:=Tryz.checked) (os:=os) (X:=fun w _=>laidMetH ae laidAll w) false (World.doorLaid ae 62 os) #[.string ⟨#[]⟩] 8 rfl (World.shaped_of_RefB (by kernel_rfl) (by kernel_rfl)) (by kernel_rfl) (by kernel_rfl) (by kernel_rfl) (YL os _)) ?_
 intro W base args ds gs before hval0 hW _ hsz0 hL _;have hval:∀(j:Nat) t v,Tryz.f3.params[j]?=some t->args[j]?=some v->Value.okWide ae W .any base t v:=hval0;have hW':=hW;obtain⟨p,q,hA0,hV,rfl,hfz,hnd⟩:=hW;have hA:DataW.TrodAll enc ae W 0 (fun _=>true) true Tryz.f3.params.toList args.toList ds p:=hA0;have hsz:(DataW.weightsEach ae (Tryz.f3.params.toList++Rows.parseExprsSpec.plain.varTypes ae) (ds++gs)).all (· <= reachBytes)=true:=hsz0;clear hsz0;rw[Tryz.params3] at hA hval hsz;obtain⟨v0,d0,rfl,rfl,h0⟩:=trodAll_one hA;obtain⟨rfl,rfl⟩:=trodVars_none hV;clear hA0 hval0;simp only[List.append_nil] at hW';have l0:∀y∈p,y.block<W.heap.size:=fun y hy=>by simpa using hW'.lt y (by simp[hy])
 obtain⟨a0,rfl,hd0,-,-⟩:=open_string Tryz.underlying9 (hval 0 9 v0 rfl rfl) h0;have b0:a0.size<=140737488355328:=by
  have h1:=sized_string hsz (j:=0) (t:=9) (bytes:=a0.data.toList) rfl (by rw[hd0];rfl);have h2:=reachBytes_lt;have e1:a0.size=a0.data.size:=rfl;have e2:a0.data.toList.length=a0.data.size:=Array.length_toList;have e3:(2:Nat) ^ 47=140737488355328:=by decide
  omega
 refine(Ps.amH a0 W b0 (Zn hL)).mono fun e W' ⟨he,hb⟩=>?_;subst he;exact⟨_,rfl,Tv hW' (trodAll_mk1 (shut_bool Tryz.underlying4 _)) (trodAll_mk1 (Ex.agb (by kernel_rfl) (of_decide_eq_true (by kernel_rfl)) h0 hb l0)) rfl hb⟩
theorem row_holds:Rows.ParseExprsSaid:=
 OpenClaim.holds_of_wide 3 Tryz.f3 rfl rfl rfl rfl rfl rfl rfl ⟨rfl,rfl,rfl,rfl,rfl⟩ rfl rfl rfl rfl rfl (by kernel_rfl) Tryz.func3 (by kernel_rfl)
  (of_decide_eq_true (by kernel_rfl)) (by unfold Func.isWrapper;first|(rw[if_pos (by decide +kernel)];kernel_rfl)|(rw[if_neg (by decide +kernel)];exact⟨rfl,rfl⟩))
  (fun os started H enc _=>lifted os started H enc)
end abU
section
open Go.ChangeShapes Go.WideShapes Go.ChangeAt Go.RowKit
theorem parseExprs_proved:Rows.ParseExprsCardSaid:=
 Claim7.holds_tied_plain_at .later [] [.data,.data,.data,.sentinel,.sentinel] true Rows.parseExprsCard.stood.harness true
  abU.row_holds (fun _ h=>by cases h) (by kernel_rfl) (fun _ h=>by cases h) parseExprs_row_tie rfl ⟨rfl,rfl⟩ (by kernel_rfl) rfl
  (fun f fn hf hfn => by
    obtain rfl:f=3:=Option.some.inj ((show Tryz.prog.funcNamed "simulator/simulatorlaw12.ParseExprs" = some 3 by kernel_rfl).symm.trans hf) |>.symm;obtain rfl:fn=Tryz.f3:=(Option.some.inj (Tryz.func3.symm.trans hfn)).symm;exact⟨by kernel_rfl,fun j t ht=>by
     rw[Tryz.params3] at ht;have hm:t∈[9]:=by simpa using Array.mem_of_getElem? ht
     have hall:([9].all fun u=>!Tryz.prog.wantsStandIn u)=true:=by kernel_rfl
     exact(show Tryz.prog.wantsStandIn t=false by simpa using List.all_eq_true.1 hall t hm)⟩)
  (by kernel_rfl)
end
end Go.Proofs.YthnillhnjhalmaaGreatDoor
