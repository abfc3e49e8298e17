/-
  Parts of this proof: The contracts of letter and digit, of the librar.
-/
import Derived.Test.YthnillhnjhalmaaGreatDoorYNuMath
open Go.Proofs.Tryz
open Go.Proofs.Tryz renaming prog->ae
set_option maxHeartbeats 1000000
namespace Go.Proofs.YthnillhnjhalmaaGreatDoor
namespace Na
open Go.RowKit
theorem aqV {p:Prop} (h:p:=by
 exact CQ
 ):p:=h
theorem JC (x:Int) (w:World):Calls ae 88 #[.int .u8 x] w fun e w'=>e=.returned (.bool (gM x))/\w'=w:=by
 unfold gM;by_cases h1:97<=x
 · have t1:decide (97<=x)=true:=decide_eq_true h1;have HR:Hid (decide (x<=122)=(decide (97<=x)&&decide (x<=122))):=Lib.hid (by rw[t1];rfl);by_cases h2:x<=122
   · have t2:decide (x<=122)=true:=decide_eq_true h2;rw[t1,t2];clear HR;go_enter func88,ntmps88;exact aqV
   · have t2:decide (x<=122)=false:=decide_eq_false h2;rw[t1,t2];clear HR;go_enter func88,ntmps88;exact aqV
 · have t1:decide (97<=x)=false:=decide_eq_false h1;rw[t1,Bool.false_and];go_enter func88,ntmps88;exact aqV
theorem IC (x:Int) (w:World):Calls ae 90 #[.int .u8 x] w fun e w'=>e=.returned (.bool (gV x))/\w'=w:=by
 unfold gV;by_cases h1:48<=x
 · have t1:decide (48<=x)=true:=decide_eq_true h1;by_cases h2:x<=57
   · have t2:decide (x<=57)=true:=decide_eq_true h2;rw[t1,t2];go_enter func90,ntmps90;exact aqV
   · have t2:decide (x<=57)=false:=decide_eq_false h2;rw[t1,t2];go_enter func90,ntmps90;exact aqV
 · have t1:decide (48<=x)=false:=decide_eq_false h1;rw[t1,Bool.false_and];go_enter func90,ntmps90;exact aqV
theorem Uf (x:Int) (w:World):Calls ae 179 #[.int .u8 x] w fun e w'=>e=.returned (.bool (gM x))/\w'=w:=by
 unfold gM;by_cases h1:97<=x
 · have t1:decide (97<=x)=true:=decide_eq_true h1;by_cases h2:x<=122
   · have t2:decide (x<=122)=true:=decide_eq_true h2;rw[t1,t2];go_enter func179,ntmps179;exact aqV
   · have t2:decide (x<=122)=false:=decide_eq_false h2;rw[t1,t2];go_enter func179,ntmps179;exact aqV
 · have t1:decide (97<=x)=false:=decide_eq_false h1;rw[t1,Bool.false_and];go_enter func179,ntmps179;exact aqV
theorem zt {x:Int} {b:Bool} (h:gM x=b) (w:World):Calls ae 88 #[.int .u8 x] w fun e w'=>e=.returned (.bool b)/\w'=w:=by rw[← h];exact JC x w
theorem FH {x:Int} {b:Bool} (h:gV x=b) (w:World):Calls ae 90 #[.int .u8 x] w fun e w'=>e=.returned (.bool b)/\w'=w:=by rw[← h];exact IC x w
theorem sj {x:Int} {b:Bool} (h:gM x=b) (w:World):Calls ae 179 #[.int .u8 x] w fun e w'=>e=.returned (.bool b)/\w'=w:=by rw[← h];exact Uf x w
end Na
end Go.Proofs.YthnillhnjhalmaaGreatDoor
