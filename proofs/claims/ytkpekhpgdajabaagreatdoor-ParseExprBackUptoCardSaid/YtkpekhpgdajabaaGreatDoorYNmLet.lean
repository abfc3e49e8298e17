/-
  Parts of this proof: The contracts of letter and digit, of the librar.
-/
import Derived.Test.YtkpekhpgdajabaaGreatDoorYNuMath
open Go.Proofs.Tryz
open Go.Proofs.Tryz renaming prog->ae
set_option maxHeartbeats 1000000
namespace Go.Proofs.YtkpekhpgdajabaaGreatDoor
namespace Na
open Go.RowKit
theorem Ah {p:Prop} (h:p:=by
 exact Ea
 ):p:=h
theorem Il (x:Int) (w:World):Calls ae 86 #[.int .u8 x] w fun e w'=>e=.returned (.bool (iT x))/\w'=w:=by
 unfold iT;by_cases h1:97<=x
 · have t1:decide (97<=x)=true:=decide_eq_true h1;have HR:Hid (decide (x<=122)=(decide (97<=x)&&decide (x<=122))):=Lib.hid (by rw[t1];rfl);by_cases h2:x<=122
   · have t2:decide (x<=122)=true:=decide_eq_true h2;rw[t1,t2];clear HR;go_enter func86,ntmps86;exact Ah
   · have t2:decide (x<=122)=false:=decide_eq_false h2;rw[t1,t2];clear HR;go_enter func86,ntmps86;exact Ah
 · have t1:decide (97<=x)=false:=decide_eq_false h1;rw[t1,Bool.false_and];go_enter func86,ntmps86;exact Ah
theorem GN (x:Int) (w:World):Calls ae 88 #[.int .u8 x] w fun e w'=>e=.returned (.bool (j_ x))/\w'=w:=by
 unfold j_;by_cases h1:48<=x
 · have t1:decide (48<=x)=true:=decide_eq_true h1;by_cases h2:x<=57
   · have t2:decide (x<=57)=true:=decide_eq_true h2;rw[t1,t2];go_enter func88,ntmps88;exact Ah
   · have t2:decide (x<=57)=false:=decide_eq_false h2;rw[t1,t2];go_enter func88,ntmps88;exact Ah
 · have t1:decide (48<=x)=false:=decide_eq_false h1;rw[t1,Bool.false_and];go_enter func88,ntmps88;exact Ah
theorem al1 (x:Int) (w:World):Calls ae 76 #[.int .u8 x] w fun e w'=>e=.returned (.bool (iT x))/\w'=w:=by
 unfold iT;by_cases h1:97<=x
 · have t1:decide (97<=x)=true:=decide_eq_true h1;by_cases h2:x<=122
   · have t2:decide (x<=122)=true:=decide_eq_true h2;rw[t1,t2];go_enter func76,ntmps76;exact Ah
   · have t2:decide (x<=122)=false:=decide_eq_false h2;rw[t1,t2];go_enter func76,ntmps76;exact Ah
 · have t1:decide (97<=x)=false:=decide_eq_false h1;rw[t1,Bool.false_and];go_enter func76,ntmps76;exact Ah
theorem yE {x:Int} {b:Bool} (h:iT x=b) (w:World):Calls ae 86 #[.int .u8 x] w fun e w'=>e=.returned (.bool b)/\w'=w:=by rw[← h];exact Il x w
theorem EB {x:Int} {b:Bool} (h:j_ x=b) (w:World):Calls ae 88 #[.int .u8 x] w fun e w'=>e=.returned (.bool b)/\w'=w:=by rw[← h];exact GN x w
theorem Be {x:Int} {b:Bool} (h:iT x=b) (w:World):Calls ae 76 #[.int .u8 x] w fun e w'=>e=.returned (.bool b)/\w'=w:=by rw[← h];exact al1 x w
end Na
end Go.Proofs.YtkpekhpgdajabaaGreatDoor
