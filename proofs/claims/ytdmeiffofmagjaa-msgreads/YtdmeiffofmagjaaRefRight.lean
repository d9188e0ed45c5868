/-
  The contract of the document's RightCmd, kinds all. Condition: its tag has 32 bytes.
-/
import Derived.Test.YtdmeiffofmagjaaRefRightA
import Derived.Test.YtdmeiffofmagjaaRefRightB
import Derived.Test.YtdmeiffofmagjaaRefRightC
namespace Go.Proofs.Ytdmeiffofmagjaa
open Go.RowKit
set_option linter.unusedVariables false

theorem refRight_any (c : Cmd) (w : World) (HT : Hid (c.tag.length = 32)) : Gives 14 #[c.v] w (.eq (.bool c.right)) := by
  by_cases h1 : c.k = 1
  · exact rr_1 c w HT h1
  by_cases h2 : c.k = 2
  · exact rr_2 c w HT h2
  by_cases h3 : c.k = 3
  · exact rr_3 c w HT h3
  by_cases h4 : c.k = 4
  · exact rr_4 c w HT h4
  by_cases h5 : c.k = 5
  · exact rr_5 c w HT h5
  by_cases h6 : c.k = 6
  · exact rr_6 c w HT h6
  by_cases h7 : c.k = 7
  · exact rr_7 c w HT h7
  by_cases h8 : c.k = 8
  · exact rr_8 c w HT h8
  by_cases h9 : c.k = 9
  · exact rr_9 c w HT h9
  exact rr_d c w HT (by simpa using h1) (by simpa using h2) (by simpa using h3) (by simpa using h4) (by simpa using h5) (by simpa using h6) (by simpa using h7) (by simpa using h8) (by simpa using h9)
theorem right_is (c : Cmd) (b : Bool) (w : World) (HT : Hid (c.tag.length = 32)) (hb : c.right = b) : Gives 14 #[c.v] w (.eq (.bool b)) := by
  subst hb
  exact refRight_any c w HT
end Go.Proofs.Ytdmeiffofmagjaa
