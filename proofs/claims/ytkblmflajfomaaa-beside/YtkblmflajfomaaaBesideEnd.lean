/- The statement on Beside. -/
import Derived.Test.YtkblmflajfomaaaBesideRow
import Derived.Test.YtkblmflajfomaaaPure3
namespace Go.Proofs.Ytkblmflajfomaaa

theorem beside_holds : Rows.BesideSaid := besideOver texts

end Go.Proofs.Ytkblmflajfomaaa
