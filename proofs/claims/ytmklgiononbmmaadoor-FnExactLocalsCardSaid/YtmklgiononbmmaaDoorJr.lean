/- Keys of a map that are texts. -/
import Derived.Test.YtmklgiononbmmaaDoorVn
import Derived.Maps.OwnSet
import Derived.Lib.IndexAny
import Derived.Lib.IndexLaws
import Derived.Shelf.Small.Strs
namespace Go.Proofs.YtmklgiononbmmaaDoor
open Go.RowKit
theorem lawS : Maps.Keyed Tryd.prog 9 := Maps.string_keyed Tryd.underlying9
theorem zeroU (w : World) : (zeroValue 66).run Tryd.prog w = .ok (.agg #[]) w := by kernel_rfl
end Go.Proofs.YtmklgiononbmmaaDoor
