/- Keys of a map that are texts. -/
import Derived.Test.YtmklgiononbmmaaVn
import Derived.Maps.OwnSet
import Derived.Lib.IndexAny
import Derived.Lib.IndexLaws
import Derived.Shelf.Small.Strs
namespace Go.Proofs.Ytmklgiononbmmaa
open Go.RowKit
theorem lawS : Maps.Keyed Try.prog 9 := Maps.string_keyed Try.underlying9
theorem zeroU (w : World) : (zeroValue 59).run Try.prog w = .ok (.agg #[]) w := by kernel_rfl
end Go.Proofs.Ytmklgiononbmmaa
