/- Expressions put behind a text, by the model: operations. -/
import Derived.Test.YtleakieppapjmaaDoorT38
namespace Go.Proofs.YtleakieppapjmaaDoor
open Go.RowKit Go.Lib
end Go.Proofs.YtleakieppapjmaaDoor
