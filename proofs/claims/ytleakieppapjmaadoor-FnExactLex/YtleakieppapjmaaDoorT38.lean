/- Expressions put behind a text, by the model: fields, elements, operations. -/
import Derived.Test.YtleakieppapjmaaDoorT37
namespace Go.Proofs.YtleakieppapjmaaDoor
open Go.RowKit Go.Lib
end Go.Proofs.YtleakieppapjmaaDoor
