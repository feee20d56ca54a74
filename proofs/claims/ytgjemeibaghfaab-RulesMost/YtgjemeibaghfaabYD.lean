/- The document's Right of rules. -/
import Derived.Test.YtgjemeibaghfaabYC
namespace Go.Proofs.Ytgjemeibaghfaab
open Go.RowKit Go.Shelf
set_option maxRecDepth 100000
set_option linter.unusedVariables false
set_option linter.unusedSimpArgs false

end Go.Proofs.Ytgjemeibaghfaab