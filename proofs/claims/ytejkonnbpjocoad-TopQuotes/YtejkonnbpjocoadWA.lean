/- The document's answers for four bytes got, and for words put. -/
import Derived.Test.YtejkonnbpjocoadW9
namespace Go.Proofs.Ytejkonnbpjocoad
set_option maxRecDepth 100000
open Go.RowKit Go.Shelf