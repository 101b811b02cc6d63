/- The states between the pieces of function 16: its temporaries, and what its memory holds. Conditions: none. -/
import Derived.Test.YtjpacpgfcnfmkaaGreatTL
namespace Go.Xe.TLS16
open Go Go.Xe Go.Proofs
set_option maxRecDepth 1000000
abbrev U : Value := .tuple ⟨[]⟩
end Go.Xe.TLS16
