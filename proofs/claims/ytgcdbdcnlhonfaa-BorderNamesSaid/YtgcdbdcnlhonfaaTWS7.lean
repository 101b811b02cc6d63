/- The states between the pieces of function 7: its temporaries, and what its memory holds. Conditions: none. -/
import Derived.Test.YtgcdbdcnlhonfaaTW
namespace Go.Xe.TWS7
open Go Go.Xe Go.Proofs
set_option maxRecDepth 1000000
abbrev U : Value:=.tuple ⟨[]⟩
end Go.Xe.TWS7
