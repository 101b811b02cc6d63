/- The states between the pieces of function 17: its temporaries, and what its memory holds. Conditions: none. -/
import Derived.Test.YtgcdbdcnlhonfaaTW
namespace Go.Xe.TWS17
open Go Go.Xe Go.Proofs
set_option maxRecDepth 1000000
abbrev U : Value:=.tuple ⟨[]⟩
end Go.Xe.TWS17
