/- Piece 0 of function 7, the last, by the kernel. Conditions: none. -/
import Derived.Test.YtgcdbdcnlhonfaaTWS7
namespace Go.Xe.TWP7x0
open Go Go.Xe Go.Proofs
set_option maxRecDepth 1000000
theorem run : startL [] .e (pd 17) (fun T=>afterF (execF Try.prog TW.F1 5000 (fsdrop 0 TW.c7) none [] (mkTT 276) (.mk 0 T)) [.tmp .o] endT)=.rt .e [] (.mk 0 .e):=by kernel_rfl
end Go.Xe.TWP7x0
