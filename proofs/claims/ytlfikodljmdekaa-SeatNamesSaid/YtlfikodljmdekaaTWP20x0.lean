/- Piece 0 of function 20, the last, by the kernel. Conditions: none. -/
import Derived.Test.YtlfikodljmdekaaTWS20
namespace Go.Xe.TWP20x0
open Go Go.Xe Go.Proofs
set_option maxRecDepth 1000000
theorem run : startL [] .e (pd 17) (fun T=>afterF (execF Try.prog TW.F0 5000 (fsdrop 0 TW.c20) none [] (mkTT 105) (.mk 0 T)) [.tmp .o] endT)=.rt .e [] (.mk 0 .e):=by kernel_rfl
end Go.Xe.TWP20x0
