/- Piece 2 of function 6, the last, by the kernel. Conditions: none. -/
import Derived.Test.YtlhoonfkjfmadaaTNS6
namespace Go.Xe.TNP6x2
open Go Go.Xe Go.Proofs
set_option maxRecDepth 1000000
theorem run : startL TNS6.i2 TNS6.E2 (pd 17) (fun T => afterF (execF Try.prog TN.F1 4993 (fsdrop 7 TN.c6) none [] TNS6.t2 (.mk 7791 T)) [.tmp .o] endT) = .rt .e [] (.mk 0 .e) := by kernel_rfl
end Go.Xe.TNP6x2
