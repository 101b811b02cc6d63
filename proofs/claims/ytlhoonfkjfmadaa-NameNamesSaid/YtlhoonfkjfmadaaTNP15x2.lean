/- Piece 2 of function 15, the last, by the kernel. Conditions: none. -/
import Derived.Test.YtlhoonfkjfmadaaTNS15
namespace Go.Xe.TNP15x2
open Go Go.Xe Go.Proofs
set_option maxRecDepth 1000000
theorem run : startL TNS15.i2 TNS15.E2 (pd 17) (fun T => afterF (execF Try.prog TN.F0 4995 (fsdrop 5 TN.c15) none [] TNS15.t2 (.mk 9188 T)) [.tmp .o] endT) = .rt .e [] (.mk 0 .e) := by kernel_rfl
end Go.Xe.TNP15x2
