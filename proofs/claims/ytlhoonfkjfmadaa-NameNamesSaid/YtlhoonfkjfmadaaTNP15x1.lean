/- Piece 1 of function 15, by the kernel. Conditions: none. -/
import Derived.Test.YtlhoonfkjfmadaaTNS15
namespace Go.Xe.TNP15x1
open Go Go.Xe Go.Proofs
set_option maxRecDepth 1000000
theorem run : startL TNS15.i1 TNS15.E1 (pd 17) (fun T => segF Try.prog TN.F0 4995 (fstake 1 (fsdrop 4 TN.c15)) TNS15.t1 [] (.mk 4261 T) (outR TNS15.i2)) = .nx TNS15.t2 [] (.mk 9188 TNS15.E2) := by kernel_rfl
theorem len : (fstake 1 (fsdrop 4 TN.c15)).length = 1 := by kernel_rfl
end Go.Xe.TNP15x1
