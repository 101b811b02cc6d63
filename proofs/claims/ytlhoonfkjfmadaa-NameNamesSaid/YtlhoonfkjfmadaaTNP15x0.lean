/- Piece 0 of function 15, by the kernel. Conditions: none. -/
import Derived.Test.YtlhoonfkjfmadaaTNS15
namespace Go.Xe.TNP15x0
open Go Go.Xe Go.Proofs
set_option maxRecDepth 1000000
theorem run : startL [] .e (pd 17) (fun T => segF Try.prog TN.F0 4996 (fstake 4 (fsdrop 0 TN.c15)) (mkTT 84) [] (.mk 0 T) (outR TNS15.i1)) = .nx TNS15.t1 [] (.mk 4261 TNS15.E1) := by kernel_rfl
theorem len : (fstake 4 (fsdrop 0 TN.c15)).length = 4 := by kernel_rfl
end Go.Xe.TNP15x0
