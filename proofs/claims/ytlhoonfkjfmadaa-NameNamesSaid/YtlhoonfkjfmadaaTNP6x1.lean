/- Piece 1 of function 6, by the kernel. Conditions: none. -/
import Derived.Test.YtlhoonfkjfmadaaTNS6
namespace Go.Xe.TNP6x1
open Go Go.Xe Go.Proofs
set_option maxRecDepth 1000000
theorem run : startL TNS6.i1 TNS6.E1 (pd 17) (fun T => segF Try.prog TN.F1 4993 (fstake 2 (fsdrop 5 TN.c6)) TNS6.t1 [] (.mk 2005 T) (outR TNS6.i2)) = .nx TNS6.t2 [] (.mk 7791 TNS6.E2) := by kernel_rfl
theorem len : (fstake 2 (fsdrop 5 TN.c6)).length = 2 := by kernel_rfl
end Go.Xe.TNP6x1
