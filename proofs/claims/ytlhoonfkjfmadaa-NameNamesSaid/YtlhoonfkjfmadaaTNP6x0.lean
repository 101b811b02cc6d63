/- Piece 0 of function 6, by the kernel. Conditions: none. -/
import Derived.Test.YtlhoonfkjfmadaaTNS6
namespace Go.Xe.TNP6x0
open Go Go.Xe Go.Proofs
set_option maxRecDepth 1000000
theorem run : startL [] .e (pd 17) (fun T => segF Try.prog TN.F1 4995 (fstake 5 (fsdrop 0 TN.c6)) (mkTT 216) [] (.mk 0 T) (outR TNS6.i1)) = .nx TNS6.t1 [] (.mk 2005 TNS6.E1) := by kernel_rfl
theorem len : (fstake 5 (fsdrop 0 TN.c6)).length = 5 := by kernel_rfl
end Go.Xe.TNP6x0
