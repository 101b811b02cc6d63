/- Piece 0 of function 26, by the kernel. Conditions: none. -/
import Derived.Test.YtmalpmlcgkiahaaTAS26
namespace Go.Xe.TAP26x0
open Go Go.Xe Go.Proofs
set_option maxRecDepth 1000000
theorem run : startL [] .e (pd 17) (fun T => segF Try.prog TA.F0 4997 (fstake 3 (fsdrop 0 TA.c26)) (mkTT 108) [] (.mk 0 T) (outR TAS26.i1)) = .nx TAS26.t1 [] (.mk 4220 TAS26.E1) := by kernel_rfl
theorem len : (fstake 3 (fsdrop 0 TA.c26)).length = 3 := by kernel_rfl
end Go.Xe.TAP26x0
