/- Piece 1 of function 26, by the kernel. Conditions: none. -/
import Derived.Test.YtmalpmlcgkiahaaTAS26
namespace Go.Xe.TAP26x1
open Go Go.Xe Go.Proofs
set_option maxRecDepth 1000000
theorem run : startL TAS26.i1 TAS26.E1 (pd 17) (fun T => segF Try.prog TA.F0 4996 (fstake 1 (fsdrop 3 TA.c26)) TAS26.t1 [] (.mk 4220 T) (outR TAS26.i2)) = .nx TAS26.t2 [] (.mk 6717 TAS26.E2) := by kernel_rfl
theorem len : (fstake 1 (fsdrop 3 TA.c26)).length = 1 := by kernel_rfl
end Go.Xe.TAP26x1
