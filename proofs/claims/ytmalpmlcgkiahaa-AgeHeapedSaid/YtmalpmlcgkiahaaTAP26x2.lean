/- Piece 2 of function 26, the last, by the kernel. Conditions: none. -/
import Derived.Test.YtmalpmlcgkiahaaTAS26
namespace Go.Xe.TAP26x2
open Go Go.Xe Go.Proofs
set_option maxRecDepth 1000000
theorem run : startL TAS26.i2 TAS26.E2 (pd 17) (fun T => afterF (execF Try.prog TA.F0 4996 (fsdrop 4 TA.c26) none [] TAS26.t2 (.mk 6717 T)) [.tmp .o] endT) = .rt .e [] (.mk 0 .e) := by kernel_rfl
end Go.Xe.TAP26x2
