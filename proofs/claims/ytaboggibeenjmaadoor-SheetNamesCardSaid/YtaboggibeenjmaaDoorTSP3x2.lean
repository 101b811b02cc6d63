/- Piece 2 of function 3, by the kernel. Conditions: none. -/
import Derived.Test.YtaboggibeenjmaaDoorTSS3
namespace Go.Xe.TSP3x2
open Go Go.Xe Go.Proofs
set_option maxRecDepth 1000000
theorem run : startL TSS3.i2 TSS3.E2 (pd 17) (fun T => segF Tryd.prog TS.F1 4995 (fstake 1 (fsdrop 4 TS.c3)) TSS3.t2 [] (.mk 3020 T) (outR TSS3.i3)) = .nx TSS3.t3 [] (.mk 5169 TSS3.E3) := by kernel_rfl
theorem len : (fstake 1 (fsdrop 4 TS.c3)).length = 1 := by kernel_rfl
end Go.Xe.TSP3x2
