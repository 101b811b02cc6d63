/- Piece 1 of function 3, by the kernel. Conditions: none. -/
import Derived.Test.YtaboggibeenjmaaDoorTSS3
namespace Go.Xe.TSP3x1
open Go Go.Xe Go.Proofs
set_option maxRecDepth 1000000
theorem run : startL TSS3.i1 TSS3.E1 (pd 17) (fun T => segF Tryd.prog TS.F1 4996 (fstake 1 (fsdrop 3 TS.c3)) TSS3.t1 [] (.mk 1754 T) (outR TSS3.i2)) = .nx TSS3.t2 [] (.mk 3020 TSS3.E2) := by kernel_rfl
theorem len : (fstake 1 (fsdrop 3 TS.c3)).length = 1 := by kernel_rfl
end Go.Xe.TSP3x1
