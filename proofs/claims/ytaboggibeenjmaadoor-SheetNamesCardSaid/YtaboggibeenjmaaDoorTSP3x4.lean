/- Piece 4 of function 3, by the kernel. Conditions: none. -/
import Derived.Test.YtaboggibeenjmaaDoorTSS3
namespace Go.Xe.TSP3x4
open Go Go.Xe Go.Proofs
set_option maxRecDepth 1000000
theorem run : startL TSS3.i4 TSS3.E4 (pd 17) (fun T => segF Tryd.prog TS.F1 4991 (fstake 1 (fsdrop 8 TS.c3)) TSS3.t4 [] (.mk 6632 T) (outR TSS3.i5)) = .nx TSS3.t5 [] (.mk 8627 TSS3.E5) := by kernel_rfl
theorem len : (fstake 1 (fsdrop 8 TS.c3)).length = 1 := by kernel_rfl
end Go.Xe.TSP3x4
