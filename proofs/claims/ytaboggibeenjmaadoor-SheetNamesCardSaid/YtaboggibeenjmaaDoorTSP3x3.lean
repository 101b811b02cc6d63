/- Piece 3 of function 3, by the kernel. Conditions: none. -/
import Derived.Test.YtaboggibeenjmaaDoorTSS3
namespace Go.Xe.TSP3x3
open Go Go.Xe Go.Proofs
set_option maxRecDepth 1000000
theorem run : startL TSS3.i3 TSS3.E3 (pd 17) (fun T => segF Tryd.prog TS.F1 4992 (fstake 3 (fsdrop 5 TS.c3)) TSS3.t3 [] (.mk 5169 T) (outR TSS3.i4)) = .nx TSS3.t4 [] (.mk 6632 TSS3.E4) := by kernel_rfl
theorem len : (fstake 3 (fsdrop 5 TS.c3)).length = 3 := by kernel_rfl
end Go.Xe.TSP3x3
