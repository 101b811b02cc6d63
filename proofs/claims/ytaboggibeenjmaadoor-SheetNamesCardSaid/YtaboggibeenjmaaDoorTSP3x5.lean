/- Piece 5 of function 3, the last, by the kernel. Conditions: none. -/
import Derived.Test.YtaboggibeenjmaaDoorTSS3
namespace Go.Xe.TSP3x5
open Go Go.Xe Go.Proofs
set_option maxRecDepth 1000000
theorem run : startL TSS3.i5 TSS3.E5 (pd 17) (fun T => afterF (execF Tryd.prog TS.F1 4991 (fsdrop 9 TS.c3) none [] TSS3.t5 (.mk 8627 T)) [.tmp .o] endT) = .rt .e [] (.mk 0 .e) := by kernel_rfl
end Go.Xe.TSP3x5
