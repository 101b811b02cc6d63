/- Piece 0 of function 3, by the kernel. Conditions: none. -/
import Derived.Test.YtaboggibeenjmaaDoorTSS3
namespace Go.Xe.TSP3x0
open Go Go.Xe Go.Proofs
set_option maxRecDepth 1000000
theorem run : startL [1] (.n (.cells TS.tab 0 false) .e .e) (pd 17) (fun T => segF Tryd.prog TS.F1 4997 (fstake 3 (fsdrop 0 TS.c3)) (mkTT 301) [] (.mk 2 T) (outR TSS3.i1)) = .nx TSS3.t1 [] (.mk 1754 TSS3.E1) := by kernel_rfl
theorem len : (fstake 3 (fsdrop 0 TS.c3)).length = 3 := by kernel_rfl
end Go.Xe.TSP3x0
