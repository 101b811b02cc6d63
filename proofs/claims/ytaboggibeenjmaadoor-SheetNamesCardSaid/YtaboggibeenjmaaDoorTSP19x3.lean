/- Piece 3 of function 19, the last, by the kernel. Conditions: none. -/
import Derived.Test.YtaboggibeenjmaaDoorTSS19
namespace Go.Xe.TSP19x3
open Go Go.Xe Go.Proofs
set_option maxRecDepth 1000000
theorem run : startL TSS19.i3 TSS19.E3 (pd 17) (fun T => afterF (execF Tryd.prog TS.F0 4995 (fsdrop 5 TS.c19) none [] TSS19.t3 (.mk 4323 T)) [.tmp .o] endT) = .rt .e [] (.mk 0 .e) := by kernel_rfl
end Go.Xe.TSP19x3
