/- Piece 2 of function 19, by the kernel. Conditions: none. -/
import Derived.Test.YtaboggibeenjmaaDoorTSS19
namespace Go.Xe.TSP19x2
open Go Go.Xe Go.Proofs
set_option maxRecDepth 1000000
theorem run : startL TSS19.i2 TSS19.E2 (pd 17) (fun T => segF Tryd.prog TS.F0 4995 (fstake 2 (fsdrop 3 TS.c19)) TSS19.t2 [] (.mk 2643 T) (outR TSS19.i3)) = .nx TSS19.t3 [] (.mk 4323 TSS19.E3) := by kernel_rfl
theorem len : (fstake 2 (fsdrop 3 TS.c19)).length = 2 := by kernel_rfl
end Go.Xe.TSP19x2
