/- Piece 1 of function 19, by the kernel. Conditions: none. -/
import Derived.Test.YtaboggibeenjmaaDoorTSS19
namespace Go.Xe.TSP19x1
open Go Go.Xe Go.Proofs
set_option maxRecDepth 1000000
theorem run : startL TSS19.i1 TSS19.E1 (pd 17) (fun T => segF Tryd.prog TS.F0 4997 (fstake 1 (fsdrop 2 TS.c19)) TSS19.t1 [] (.mk 492 T) (outR TSS19.i2)) = .nx TSS19.t2 [] (.mk 2643 TSS19.E2) := by kernel_rfl
theorem len : (fstake 1 (fsdrop 2 TS.c19)).length = 1 := by kernel_rfl
end Go.Xe.TSP19x1
