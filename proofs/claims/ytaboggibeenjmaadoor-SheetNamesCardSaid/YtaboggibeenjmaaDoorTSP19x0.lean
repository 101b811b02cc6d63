/- Piece 0 of function 19, by the kernel. Conditions: none. -/
import Derived.Test.YtaboggibeenjmaaDoorTSS19
namespace Go.Xe.TSP19x0
open Go Go.Xe Go.Proofs
set_option maxRecDepth 1000000
theorem run : startL [1] (.n (.cells TS.tab 0 false) .e .e) (pd 17) (fun T => segF Tryd.prog TS.F0 4998 (fstake 2 (fsdrop 0 TS.c19)) (mkTT 109) [] (.mk 2 T) (outR TSS19.i1)) = .nx TSS19.t1 [] (.mk 492 TSS19.E1) := by kernel_rfl
theorem len : (fstake 2 (fsdrop 0 TS.c19)).length = 2 := by kernel_rfl
end Go.Xe.TSP19x0
