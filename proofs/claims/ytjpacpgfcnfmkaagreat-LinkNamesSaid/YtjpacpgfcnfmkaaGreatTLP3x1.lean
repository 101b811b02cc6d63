/- Piece 1 of function 3, the last, by the kernel. Conditions: none. -/
import Derived.Test.YtjpacpgfcnfmkaaGreatTLS3
namespace Go.Xe.TLP3x1
open Go Go.Xe Go.Proofs
set_option maxRecDepth 1000000
theorem run : startL TLS3.i1 TLS3.E1 (pd 17) (fun T => afterF (execF Tryz.prog TL.F1 4994 (fsdrop 6 TL.c3) none [] TLS3.t1 (.mk 3116 T)) [.tmp .o] endT) = .rt .e [] (.mk 0 .e) := by kernel_rfl
end Go.Xe.TLP3x1
