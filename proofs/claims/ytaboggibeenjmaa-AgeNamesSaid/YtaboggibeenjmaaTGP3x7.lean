/- Piece 7 of function 3, the last, by the kernel. Conditions: none. -/
import Derived.Test.YtaboggibeenjmaaTGS3
namespace Go.Xe.TGP3x7
open Go Go.Xe Go.Proofs
set_option maxRecDepth 1000000
theorem run : startL TGS3.i7 TGS3.E7 (pd 17) (fun T => afterF (execF Try.prog TG.F1 4986 (fsdrop 14 TG.c3) none [] TGS3.t7 (.mk 29699 T)) [.tmp .o] endT) = .rt .e [] (.mk 0 .e) := by kernel_rfl
end Go.Xe.TGP3x7
