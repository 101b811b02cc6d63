/- Piece 2 of function 18, the last, by the kernel. Conditions: none. -/
import Derived.Test.YtaboggibeenjmaaTGS18
namespace Go.Xe.TGP18x2
open Go Go.Xe Go.Proofs
set_option maxRecDepth 1000000
theorem run : startL TGS18.i2 TGS18.E2 (pd 17) (fun T => afterF (execF Try.prog TG.F0 4996 (fsdrop 4 TG.c18) none [] TGS18.t2 (.mk 6717 T)) [.tmp .o] endT) = .rt .e [] (.mk 0 .e) := by kernel_rfl
end Go.Xe.TGP18x2
