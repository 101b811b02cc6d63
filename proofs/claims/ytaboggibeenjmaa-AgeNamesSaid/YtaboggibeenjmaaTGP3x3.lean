/- Piece 3 of function 3, by the kernel. Conditions: none. -/
import Derived.Test.YtaboggibeenjmaaTGS3
namespace Go.Xe.TGP3x3
open Go Go.Xe Go.Proofs
set_option maxRecDepth 1000000
theorem run : startL TGS3.i3 TGS3.E3 (pd 17) (fun T => segF Try.prog TG.F1 4990 (fstake 1 (fsdrop 9 TG.c3)) TGS3.t3 [] (.mk 12437 T) (outR TGS3.i4)) = .nx TGS3.t4 [] (.mk 16757 TGS3.E4) := by kernel_rfl
theorem len : (fstake 1 (fsdrop 9 TG.c3)).length = 1 := by kernel_rfl
end Go.Xe.TGP3x3
