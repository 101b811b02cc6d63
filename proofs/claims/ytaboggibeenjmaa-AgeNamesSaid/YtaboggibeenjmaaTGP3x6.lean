/- Piece 6 of function 3, by the kernel. Conditions: none. -/
import Derived.Test.YtaboggibeenjmaaTGS3
namespace Go.Xe.TGP3x6
open Go Go.Xe Go.Proofs
set_option maxRecDepth 1000000
theorem run : startL TGS3.i6 TGS3.E6 (pd 17) (fun T => segF Try.prog TG.F1 4986 (fstake 2 (fsdrop 12 TG.c3)) TGS3.t6 [] (.mk 25381 T) (outR TGS3.i7)) = .nx TGS3.t7 [] (.mk 29699 TGS3.E7) := by kernel_rfl
theorem len : (fstake 2 (fsdrop 12 TG.c3)).length = 2 := by kernel_rfl
end Go.Xe.TGP3x6
