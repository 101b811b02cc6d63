/- Piece 1 of function 3, by the kernel. Conditions: none. -/
import Derived.Test.YtaboggibeenjmaaTGS3
namespace Go.Xe.TGP3x1
open Go Go.Xe Go.Proofs
set_option maxRecDepth 1000000
theorem run : startL TGS3.i1 TGS3.E1 (pd 17) (fun T => segF Try.prog TG.F1 4993 (fstake 1 (fsdrop 6 TG.c3)) TGS3.t1 [] (.mk 1867 T) (outR TGS3.i2)) = .nx TGS3.t2 [] (.mk 7048 TGS3.E2) := by kernel_rfl
theorem len : (fstake 1 (fsdrop 6 TG.c3)).length = 1 := by kernel_rfl
end Go.Xe.TGP3x1
