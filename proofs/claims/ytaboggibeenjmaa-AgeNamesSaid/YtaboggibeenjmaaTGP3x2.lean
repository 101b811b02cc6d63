/- Piece 2 of function 3, by the kernel. Conditions: none. -/
import Derived.Test.YtaboggibeenjmaaTGS3
namespace Go.Xe.TGP3x2
open Go Go.Xe Go.Proofs
set_option maxRecDepth 1000000
theorem run : startL TGS3.i2 TGS3.E2 (pd 17) (fun T => segF Try.prog TG.F1 4991 (fstake 2 (fsdrop 7 TG.c3)) TGS3.t2 [] (.mk 7048 T) (outR TGS3.i3)) = .nx TGS3.t3 [] (.mk 12437 TGS3.E3) := by kernel_rfl
theorem len : (fstake 2 (fsdrop 7 TG.c3)).length = 2 := by kernel_rfl
end Go.Xe.TGP3x2
