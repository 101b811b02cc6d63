/- Piece 5 of function 3, by the kernel. Conditions: none. -/
import Derived.Test.YtaboggibeenjmaaTGS3
namespace Go.Xe.TGP3x5
open Go Go.Xe Go.Proofs
set_option maxRecDepth 1000000
theorem run : startL TGS3.i5 TGS3.E5 (pd 17) (fun T => segF Try.prog TG.F1 4988 (fstake 1 (fsdrop 11 TG.c3)) TGS3.t5 [] (.mk 21069 T) (outR TGS3.i6)) = .nx TGS3.t6 [] (.mk 25381 TGS3.E6) := by kernel_rfl
theorem len : (fstake 1 (fsdrop 11 TG.c3)).length = 1 := by kernel_rfl
end Go.Xe.TGP3x5
