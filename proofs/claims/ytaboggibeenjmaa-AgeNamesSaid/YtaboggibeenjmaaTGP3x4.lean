/- Piece 4 of function 3, by the kernel. Conditions: none. -/
import Derived.Test.YtaboggibeenjmaaTGS3
namespace Go.Xe.TGP3x4
open Go Go.Xe Go.Proofs
set_option maxRecDepth 1000000
theorem run : startL TGS3.i4 TGS3.E4 (pd 17) (fun T => segF Try.prog TG.F1 4989 (fstake 1 (fsdrop 10 TG.c3)) TGS3.t4 [] (.mk 16757 T) (outR TGS3.i5)) = .nx TGS3.t5 [] (.mk 21069 TGS3.E5) := by kernel_rfl
theorem len : (fstake 1 (fsdrop 10 TG.c3)).length = 1 := by kernel_rfl
end Go.Xe.TGP3x4
