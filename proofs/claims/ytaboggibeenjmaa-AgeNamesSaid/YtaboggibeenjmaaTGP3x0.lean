/- Piece 0 of function 3, by the kernel. Conditions: none. -/
import Derived.Test.YtaboggibeenjmaaTGS3
namespace Go.Xe.TGP3x0
open Go Go.Xe Go.Proofs
set_option maxRecDepth 1000000
theorem run : startL [] .e (pd 17) (fun T => segF Try.prog TG.F1 4994 (fstake 6 (fsdrop 0 TG.c3)) (mkTT 307) [] (.mk 0 T) (outR TGS3.i1)) = .nx TGS3.t1 [] (.mk 1867 TGS3.E1) := by kernel_rfl
theorem len : (fstake 6 (fsdrop 0 TG.c3)).length = 6 := by kernel_rfl
end Go.Xe.TGP3x0
