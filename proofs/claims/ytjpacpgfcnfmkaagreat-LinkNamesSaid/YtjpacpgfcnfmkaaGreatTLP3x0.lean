/- Piece 0 of function 3, by the kernel. Conditions: none. -/
import Derived.Test.YtjpacpgfcnfmkaaGreatTLS3
namespace Go.Xe.TLP3x0
open Go Go.Xe Go.Proofs
set_option maxRecDepth 1000000
theorem run : startL [] .e (pd 17) (fun T => segF Tryz.prog TL.F1 4994 (fstake 6 (fsdrop 0 TL.c3)) (mkTT 233) [] (.mk 0 T) (outR TLS3.i1)) = .nx TLS3.t1 [] (.mk 3116 TLS3.E1) := by kernel_rfl
theorem len : (fstake 6 (fsdrop 0 TL.c3)).length = 6 := by kernel_rfl
end Go.Xe.TLP3x0
