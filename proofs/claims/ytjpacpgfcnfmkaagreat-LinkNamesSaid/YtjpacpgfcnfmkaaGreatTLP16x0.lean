/- Piece 0 of function 16, the last, by the kernel. Conditions: none. -/
import Derived.Test.YtjpacpgfcnfmkaaGreatTLS16
namespace Go.Xe.TLP16x0
open Go Go.Xe Go.Proofs
set_option maxRecDepth 1000000
theorem run : startL [] .e (pd 17) (fun T => afterF (execF Tryz.prog TL.F0 5000 (fsdrop 0 TL.c16) none [] (mkTT 93) (.mk 0 T)) [.tmp .o] endT) = .rt .e [] (.mk 0 .e) := by kernel_rfl
end Go.Xe.TLP16x0
