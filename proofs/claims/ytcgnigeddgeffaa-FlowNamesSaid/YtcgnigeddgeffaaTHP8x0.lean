/- Piece 0 of function 8, the last, by the kernel. Conditions: none. -/
import Derived.Test.YtcgnigeddgeffaaTHS8
namespace Go.Xe.THP8x0
open Go Go.Xe Go.Proofs
set_option maxRecDepth 1000000
theorem run : startL [] .e (pd 17) (fun T => afterF (execF Try.prog TH.F1 5000 (fsdrop 0 TH.c8) none [] (mkTT 300) (.mk 0 T)) [.tmp .o] endT) = .rt .e [] (.mk 0 .e) := by kernel_rfl
end Go.Xe.THP8x0
