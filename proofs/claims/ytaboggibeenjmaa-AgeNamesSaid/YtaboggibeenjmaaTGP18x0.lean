/- Piece 0 of function 18, by the kernel. Conditions: none. -/
import Derived.Test.YtaboggibeenjmaaTGS18
namespace Go.Xe.TGP18x0
open Go Go.Xe Go.Proofs
set_option maxRecDepth 1000000
theorem run : startL [] .e (pd 17) (fun T => segF Try.prog TG.F0 4997 (fstake 3 (fsdrop 0 TG.c18)) (mkTT 108) [] (.mk 0 T) (outR TGS18.i1)) = .nx TGS18.t1 [] (.mk 4220 TGS18.E1) := by kernel_rfl
theorem len : (fstake 3 (fsdrop 0 TG.c18)).length = 3 := by kernel_rfl
end Go.Xe.TGP18x0
