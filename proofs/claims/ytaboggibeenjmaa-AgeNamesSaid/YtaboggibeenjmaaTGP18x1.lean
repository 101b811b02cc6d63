/- Piece 1 of function 18, by the kernel. Conditions: none. -/
import Derived.Test.YtaboggibeenjmaaTGS18
namespace Go.Xe.TGP18x1
open Go Go.Xe Go.Proofs
set_option maxRecDepth 1000000
theorem run : startL TGS18.i1 TGS18.E1 (pd 17) (fun T => segF Try.prog TG.F0 4996 (fstake 1 (fsdrop 3 TG.c18)) TGS18.t1 [] (.mk 4220 T) (outR TGS18.i2)) = .nx TGS18.t2 [] (.mk 6717 TGS18.E2) := by kernel_rfl
theorem len : (fstake 1 (fsdrop 3 TG.c18)).length = 1 := by kernel_rfl
end Go.Xe.TGP18x1
