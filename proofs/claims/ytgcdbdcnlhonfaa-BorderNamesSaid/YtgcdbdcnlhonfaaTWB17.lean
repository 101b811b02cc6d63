/- Function 17, called in any world, returns true and leaves the world as it was: its pieces put together. Conditions: none. -/
import Derived.Test.YtgcdbdcnlhonfaaTWP17x0
namespace Go.Xe.TWB17
open Go Go.Xe Go.Proofs
set_option maxRecDepth 1000000
theorem mixed : Try.prog.follows .mixedOrders=true:=by kernel_rfl
noncomputable def body : Code:=match Try.f17.body with|some c=>c|none=>.skip
theorem hb : Try.f17.body=some body:=by kernel_rfl
theorem hn : Try.f17.ntmps=91:=by kernel_rfl
theorem call : (∀ (w : World) (r : Option Nat) (n : Nat), CallsIn (FW r) n Try.prog 17 #[] w (Quiet (.bool true) w)) ∧ ∃ fn, Try.prog.funcs[(17 : Nat)]? = some fn ∧ fn.body.isSome = true ∧ (fn.name == "runtime.NumGoroutine") = false := by
 letI:=(Gl.none Try.prog)
 letI:=(Orc.none Try.prog)
 have hF:=TW.ok0 (Orc.none Try.prog) rfl
 obtain⟨hc,hres⟩:=of_entry hb TW.e17
 obtain⟨e,a,Hz,y1,y2,y3,y4⟩:=piece_last hF hc 0 5000 TW.o17 hres TWP17x0.run stOk_start
 have hx : exec Try.prog 5000 none body ⟨Array.replicate Try.f17.ntmps undef,[],Heap.empty⟩=some (e,a):=by rw[hn];exact y1
 obtain⟨z1,z2⟩:=xcall_of rfl TW.g17 hb TW.o17 hx y2 y3 y4
 obtain⟨k1,k2⟩:=closed_x (Orc.none Try.prog) mixed (start_x (Orc.none Try.prog) rfl) z1 z2
 exact⟨fun w r n=>k1 w r n (Nat.zero_le _) trivial,k2⟩
end Go.Xe.TWB17
