/- Function 7, called in any world, returns true and leaves the world as it was: its pieces put together. Conditions: none. -/
import Derived.Test.YtgcdbdcnlhonfaaTWP7x0
import Derived.Test.YtgcdbdcnlhonfaaTWO
namespace Go.Xe.TWB7
open Go Go.Xe Go.Proofs
set_option maxRecDepth 1000000
theorem mixed : Try.prog.follows .mixedOrders=true:=by kernel_rfl
noncomputable def body : Code:=match Try.f7.body with|some c=>c|none=>.skip
theorem hb : Try.f7.body=some body:=by kernel_rfl
theorem hn : Try.f7.ntmps=276:=by kernel_rfl
theorem call : (∀ (w : World) (r : Option Nat) (n : Nat), CallsIn (FW r) n Try.prog 7 #[] w (Quiet (.bool true) w)) ∧ ∃ fn, Try.prog.funcs[(7 : Nat)]? = some fn ∧ fn.body.isSome = true ∧ (fn.name == "runtime.NumGoroutine") = false := by
 letI:=(Gl.none Try.prog)
 letI:=TWO.orc
 have hF:=TW.ok1 TWO.orc rfl
 obtain⟨hc,hres⟩:=of_entry hb TW.e7
 obtain⟨e,a,Hz,y1,y2,y3,y4⟩:=piece_last hF hc 0 5000 TW.o7 hres TWP7x0.run stOk_start
 have hx : exec Try.prog 5000 none body ⟨Array.replicate Try.f7.ntmps undef,[],Heap.empty⟩=some (e,a):=by rw[hn];exact y1
 obtain⟨z1,z2⟩:=xcall_of rfl TW.g7 hb TW.o7 hx y2 y3 y4
 obtain⟨k1,k2⟩:=closed_x TWO.orc mixed (start_x TWO.orc rfl) z1 z2
 exact⟨fun w r n=>k1 w r n (Nat.zero_le _) trivial,k2⟩
end Go.Xe.TWB7
