/- The states between the pieces of function 17: its temporaries, and what its memory holds. Conditions: none. -/
import Derived.Test.YtgcdbdcnlhonfaaTB
namespace Go.Xe.TBS17
open Go Go.Xe Go.Proofs
set_option maxRecDepth 1000000
abbrev U : Value:=.tuple ⟨[]⟩
end Go.Xe.TBS17
/- Piece 0 of function 17, the last, by the kernel. Conditions: none. -/
namespace Go.Xe.TBP17x0
open Go Go.Xe Go.Proofs
set_option maxRecDepth 1000000
theorem run : startL [] .e (pd 17) (fun T=>afterF (execF Try.prog TB.F0 5000 (fsdrop 0 TB.c17) none [] (mkTT 91) (.mk 0 T)) [.tmp .o] endT)=.rt .e [] (.mk 0 .e):=by kernel_rfl
end Go.Xe.TBP17x0
/- Function 17, called in any world, returns true and leaves the world as it was: its pieces put together. Conditions: none. -/
namespace Go.Xe.TBB17
open Go Go.Xe Go.Proofs
set_option maxRecDepth 1000000
theorem mixed : Try.prog.follows .mixedOrders=true:=by kernel_rfl
noncomputable def body : Code:=match Try.f17.body with|some c=>c|none=>.skip
theorem hb : Try.f17.body=some body:=by kernel_rfl
theorem hn : Try.f17.ntmps=91:=by kernel_rfl
theorem call : (∀ (w : World) (r : Option Nat) (n : Nat), CallsIn (FW r) n Try.prog 17 #[] w (Quiet (.bool true) w)) ∧ ∃ fn, Try.prog.funcs[(17 : Nat)]? = some fn ∧ fn.body.isSome = true ∧ (fn.name == "runtime.NumGoroutine") = false := by
 letI:=(Gl.none Try.prog)
 letI:=(Orc.none Try.prog)
 have hF:=TB.ok0 (Orc.none Try.prog) rfl
 obtain⟨hc,hres⟩:=of_entry hb TB.e17
 obtain⟨e,a,Hz,y1,y2,y3,y4⟩:=piece_last hF hc 0 5000 TB.o17 hres TBP17x0.run stOk_start
 have hx : exec Try.prog 5000 none body ⟨Array.replicate Try.f17.ntmps undef,[],Heap.empty⟩=some (e,a):=by rw[hn];exact y1
 obtain⟨z1,z2⟩:=xcall_of rfl TB.g17 hb TB.o17 hx y2 y3 y4
 obtain⟨k1,k2⟩:=closed_x (Orc.none Try.prog) mixed (start_x (Orc.none Try.prog) rfl) z1 z2
 exact⟨fun w r n=>k1 w r n (Nat.zero_le _) trivial,k2⟩
end Go.Xe.TBB17
/- What is known of function 17 may be taken at its word. Conditions: none. -/
namespace Go.Xe.TBO
open Go Go.Xe Go.Proofs
set_option maxRecDepth 1000000
@[reducible] def orc : Orc Try.prog:=⟨0,fun _=>True,fun _ _ _ _=>trivial,TB.orcs1,fun g b h=>by
 unfold TB.orcs1 at h
 split at h
 ·rename_i hg
  cases h
  subst hg
  exact⟨fun w r n _ _=>TBB17.call.1 w r n,TBB17.call.2⟩
 ·cases h⟩
end Go.Xe.TBO
