/- The states between the pieces of function 24: its temporaries, and what its memory holds. Conditions: none. -/
import Derived.Test.YtglkpemncjoefaaTM
namespace Go.Xe.TMS24
open Go Go.Xe Go.Proofs
set_option maxRecDepth 1000000
abbrev U : Value := .tuple ⟨[]⟩
end Go.Xe.TMS24
/- Piece 0 of function 24, the last, by the kernel. Conditions: none. -/
namespace Go.Xe.TMP24x0
open Go Go.Xe Go.Proofs
set_option maxRecDepth 1000000
theorem run : startL [] .e (pd 17) (fun T => afterF (execF Try.prog TM.F0 5000 (fsdrop 0 TM.c24) none [] (mkTT 95) (.mk 0 T)) [.tmp .o] endT) = .rt .e [] (.mk 0 .e) := by kernel_rfl
end Go.Xe.TMP24x0
/- Function 24, called in any world, returns true and leaves the world as it was: its pieces put together. Conditions: none. -/
namespace Go.Xe.TMB24
open Go Go.Xe Go.Proofs
set_option maxRecDepth 1000000
theorem mixed : Try.prog.follows .mixedOrders = true := by kernel_rfl
noncomputable def body : Code := match Try.f24.body with | some c => c | none => .skip
theorem hb : Try.f24.body = some body := by kernel_rfl
theorem hn : Try.f24.ntmps = 95 := by kernel_rfl
theorem call : (∀ (w : World) (r : Option Nat) (n : Nat), CallsIn (FW r) n Try.prog 24 #[] w (Quiet (.bool true) w)) ∧ ∃ fn, Try.prog.funcs[(24 : Nat)]? = some fn ∧ fn.body.isSome = true ∧ (fn.name == "runtime.NumGoroutine") = false := by
  letI := (Gl.none Try.prog)
  letI := (Orc.none Try.prog)
  have hF := TM.ok0 (Orc.none Try.prog) rfl
  obtain ⟨hc, hres⟩ := of_entry hb TM.e24
  obtain ⟨e, a, Hz, y1, y2, y3, y4⟩ := piece_last hF hc 0 5000 TM.o24 hres TMP24x0.run stOk_start
  have hx : exec Try.prog 5000 none body ⟨Array.replicate Try.f24.ntmps undef, [], Heap.empty⟩ = some (e, a) := by rw [hn]; exact y1
  obtain ⟨z1, z2⟩ := xcall_of rfl TM.g24 hb TM.o24 hx y2 y3 y4
  obtain ⟨k1, k2⟩ := closed_x (Orc.none Try.prog) mixed (start_x (Orc.none Try.prog) rfl) z1 z2
  exact ⟨fun w r n => k1 w r n (Nat.zero_le _) trivial, k2⟩
end Go.Xe.TMB24
/- What is known of function 24 may be taken at its word. Conditions: none. -/
namespace Go.Xe.TMO
open Go Go.Xe Go.Proofs
set_option maxRecDepth 1000000
@[reducible] def orc : Orc Try.prog := ⟨0, fun _ => True, fun _ _ _ _ => trivial, TM.orcs1, fun g b h => by
  unfold TM.orcs1 at h
  split at h
  · rename_i hg
    cases h
    subst hg
    exact ⟨fun w r n _ _ => TMB24.call.1 w r n, TMB24.call.2⟩
  · cases h⟩
end Go.Xe.TMO
