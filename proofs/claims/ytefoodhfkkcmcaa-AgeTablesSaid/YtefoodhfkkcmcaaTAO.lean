/- The states between the pieces of function 26: its temporaries, and what its memory holds. Conditions: none. -/
import Derived.Test.YtefoodhfkkcmcaaTA
namespace Go.Xe.TAS26
open Go Go.Xe Go.Proofs
set_option maxRecDepth 1000000
abbrev U : Value := .tuple ⟨[]⟩
noncomputable def t1 : TT := (.n (.bool false) (.n (.slice (some ⟨1733, 0, none⟩) 1 1) (.n (.slice (some ⟨4219, 0, none⟩) 1 1) (.n U (.n (.tuple ⟨[(.slice (some ⟨1733, 0, none⟩) 1 1),(.int .i64 (.ofNat 0))]⟩) (.n U (.n U .e .e) (.n U .e .e)) (.n U (.n U .e .e) .e)) (.n (.slice (some ⟨4219, 0, none⟩) 1 1) (.n U (.n U .e .e) (.n U .e .e)) (.n U (.n U .e .e) .e))) (.n (.tuple ⟨[(.slice (some ⟨1733, 0, none⟩) 1 1),(.int .i64 (.ofNat 0))]⟩) (.n (.agg ⟨[(.int .i64 (.ofNat 12000)),(.int .i64 (.ofNat 0)),(.int .i64 (.ofNat 30))]⟩) (.n U (.n U .e .e) (.n U .e .e)) (.n U (.n U .e .e) .e)) (.n U (.n U (.n U .e .e) (.n U .e .e)) (.n U (.n U .e .e) .e)))) (.n U (.n U (.n (.int .i64 (.ofNat 0)) (.n U (.n U .e .e) (.n U .e .e)) (.n U (.n U .e .e) .e)) (.n U (.n U (.n U .e .e) (.n U .e .e)) (.n U (.n U .e .e) .e))) (.n (.pointer (some ⟨0, 4, none⟩)) (.n (.agg ⟨[(.int .i64 (.ofNat 0)),(.int .i64 (.ofNat 20000)),(.slice (some ⟨1745, 0, none⟩) 2 2),(.slice (some ⟨1747, 0, none⟩) 2 2)]⟩) (.n U (.n U .e .e) (.n U .e .e)) (.n U (.n U .e .e) .e)) (.n U (.n U (.n U .e .e) .e) (.n U (.n U .e .e) .e))))) (.n (.int .i64 (.ofNat 0)) (.n (.int .i64 (.ofNat 0)) (.n U (.n (.slice (some ⟨1733, 0, none⟩) 1 1) (.n U (.n U .e .e) (.n U .e .e)) (.n U (.n U .e .e) .e)) (.n (.int .i64 (.ofNat 0)) (.n U (.n U .e .e) (.n U .e .e)) (.n U (.n U .e .e) .e))) (.n (.slice (some ⟨0, 0, none⟩) 2 2) (.n (.slice (some ⟨1742, 0, none⟩) 1 1) (.n U (.n U .e .e) (.n U .e .e)) (.n U (.n U .e .e) .e)) (.n U (.n U (.n U .e .e) .e) (.n U (.n U .e .e) .e)))) (.n U (.n U (.n (.tuple ⟨[(.slice (some ⟨4219, 0, none⟩) 1 1),(.int .i64 (.ofNat 0))]⟩) (.n U (.n U .e .e) (.n U .e .e)) (.n U (.n U .e .e) .e)) (.n U (.n U (.n U .e .e) (.n U .e .e)) (.n U (.n U .e .e) .e))) (.n (.agg ⟨[(.int .i64 (.ofNat 20)),(.int .i64 (.ofNat 5)),(.int .i64 (.ofNat 1)),(.int .i64 (.ofNat 1))]⟩) (.n (.tuple ⟨[(.slice (some ⟨4219, 0, none⟩) 1 1),(.int .i64 (.ofNat 0))]⟩) (.n U (.n U .e .e) (.n U .e .e)) (.n U (.n U .e .e) .e)) (.n U (.n U (.n U .e .e) .e) (.n U (.n U .e .e) .e))))))
noncomputable def i1 : List Nat := [0,1733,1742,1745,1747,4219]
noncomputable def E1 : HT := (.n (.cells [(.int .i64 (.ofNat 0)),(.int .i64 (.ofNat 1)),(.int .i64 (.ofNat 0)),(.int .i64 (.ofNat 0)),(.int .i64 (.ofNat 20)),(.int .i64 (.ofNat 5)),(.int .i64 (.ofNat 1)),(.int .i64 (.ofNat 1))] 28 true) .e (.n (.cells [(.int .i64 (.ofNat 19)),(.int .i64 (.ofNat 23))] 48 true) .e (.n (.cells [(.int .i64 (.ofNat 12000)),(.int .i64 (.ofNat 0)),(.int .i64 (.ofNat 30))] 89 true) .e (.n (.cells [(.int .i64 (.ofNat 0)),(.int .i64 (.ofNat 1)),(.int .i64 (.ofNat 0)),(.int .i64 (.ofNat 0)),(.int .i64 (.ofNat 20)),(.int .i64 (.ofNat 5)),(.int .i64 (.ofNat 1)),(.int .i64 (.ofNat 1))] 28 true) .e (.n (.cells [(.int .i64 (.ofNat 10000)),(.int .i64 (.ofNat 1)),(.int .i64 (.ofNat 25)),(.int .i64 (.ofNat 12000)),(.int .i64 (.ofNat 0)),(.int .i64 (.ofNat 30))] 89 true) .e (.n (.cells [(.int .i64 (.ofNat 686)),(.int .i64 (.ofNat 1050))] 48 true) .e .e))))))
noncomputable def t2 : TT := (.n (.bool false) (.n (.slice (some ⟨1733, 0, none⟩) 1 1) (.n (.slice (some ⟨4219, 0, none⟩) 1 1) (.n U (.n (.tuple ⟨[(.slice (some ⟨1733, 0, none⟩) 1 1),(.int .i64 (.ofNat 0))]⟩) (.n (.int .i64 (.ofNat 0)) (.n U .e .e) (.n U .e .e)) (.n U (.n U .e .e) .e)) (.n (.slice (some ⟨4219, 0, none⟩) 1 1) (.n U (.n U .e .e) (.n U .e .e)) (.n U (.n U .e .e) .e))) (.n (.tuple ⟨[(.slice (some ⟨1733, 0, none⟩) 1 1),(.int .i64 (.ofNat 0))]⟩) (.n (.agg ⟨[(.int .i64 (.ofNat 12000)),(.int .i64 (.ofNat 0)),(.int .i64 (.ofNat 30))]⟩) (.n U (.n U .e .e) (.n U .e .e)) (.n U (.n U .e .e) .e)) (.n (.slice (some ⟨4220, 0, none⟩) 1 1) (.n U (.n U .e .e) (.n U .e .e)) (.n U (.n U .e .e) .e)))) (.n (.slice (some ⟨6716, 0, none⟩) 1 1) (.n U (.n (.int .i64 (.ofNat 0)) (.n U (.n U .e .e) (.n U .e .e)) (.n U (.n U .e .e) .e)) (.n (.tuple ⟨[(.slice (some ⟨6716, 0, none⟩) 1 1),(.int .i64 (.ofNat 0))]⟩) (.n U (.n U .e .e) (.n U .e .e)) (.n U (.n U .e .e) .e))) (.n (.pointer (some ⟨0, 4, none⟩)) (.n (.agg ⟨[(.int .i64 (.ofNat 0)),(.int .i64 (.ofNat 20000)),(.slice (some ⟨1745, 0, none⟩) 2 2),(.slice (some ⟨1747, 0, none⟩) 2 2)]⟩) (.n U (.n U .e .e) (.n U .e .e)) (.n U (.n U .e .e) .e)) (.n (.tuple ⟨[(.slice (some ⟨6716, 0, none⟩) 1 1),(.int .i64 (.ofNat 0))]⟩) (.n U (.n U .e .e) .e) (.n U (.n U .e .e) .e))))) (.n (.int .i64 (.ofNat 0)) (.n (.int .i64 (.ofNat 0)) (.n U (.n (.slice (some ⟨1733, 0, none⟩) 1 1) (.n U (.n U .e .e) (.n U .e .e)) (.n U (.n U .e .e) .e)) (.n (.int .i64 (.ofNat 0)) (.n U (.n U .e .e) (.n U .e .e)) (.n U (.n U .e .e) .e))) (.n (.slice (some ⟨0, 0, none⟩) 2 2) (.n (.slice (some ⟨1742, 0, none⟩) 1 1) (.n U (.n U .e .e) (.n U .e .e)) (.n U (.n U .e .e) .e)) (.n (.agg ⟨[(.int .i64 (.ofNat 0)),(.int .i64 (.ofNat 20000)),(.slice (some ⟨4223, 0, none⟩) 2 2),(.slice (some ⟨4225, 0, none⟩) 2 2)]⟩) (.n U (.n U .e .e) .e) (.n U (.n U .e .e) .e)))) (.n (.int .i64 (.ofNat 0)) (.n U (.n (.tuple ⟨[(.slice (some ⟨4219, 0, none⟩) 1 1),(.int .i64 (.ofNat 0))]⟩) (.n U (.n U .e .e) (.n U .e .e)) (.n U (.n U .e .e) .e)) (.n (.agg ⟨[(.int .i64 (.ofNat 12000)),(.int .i64 (.ofNat 0)),(.int .i64 (.ofNat 30))]⟩) (.n U (.n U .e .e) (.n U .e .e)) (.n U (.n U .e .e) .e))) (.n (.agg ⟨[(.int .i64 (.ofNat 20)),(.int .i64 (.ofNat 5)),(.int .i64 (.ofNat 1)),(.int .i64 (.ofNat 1))]⟩) (.n (.tuple ⟨[(.slice (some ⟨4219, 0, none⟩) 1 1),(.int .i64 (.ofNat 0))]⟩) (.n U (.n U .e .e) (.n U .e .e)) (.n U (.n U .e .e) .e)) (.n (.slice (some ⟨6716, 0, none⟩) 1 1) (.n U (.n U .e .e) .e) (.n U (.n U .e .e) .e))))))
noncomputable def i2 : List Nat := [0,1733,1742,1745,1747,4219,4220,4223,4225,6716]
noncomputable def E2 : HT := (.n (.cells [(.int .i64 (.ofNat 0)),(.int .i64 (.ofNat 1)),(.int .i64 (.ofNat 0)),(.int .i64 (.ofNat 0)),(.int .i64 (.ofNat 20)),(.int .i64 (.ofNat 5)),(.int .i64 (.ofNat 1)),(.int .i64 (.ofNat 1))] 28 true) .e (.n (.cells [(.int .i64 (.ofNat 19)),(.int .i64 (.ofNat 23))] 48 true) .e (.n (.cells [(.int .i64 (.ofNat 12000)),(.int .i64 (.ofNat 0)),(.int .i64 (.ofNat 30))] 89 true) .e (.n (.cells [(.int .i64 (.ofNat 0)),(.int .i64 (.ofNat 1)),(.int .i64 (.ofNat 0)),(.int .i64 (.ofNat 0)),(.int .i64 (.ofNat 20)),(.int .i64 (.ofNat 5)),(.int .i64 (.ofNat 1)),(.int .i64 (.ofNat 1))] 28 true) .e (.n (.cells [(.int .i64 (.ofNat 10000)),(.int .i64 (.ofNat 1)),(.int .i64 (.ofNat 25)),(.int .i64 (.ofNat 12000)),(.int .i64 (.ofNat 0)),(.int .i64 (.ofNat 30))] 89 true) .e (.n (.cells [(.int .i64 (.ofNat 686)),(.int .i64 (.ofNat 1050))] 48 true) .e (.n (.cells [(.int .i64 (.ofNat 12000)),(.int .i64 (.ofNat 0)),(.int .i64 (.ofNat 30))] 89 true) .e (.n (.cells [(.int .i64 (.ofNat 0)),(.int .i64 (.ofNat 1)),(.int .i64 (.ofNat 0)),(.int .i64 (.ofNat 0)),(.int .i64 (.ofNat 20)),(.int .i64 (.ofNat 5)),(.int .i64 (.ofNat 1)),(.int .i64 (.ofNat 1))] 28 true) .e (.n (.cells [(.int .i64 (.ofNat 10000)),(.int .i64 (.ofNat 1)),(.int .i64 (.ofNat 25)),(.int .i64 (.ofNat 12000)),(.int .i64 (.ofNat 0)),(.int .i64 (.ofNat 30))] 89 true) .e (.n (.cells [(.int .i64 (.ofNat 27)),(.int .i64 (.ofNat 28))] 48 true) .e .e))))))))))
end Go.Xe.TAS26
/- Piece 0 of function 26, by the kernel. Conditions: none. -/
namespace Go.Xe.TAP26x0
open Go Go.Xe Go.Proofs
set_option maxRecDepth 1000000
theorem run : startL [] .e (pd 17) (fun T => segF Try.prog TA.F0 4997 (fstake 3 (fsdrop 0 TA.c26)) (mkTT 108) [] (.mk 0 T) (outR TAS26.i1)) = .nx TAS26.t1 [] (.mk 4220 TAS26.E1) := by kernel_rfl
theorem len : (fstake 3 (fsdrop 0 TA.c26)).length = 3 := by kernel_rfl
end Go.Xe.TAP26x0
/- Piece 1 of function 26, by the kernel. Conditions: none. -/
namespace Go.Xe.TAP26x1
open Go Go.Xe Go.Proofs
set_option maxRecDepth 1000000
theorem run : startL TAS26.i1 TAS26.E1 (pd 17) (fun T => segF Try.prog TA.F0 4996 (fstake 1 (fsdrop 3 TA.c26)) TAS26.t1 [] (.mk 4220 T) (outR TAS26.i2)) = .nx TAS26.t2 [] (.mk 6717 TAS26.E2) := by kernel_rfl
theorem len : (fstake 1 (fsdrop 3 TA.c26)).length = 1 := by kernel_rfl
end Go.Xe.TAP26x1
/- Piece 2 of function 26, the last, by the kernel. Conditions: none. -/
namespace Go.Xe.TAP26x2
open Go Go.Xe Go.Proofs
set_option maxRecDepth 1000000
theorem run : startL TAS26.i2 TAS26.E2 (pd 17) (fun T => afterF (execF Try.prog TA.F0 4996 (fsdrop 4 TA.c26) none [] TAS26.t2 (.mk 6717 T)) [.tmp .o] endT) = .rt .e [] (.mk 0 .e) := by kernel_rfl
end Go.Xe.TAP26x2
/- Function 26, called in any world, returns true and leaves the world as it was: its pieces put together. Conditions: none. -/
namespace Go.Xe.TAB26
open Go Go.Xe Go.Proofs
set_option maxRecDepth 1000000
theorem mixed : Try.prog.follows .mixedOrders = true := by kernel_rfl
noncomputable def body : Code := match Try.f26.body with | some c => c | none => .skip
theorem hb : Try.f26.body = some body := by kernel_rfl
theorem hn : Try.f26.ntmps = 108 := by kernel_rfl
theorem call : (∀ (w : World) (r : Option Nat) (n : Nat), CallsIn (FW r) n Try.prog 26 #[] w (Quiet (.bool true) w)) ∧ ∃ fn, Try.prog.funcs[(26 : Nat)]? = some fn ∧ fn.body.isSome = true ∧ (fn.name == "runtime.NumGoroutine") = false := by
  letI := (Gl.none Try.prog)
  letI := (Orc.none Try.prog)
  have hF := TA.ok0 (Orc.none Try.prog) rfl
  obtain ⟨hc, hres⟩ := of_entry hb TA.e26
  obtain ⟨tm0, H0, x0, s0⟩ := piece hF hc 0 3 4997 TAP26x0.len TAP26x0.run stOk_start
  obtain ⟨tm1, H1, x1, s1⟩ := piece hF hc 3 1 4996 TAP26x1.len TAP26x1.run s0
  obtain ⟨e, a, Hz, y1, y2, y3, y4⟩ := piece_last hF hc 4 4996 TA.o26 hres TAP26x2.run s1
  have hx : exec Try.prog 5000 none body ⟨Array.replicate Try.f26.ntmps undef, [], Heap.empty⟩ = some (e, a) := by rw [hn]; exact x0.trans (x1.trans (y1))
  obtain ⟨z1, z2⟩ := xcall_of rfl TA.g26 hb TA.o26 hx y2 y3 y4
  obtain ⟨k1, k2⟩ := closed_x (Orc.none Try.prog) mixed (start_x (Orc.none Try.prog) rfl) z1 z2
  exact ⟨fun w r n => k1 w r n (Nat.zero_le _) trivial, k2⟩
end Go.Xe.TAB26
/- What is known of function 26 may be taken at its word. Conditions: none. -/
namespace Go.Xe.TAO
open Go Go.Xe Go.Proofs
set_option maxRecDepth 1000000
@[reducible] def orc : Orc Try.prog := ⟨0, fun _ => True, fun _ _ _ _ => trivial, TA.orcs1, fun g b h => by
  unfold TA.orcs1 at h
  split at h
  · rename_i hg
    cases h
    subst hg
    exact ⟨fun w r n _ _ => TAB26.call.1 w r n, TAB26.call.2⟩
  · cases h⟩
end Go.Xe.TAO
