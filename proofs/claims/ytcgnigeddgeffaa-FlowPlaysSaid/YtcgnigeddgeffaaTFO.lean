/- The states between the pieces of function 20: its temporaries, and what its memory holds. Conditions: none. -/
import Derived.Test.YtcgnigeddgeffaaTF
namespace Go.Xe.TFS20
open Go Go.Xe Go.Proofs
set_option maxRecDepth 1000000
abbrev U : Value := .tuple ⟨[]⟩
noncomputable def t1 : TT := (.n (.bool false) (.n (.slice (some ⟨617, 0, none⟩) 2 2) (.n (.pointer (some ⟨3994, 0, none⟩)) (.n U (.n (.agg ⟨[(.slice (some ⟨651, 0, none⟩) 2 2),(.slice (some ⟨653, 0, none⟩) 1 1),(.slice (some ⟨658, 0, none⟩) 4 4),(.slice (some ⟨660, 0, none⟩) 3 3)]⟩) (.n U (.n U .e .e) (.n U .e .e)) (.n U (.n U .e .e) (.n U .e .e))) (.n U (.n U (.n U .e .e) (.n U .e .e)) (.n U (.n U .e .e) (.n U .e .e)))) (.n (.tuple ⟨[(.slice (some ⟨617, 0, none⟩) 2 2),(.int .i64 (.ofNat 0))]⟩) (.n (.int .i64 (.ofNat 0)) (.n U (.n U .e .e) (.n U .e .e)) (.n U (.n U .e .e) (.n U .e .e))) (.n U (.n U (.n U .e .e) (.n U .e .e)) (.n U (.n U .e .e) .e)))) (.n U (.n (.tuple ⟨[(.slice (some ⟨617, 0, none⟩) 2 2),(.int .i64 (.ofNat 0))]⟩) (.n (.tuple ⟨[(.agg ⟨[(.int .i64 (.ofNat 19)),(.int .i64 (.ofNat 68))]⟩),(.int .i64 (.ofNat 0))]⟩) (.n U (.n U .e .e) (.n U .e .e)) (.n U (.n U .e .e) (.n U .e .e))) (.n U (.n U (.n U .e .e) (.n U .e .e)) (.n U (.n U .e .e) .e))) (.n (.int .i64 (.ofNat 0)) (.n U (.n U (.n U .e .e) (.n U .e .e)) (.n U (.n U .e .e) (.n U .e .e))) (.n U (.n U (.n U .e .e) (.n U .e .e)) (.n U (.n U .e .e) .e))))) (.n (.int .i64 (.ofNat 0)) (.n (.int .i64 (.ofNat 0)) (.n U (.n (.agg ⟨[(.int .i64 (.ofNat 0)),(.int .i64 (.ofNat 2))]⟩) (.n U (.n U .e .e) (.n U .e .e)) (.n U (.n U .e .e) (.n U .e .e))) (.n U (.n U (.n U .e .e) (.n U .e .e)) (.n U (.n U .e .e) (.n U .e .e)))) (.n (.slice (some ⟨617, 0, none⟩) 2 2) (.n U (.n U (.n U .e .e) (.n U .e .e)) (.n U (.n U .e .e) (.n U .e .e))) (.n U (.n U (.n U .e .e) (.n U .e .e)) (.n U (.n U .e .e) .e)))) (.n U (.n (.agg ⟨[(.slice (some ⟨9, 0, none⟩) 2 2),(.slice (some ⟨11, 0, none⟩) 1 1),(.slice (some ⟨16, 0, none⟩) 4 4),(.slice (some ⟨18, 0, none⟩) 3 3)]⟩) (.n (.agg ⟨[(.int .i64 (.ofNat 19)),(.int .i64 (.ofNat 68))]⟩) (.n U (.n U .e .e) (.n U .e .e)) (.n U (.n U .e .e) (.n U .e .e))) (.n U (.n U (.n U .e .e) (.n U .e .e)) (.n U (.n U .e .e) .e))) (.n (.tuple ⟨[(.agg ⟨[(.int .i64 (.ofNat 19)),(.int .i64 (.ofNat 68))]⟩),(.int .i64 (.ofNat 0))]⟩) (.n U (.n U (.n U .e .e) (.n U .e .e)) (.n U (.n U .e .e) (.n U .e .e))) (.n U (.n U (.n U .e .e) (.n U .e .e)) (.n U (.n U .e .e) .e))))))
noncomputable def i1 : List Nat := [4,8,9,11,16,18,617,631,641,646,650,651,653,658,660,3994]
noncomputable def E1 : HT := (.n (.cells [(.int .i64 (.ofNat 100)),(.int .i64 (.ofNat 100)),(.int .i64 (.ofNat 80)),(.int .i64 (.ofNat 90)),(.int .i64 (.ofNat 40)),(.int .i64 (.ofNat 50))] 69 true) .e (.n (.cells [(.int .i64 (.ofNat 60)),(.int .i64 (.ofNat 120)),(.int .i64 (.ofNat 90)),(.int .i64 (.ofNat 97)),(.int .i64 (.ofNat 100)),(.int .i64 (.ofNat 115))] 69 true) .e (.n (.cells [(.slice (some ⟨4, 0, none⟩) 3 3),(.slice (some ⟨8, 0, none⟩) 3 3)] 36 true) .e (.n (.cells [(.int .i64 (.ofNat 110)),(.int .i64 (.ofNat 120))] 69 true) .e (.n (.cells [(.int .i64 (.ofNat 150)),(.int .i64 (.ofNat 200)),(.int .i64 (.ofNat 20)),(.int .i64 (.ofNat 40)),(.int .i64 (.ofNat 50)),(.int .i64 (.ofNat 60)),(.int .i64 (.ofNat 300)),(.int .i64 (.ofNat 400))] 69 true) .e (.n (.cells [(.int .i64 (.ofNat 0)),(.int .i64 (.ofNat 0)),(.int .i64 (.negSucc 4)),(.int .i64 (.ofNat 5)),(.int .i64 (.ofNat 0)),(.int .i64 (.ofNat 0))] 69 true) .e (.n (.cells [(.slice (some ⟨631, 0, none⟩) 3 3),(.slice (some ⟨641, 0, none⟩) 3 3)] 36 true) .e (.n (.cells [(.int .i64 (.ofNat 100)),(.int .i64 (.ofNat 100)),(.int .i64 (.ofNat 80)),(.int .i64 (.ofNat 90)),(.int .i64 (.ofNat 40)),(.int .i64 (.ofNat 50))] 69 true) .e (.n (.cells [(.int .i64 (.ofNat 88)),(.int .i64 (.ofNat 102)),(.int .i64 (.ofNat 91)),(.int .i64 (.ofNat 97)),(.int .i64 (.ofNat 100)),(.int .i64 (.ofNat 115))] 69 true) .e (.n (.cells [(.int .i64 (.ofNat 100)),(.int .i64 (.ofNat 100)),(.int .i64 (.ofNat 80)),(.int .i64 (.ofNat 90)),(.int .i64 (.ofNat 40)),(.int .i64 (.ofNat 50))] 69 true) .e (.n (.cells [(.int .i64 (.ofNat 60)),(.int .i64 (.ofNat 120)),(.int .i64 (.ofNat 90)),(.int .i64 (.ofNat 97)),(.int .i64 (.ofNat 100)),(.int .i64 (.ofNat 115))] 69 true) .e (.n (.cells [(.slice (some ⟨646, 0, none⟩) 3 3),(.slice (some ⟨650, 0, none⟩) 3 3)] 36 true) .e (.n (.cells [(.int .i64 (.ofNat 110)),(.int .i64 (.ofNat 120))] 69 true) .e (.n (.cells [(.int .i64 (.ofNat 150)),(.int .i64 (.ofNat 200)),(.int .i64 (.ofNat 20)),(.int .i64 (.ofNat 40)),(.int .i64 (.ofNat 50)),(.int .i64 (.ofNat 60)),(.int .i64 (.ofNat 300)),(.int .i64 (.ofNat 400))] 69 true) .e (.n (.cells [(.int .i64 (.ofNat 0)),(.int .i64 (.ofNat 0)),(.int .i64 (.negSucc 4)),(.int .i64 (.ofNat 5)),(.int .i64 (.ofNat 0)),(.int .i64 (.ofNat 0))] 69 true) .e (.n (.cells [(.int .i64 (.ofNat 19)),(.int .i64 (.ofNat 68))] 69 true) .e .e))))))))))))))))
end Go.Xe.TFS20
/- Piece 0 of function 20, by the kernel. Conditions: none. -/
namespace Go.Xe.TFP20x0
open Go Go.Xe Go.Proofs
set_option maxRecDepth 1000000
theorem run : startL [] .e (pd 17) (fun T => segF Try.prog TF.F0 4997 (fstake 3 (fsdrop 0 TF.c20)) (mkTT 121) [] (.mk 0 T) (outR TFS20.i1)) = .nx TFS20.t1 [] (.mk 3995 TFS20.E1) := by kernel_rfl
theorem len : (fstake 3 (fsdrop 0 TF.c20)).length = 3 := by kernel_rfl
end Go.Xe.TFP20x0
/- Piece 1 of function 20, the last, by the kernel. Conditions: none. -/
namespace Go.Xe.TFP20x1
open Go Go.Xe Go.Proofs
set_option maxRecDepth 1000000
theorem run : startL TFS20.i1 TFS20.E1 (pd 17) (fun T => afterF (execF Try.prog TF.F0 4997 (fsdrop 3 TF.c20) none [] TFS20.t1 (.mk 3995 T)) [.tmp .o] endT) = .rt .e [] (.mk 0 .e) := by kernel_rfl
end Go.Xe.TFP20x1
/- Function 20, called in any world, returns true and leaves the world as it was: its pieces put together. Conditions: none. -/
namespace Go.Xe.TFB20
open Go Go.Xe Go.Proofs
set_option maxRecDepth 1000000
theorem mixed : Try.prog.follows .mixedOrders = true := by kernel_rfl
noncomputable def body : Code := match Try.f20.body with | some c => c | none => .skip
theorem hb : Try.f20.body = some body := by kernel_rfl
theorem hn : Try.f20.ntmps = 121 := by kernel_rfl
theorem call : (∀ (w : World) (r : Option Nat) (n : Nat), CallsIn (FW r) n Try.prog 20 #[] w (Quiet (.bool true) w)) ∧ ∃ fn, Try.prog.funcs[(20 : Nat)]? = some fn ∧ fn.body.isSome = true ∧ (fn.name == "runtime.NumGoroutine") = false := by
  letI := (Gl.none Try.prog)
  letI := (Orc.none Try.prog)
  have hF := TF.ok0 (Orc.none Try.prog) rfl
  obtain ⟨hc, hres⟩ := of_entry hb TF.e20
  obtain ⟨tm0, H0, x0, s0⟩ := piece hF hc 0 3 4997 TFP20x0.len TFP20x0.run stOk_start
  obtain ⟨e, a, Hz, y1, y2, y3, y4⟩ := piece_last hF hc 3 4997 TF.o20 hres TFP20x1.run s0
  have hx : exec Try.prog 5000 none body ⟨Array.replicate Try.f20.ntmps undef, [], Heap.empty⟩ = some (e, a) := by rw [hn]; exact x0.trans (y1)
  obtain ⟨z1, z2⟩ := xcall_of rfl TF.g20 hb TF.o20 hx y2 y3 y4
  obtain ⟨k1, k2⟩ := closed_x (Orc.none Try.prog) mixed (start_x (Orc.none Try.prog) rfl) z1 z2
  exact ⟨fun w r n => k1 w r n (Nat.zero_le _) trivial, k2⟩
end Go.Xe.TFB20
/- What is known of function 20 may be taken at its word. Conditions: none. -/
namespace Go.Xe.TFO
open Go Go.Xe Go.Proofs
set_option maxRecDepth 1000000
@[reducible] def orc : Orc Try.prog := ⟨0, fun _ => True, fun _ _ _ _ => trivial, TF.orcs1, fun g b h => by
  unfold TF.orcs1 at h
  split at h
  · rename_i hg
    cases h
    subst hg
    exact ⟨fun w r n _ _ => TFB20.call.1 w r n, TFB20.call.2⟩
  · cases h⟩
end Go.Xe.TFO
