/- BorderMerged, of every world: two new districts that become one. Conditions: none. -/
import Derived.Test.YtgcdbdcnlhonfaaRows
import Derived.WalkKit
import Derived.ProofKit
import Derived.OpenShut
import Derived.Carry
import Derived.Test.YtgcdbdcnlhonfaaTCM
import Derived.Test.YtgcdbdcnlhonfaaYh
namespace Go.Proofs.Ytgcdbdcnlhonfaa.borderMerged
open Go.ChangeShapes Go.WideShapes Go.ChangeAt Go.RowKit
set_option linter.unusedVariables false
set_option linter.unusedSimpArgs false
set_option maxRecDepth 100000

theorem own : ownKnob Try.prog.godebug = none := by kernel_rfl
theorem mixed : Try.prog.follows .mixedOrders = true := by kernel_rfl
theorem laid : laidOutB Try.prog = true := by kernel_rfl
theorem sh26 : Go.Xe.shOf Try.prog 6 26 = some Go.Xe.TBX.shMp := by kernel_rfl

theorem walk {H : Type} {enc : TypeId × Value → H} {w : World} {base : Nat} {v0 v1 : Value} {d0 d1 : DataW H} {p0 p1 : List MemPlace} (o0 : Value.okWide Try.prog w .any base 26 v0) (h0 : DataW.Trod enc Try.prog w 0 (fun _ => true) true 26 v0 d0 p0) (o1 : Value.okWide Try.prog w .any base 5 v1) (h1 : DataW.Trod enc Try.prog w 0 (fun _ => true) true 5 v1 d1 p1) : Calls Try.prog 11 #[v0, v1] w fun e w' => e = .returned (.bool true) ∧ Below w.heap.size w w' := by
  obtain ⟨c0, rfl⟩ := Go.Xe.okWide_agg Try.underlying26 o0
  obtain ⟨b1, rfl⟩ := okWide_int Try.underlying5 o1
  have h := Go.Xe.frame (P := Try.prog) (f := 11) (args := [.agg c0, .int .u8 b1]) (fun _ => rfl) mixed (Nat.zero_le _) trivial (w := w) (fun A hA => by
    obtain ⟨l0, y0, e0, m0⟩ := Go.Xe.arg_agg hA 6 sh26 h0
    obtain ⟨ua0, ub0, uc0, T0, rfl, s0⟩ := Go.Xe.TBX.mv_of m0
    simp only [List.map_cons, List.map_nil, e0, List.cons_append, List.nil_append]
    exact Go.Xe.TBX.f11_all s0 (bounds_u8 (Go.Xe.arg_int Try.underlying5 h1))) none 0
  rw [Go.Xe.FW_none, callsIn_wide] at h
  exact h.mono fun e w' ⟨h1, h2, h3, h4, h5, h6⟩ => ⟨h1, h4, h5, h6, h2, h3⟩

set_option maxRecDepth 100000 in
theorem lifted (os : Os) (started : os.Started) (H : Type) (enc : TypeId × Value → H) :
    ReturnsInHanded {} Try.checked os 11 .any (Rows.borderMergedSpec.pre6 enc Try.prog Try.f11 Rows.borderMergedRow.domain false) (Rows.borderMergedSpec.post enc Try.prog Try.f11 false true false false) := by
  refine returnsInHanded_of_change (C := Try.checked) own started (by kernel_rfl) Try.func11
    (ChangeSpec.witness6 (enc := enc) (C := Try.checked) false ⟨#[], #[.agg #[.slice none 0 0, .int .i64 0, .slice none 0 0, .slice none 0 0], .int .u8 0], []⟩ 8 (by kernel_rfl) (by kernel_rfl) (by kernel_rfl) (by kernel_rfl)) ?_
  intro W base args ds gs before hval0 hW hcnd _
  have hval : ∀ (j : Nat) t v, Try.f11.params[j]? = some t → args[j]? = some v → Value.okWide Try.prog W .any base t v := hval0
  have hW' := hW
  obtain ⟨p, q, hA0, hV, rfl, hfz, hnd⟩ := hW
  have hA : DataW.TrodAll enc Try.prog W 0 (fun _ => true) true Try.f11.params.toList args.toList ds p := hA0
  have hP := hA
  rw [Try.params11] at hA hval
  obtain ⟨v0, v1, d0, d1, p0, p1, rfl, rfl, rfl, t0, t1⟩ := trodAll_two hA
  obtain ⟨rfl, rfl⟩ := trodVars_none hV
  clear hA0 hval0
  simp only [List.append_nil] at hW'
  refine (walk (hval 0 _ _ rfl rfl) t0 (hval 1 _ _ rfl rfl) t1).mono fun e W' ⟨he, hg⟩ => ?_
  subst he
  refine ⟨_, rfl, Go.Xe.post_of_old (pa := p0 ++ p1) (pv := []) hW' (fun _ _ _ => (trodAll_cons_mk (shut_bool Try.underlying4 _) trodAll_mk0)) (fun sp hs => ?_) (fun _ _ => rfl) (by simp)
    (hg.frame _) (fun a ha => hg.frozen ha) (ok_one (by kernel_rfl) rfl (okWide_bool_mk Try.underlying4 _))⟩
  exact Go.Xe.stays_all laid (by rw [Try.params11]; decide +kernel) hP (fun x hx => hg.same (hW'.lt x hx)) hs

theorem over : Rows.borderMergedRow.holds Try.pinned (OpenSpec.ofChange Rows.borderMergedSpec) :=
  OpenClaim.holds_of_wide 11 Try.f11 rfl rfl rfl rfl rfl rfl rfl ⟨rfl, rfl, rfl, rfl, rfl⟩ rfl rfl rfl rfl rfl (by kernel_rfl) Try.func11 (by kernel_rfl)
    (of_decide_eq_true (by kernel_rfl)) (by unfold Func.isWrapper; first | (rw [if_pos (by decide +kernel)]; kernel_rfl) | (rw [if_neg (by decide +kernel)]; exact ⟨rfl, rfl⟩))
    (fun os started H enc _ => lifted os started H enc)

/-- ████ THE STATEMENT ████ -/
theorem proved : Rows.BorderMergedSaid :=
  over
#print axioms proved
end Go.Proofs.Ytgcdbdcnlhonfaa.borderMerged
