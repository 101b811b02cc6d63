/- What the functions of the layer flow come to: from census to census. Conditions: none. -/
import Derived.Test.YtcgnigeddgeffaaTGB
-- MOD TF
namespace Go.Xe.TFX
open Go Go.Xe Go.Proofs
open Nat renaming reduceLeDiff → qA, reduceSub → qB, reduceAdd → qC, reduceEqDiff → qD, reduceLT → qE
open Int renaming reduceNegSucc → qF, reduceEq → qG
open Go.Xe.Flw
set_option maxRecDepth 100000
set_option maxHeartbeats 3200000
set_option linter.unusedSimpArgs false
noncomputable def d111 : FCode := (.seq (.run (.go (.move (.con (.slice none 0 0))) (pth 2)::
[])) (.seq (.seq (.run (.go (.move (.tmp (pth 0))) (pth 3)::
.go (.bin .eql 26 (.tmp (pth 3)) (.con (.slice none 0 0))) (pth 4)::
[])) (.cond (.tmp (pth 4)) (.seq (.run (.go (.move (.con (.slice none 0 0))) (pth 2)::
[])) .ret) .skip)) (.seq (.run (.go (.buildSlice 3 0 [] []) (pth 5)::
.go (.move (.tmp (pth 0))) (pth 6)::
.go (.append 3 1 8 (.tmp (pth 5)) (.tmp (pth 6))) (pth 7)::
.go (.move (.tmp (pth 7))) (pth 2)::
[])) .ret)))
theorem de111 : @compF Try.prog (Gl.none Try.prog) Try.f111 1 = .mk d111 (mkTT 8) [(pth 0)] [.tmp (pth 2)] := by kernel_rfl
theorem dg111 : Try.prog.funcs[111]? = some Try.f111 := Try.func111
theorem do111 : okF Try.prog Try.f111 = true := by kernel_rfl
noncomputable def d112 : FCode := (.seq (.run (.go (.box 38 (.tmp (pth 0))) (pth 3)::
.go (.move (.con (.bool false))) (pth 6)::
[])) (.seq (.seq (.run (.go (.fieldAddr 2 (.tmp (pth 3))) (pth 9)::
.go (.load1 (.tmp (pth 9))) (pth 10)::
.go (.len 0 (.tmp (pth 10))) (pth 11)::
.go (.move (.con (.int .i64 (.ofNat 0)))) (pth 12)::
[])) (.block 0 (.loop (.seq (.run (.go (.bin .lss 3 (.tmp (pth 12)) (.tmp (pth 11))) (pth 13)::
[])) (.seq (.cond (.tmp (pth 13)) .skip (.exit 0)) (.seq (.block 1 (.seq (.run (.go (.move (.tmp (pth 12))) (pth 14)::
.go (.indexAddr none 2 (.tmp (pth 10)) (.tmp (pth 12))) (pth 15)::
.go (.loadN 2 (.tmp (pth 15))) (pth 16)::
.go (.alloc 69 [(.int .i64 (.ofNat 0)),(.int .i64 (.ofNat 0))]) (pth 8)::
.go (.move (.tmp (pth 14))) (pth 7)::
.un (.store 2 (.tmp (pth 8)) (.tmp (pth 16)))::
[])) (.seq (.draw 12 (.go (.loadN 2 (.tmp (pth 8))) (pth 17)::
.go (.move (.tmp (pth 1))) (pth 18)::
.go (.move (.tmp (pth 7))) (pth 19)::
.go (.indexAddr none 1 (.tmp (pth 18)) (.tmp (pth 19))) (pth 20)::
.go (.load1 (.tmp (pth 20))) (pth 21)::
.go (.call (.con (.func (.func 133) ⟨[]⟩ ⟨[]⟩)) [(.tmp (pth 17)),(.tmp (pth 21))]) (pth 22)::
.go (.move (.tmp (pth 2))) (pth 23)::
.go (.move (.tmp (pth 7))) (pth 24)::
.go (.indexAddr none 1 (.tmp (pth 23)) (.tmp (pth 24))) (pth 25)::
.go (.load1 (.tmp (pth 25))) (pth 26)::
.go (.call (.con (.func (.func 109) ⟨[]⟩ ⟨[]⟩)) [(.tmp (pth 22)),(.tmp (pth 26))]) (pth 27)::
.go (.un .not (.tmp (pth 27))) (pth 28)::
[]) [.ok,.ok,.ok,.ok,.ok,.ok,.ok,.ok,.ok,.rd none (.load1 (.tmp (pth 25))) (some (pth 26)) [0],.ok,.ok]) (.cond (.tmp (pth 28)) (.seq (.run (.go (.move (.con (.bool false))) (pth 6)::
[])) .ret) .skip)))) (.run (.go (.bin .add 3 (.tmp (pth 12)) (.con (.int .i64 (.ofNat 1)))) (pth 29)::
.go (.move (.tmp (pth 29))) (pth 12)::
[])))))))) (.seq (.run (.go (.move (.con (.bool true))) (pth 6)::
[])) .ret)))
theorem de112 : @compF Try.prog (Gl.none Try.prog) Try.f112 3 = .mk d112 (mkTT 30) [(pth 0),(pth 1),(pth 2)] [.tmp (pth 6)] := by kernel_rfl
theorem dg112 : Try.prog.funcs[112]? = some Try.f112 := Try.func112
theorem do112 : okF Try.prog Try.f112 = true := by kernel_rfl
noncomputable def d113 : FCode := (.seq (.run (.go (.move (.con (.slice none 0 0))) (pth 6)::
[])) (.seq (.run (.go (.move (.tmp (pth 2))) (pth 11)::
.go (.call (.con (.func (.func 111) ⟨[]⟩ ⟨[]⟩)) [(.tmp (pth 11))]) (pth 12)::
.go (.move (.tmp (pth 12))) (pth 7)::
[])) (.seq (.seq (.run (.go (.move (.tmp (pth 0))) (pth 13)::
.go (.len 0 (.tmp (pth 13))) (pth 14)::
.go (.move (.con (.int .i64 (.ofNat 0)))) (pth 15)::
[])) (.block 0 (.loop (.seq (.run (.go (.bin .lss 3 (.tmp (pth 15)) (.tmp (pth 14))) (pth 16)::
[])) (.seq (.cond (.tmp (pth 16)) .skip (.exit 0)) (.seq (.block 1 (.seq (.run (.go (.move (.tmp (pth 15))) (pth 17)::
.go (.indexAddr none 1 (.tmp (pth 13)) (.tmp (pth 15))) (pth 18)::
.go (.load1 (.tmp (pth 18))) (pth 19)::
.go (.move (.tmp (pth 17))) (pth 8)::
.go (.move (.tmp (pth 19))) (pth 9)::
[])) (.seq (.run (.go (.move (.tmp (pth 8))) (pth 20)::
.go (.move (.tmp (pth 7))) (pth 21)::
.go (.len 0 (.tmp (pth 21))) (pth 22)::
.go (.bin .sub 3 (.tmp (pth 22)) (.con (.int .i64 (.ofNat 1)))) (pth 23)::
.go (.mm false [(.tmp (pth 20)),(.tmp (pth 23))]) (pth 24)::
.go (.move (.tmp (pth 24))) (pth 10)::
[])) (.draw 13 (.go (.move (.tmp (pth 7))) (pth 25)::
.go (.move (.tmp (pth 10))) (pth 26)::
.go (.indexAddr none 1 (.tmp (pth 25)) (.tmp (pth 26))) (pth 27)::
.go (.load1 (.tmp (pth 27))) (pth 28)::
.go (.move (.tmp (pth 9))) (pth 29)::
.go (.move (.tmp (pth 1))) (pth 30)::
.go (.move (.tmp (pth 8))) (pth 31)::
.go (.indexAddr none 1 (.tmp (pth 30)) (.tmp (pth 31))) (pth 32)::
.go (.load1 (.tmp (pth 32))) (pth 33)::
.go (.bin .sub 3 (.tmp (pth 29)) (.tmp (pth 33))) (pth 34)::
.go (.bin .add 3 (.tmp (pth 28)) (.tmp (pth 34))) (pth 35)::
.go (.indexAddr none 1 (.tmp (pth 25)) (.tmp (pth 26))) (pth 36)::
.un (.store 1 (.tmp (pth 36)) (.tmp (pth 35)))::
[]) [.ok,.ok,.ok,.ok,.ok,.ok,.ok,.ok,.ok,.ok,.ok,.ok,.ok])))) (.run (.go (.bin .add 3 (.tmp (pth 15)) (.con (.int .i64 (.ofNat 1)))) (pth 37)::
.go (.move (.tmp (pth 37))) (pth 15)::
[])))))))) (.seq (.run (.go (.move (.tmp (pth 7))) (pth 38)::
.go (.move (.tmp (pth 38))) (pth 6)::
[])) .ret))))
theorem de113 : @compF Try.prog (Gl.none Try.prog) Try.f113 3 = .mk d113 (mkTT 39) [(pth 0),(pth 1),(pth 2)] [.tmp (pth 6)] := by kernel_rfl
theorem dg113 : Try.prog.funcs[113]? = some Try.f113 := Try.func113
theorem do113 : okF Try.prog Try.f113 = true := by kernel_rfl
noncomputable def d114 : FCode := (.seq (.run (.go (.move (.con (.int .i64 (.ofNat 0)))) (pth 4)::
[])) (.seq (.seq (.run (.go (.move (.tmp (pth 1))) (pth 7)::
.go (.len 0 (.tmp (pth 7))) (pth 8)::
.go (.move (.con (.int .i64 (.ofNat 0)))) (pth 9)::
[])) (.block 0 (.loop (.seq (.run (.go (.bin .lss 3 (.tmp (pth 9)) (.tmp (pth 8))) (pth 10)::
[])) (.seq (.cond (.tmp (pth 10)) .skip (.exit 0)) (.seq (.block 1 (.seq (.run (.go (.indexAddr none 1 (.tmp (pth 7)) (.tmp (pth 9))) (pth 11)::
.go (.load1 (.tmp (pth 11))) (pth 12)::
.go (.move (.tmp (pth 12))) (pth 6)::
[])) (.run (.go (.move (.tmp (pth 0))) (pth 13)::
.go (.move (.tmp (pth 6))) (pth 14)::
.go (.mm false [(.tmp (pth 13)),(.tmp (pth 14))]) (pth 15)::
.go (.move (.tmp (pth 15))) (pth 0)::
[])))) (.run (.go (.bin .add 3 (.tmp (pth 9)) (.con (.int .i64 (.ofNat 1)))) (pth 16)::
.go (.move (.tmp (pth 16))) (pth 9)::
[])))))))) (.seq (.run (.go (.move (.tmp (pth 0))) (pth 17)::
.go (.move (.tmp (pth 17))) (pth 4)::
[])) .ret)))
theorem de114 : @compF Try.prog (Gl.none Try.prog) Try.f114 2 = .mk d114 (mkTT 18) [(pth 0),(pth 1)] [.tmp (pth 4)] := by kernel_rfl
theorem dg114 : Try.prog.funcs[114]? = some Try.f114 := Try.func114
theorem do114 : okF Try.prog Try.f114 = true := by kernel_rfl
theorem nil26 {p : Option Addr} {n c : Nat} : ∃ b : Bool, xbinOp Try.prog .eql 26 (.slice p n c) (.slice none 0 0) = some (.bool b) ∧ (b = true → p = none) := by
  cases p with
  | none => exact ⟨true, by kernel_rfl, fun _ => rfl⟩
  | some a => exact ⟨false, rfl, fun h => by cases h⟩
theorem f111_ok {H : Heap} {v : Value} {L : List Int} (h : RI H v L) (hn : L.length ≤ 1048576) : F Try.prog 111 ⟨[v]⟩ H (fun w X => Grow H X ∧ Ow H X 3 w (L.map I)) := by
  obtain ⟨p, n, c, rfl⟩ := ri.sl h
  obtain ⟨b, hb1, hb2⟩ := nil26 (p := p) (n := n) (c := c)
  refine F.entryL rfl dg111 do111 de111 rfl (by kernel_rfl) ?_
  simp only [sets]
  refine V.re [(0, .slice p n c)] (N := 8) (by intro i; simp only [full_st, Full.mk]) (by simp only [Kn, gt_st, full_st, Full.mk, ↓reduceIte, qD, qE, decide_true, and_self]) ?_
  intro t hF hA
  simp only [Kn, and_true] at hA
  (repeat first|apply V.seq|apply V.block|apply V.scope|apply V.skip|apply V.close)
  refine V.line' (by simp +contextual (disch := first|omega|simp only [nx];omega) only [D4,qF,qG,qA,qB,qC,D5,hF,hA,↓reduceIte,qD,qE]; with_reducible rfl) ?_
  (repeat first|apply V.seq|apply V.block|apply V.scope|apply V.skip|apply V.close)
  refine V.line' (by simp +contextual (disch := first|omega|simp only [nx];omega) only [D4,qF,qG,qA,qB,qC,D5,hF,hA,↓reduceIte,qD,qE, hb1]; with_reducible rfl) ?_
  (repeat first|apply V.seq|apply V.block|apply V.scope|apply V.skip|apply V.close)
  refine V.condB (by simp only [D6,D5,hF,hA,↓reduceIte,qD,qE]; rfl) (fun hb => ?_) (fun hb => ?_)
  · have hp := hb2 hb
    subst hp
    have hL : L = [] := by
      have h' : Sl H (.slice none n c) (L.map I) := h
      generalize he : L.map I = l at h'
      cases h' with
      | nil => exact List.map_eq_nil_iff.1 he
    subst hL
    (repeat first|apply V.seq|apply V.block|apply V.scope|apply V.skip|apply V.close)
    refine V.line' (by simp +contextual (disch := first|omega|simp only [nx];omega) only [D4,qF,qG,qA,qB,qC,D5,hF,hA,↓reduceIte,qD,qE]; with_reducible rfl) ?_
    (repeat first|apply V.seq|apply V.block|apply V.scope|apply V.skip|apply V.close)
    refine V.ret (V.rets rfl (Lv.retF (by simp +contextual (disch := first|omega|simp only [nx];omega) only [D1, cells_alloc_at, cells_alloc_ne, cells_set_at, cells_set_ne, yres, yres1, yresL, qA, qB, qC, D5,hF,hA,↓reduceIte,qD,qE]; rfl) ?_))
    exact ⟨.refl _, .nil⟩
  · have o0 : Ow H (H.alloc (.cells ⟨[]⟩ 3 true)) 3 (.slice (some ⟨H.next, 0, none⟩) 0 0) [] := .inr ⟨H.next, Nat.le_refl _, Nat.lt_succ_self _, rfl, cells_alloc _ _ _ _⟩
    have g0 : Grow H (H.alloc (.cells ⟨[]⟩ 3 true)) := (Grow.refl H).alloc _
    obtain ⟨w, X, k1, k2, k3, k4⟩ := Ow.append (e := 3) (bytes := 8) g0 o0 (ri.grow g0 h) (by simp [ok1_int]) (by simp only [List.length_nil, List.length_map]; omega) (by simp only [List.length_nil, List.length_map]; omega)
    rw [List.nil_append] at k2
    (repeat first|apply V.seq|apply V.block|apply V.scope|apply V.skip|apply V.close)
    refine V.line' (by simp +contextual (disch := first|omega|simp only [nx];omega) only [D4,qF,qG,qA,qB,qC,D5,hF,hA,↓reduceIte,qD,qE, k1]; with_reducible rfl) ?_
    (repeat first|apply V.seq|apply V.block|apply V.scope|apply V.skip|apply V.close)
    refine V.ret (V.rets rfl (Lv.retF (by simp +contextual (disch := first|omega|simp only [nx];omega) only [D1, cells_alloc_at, cells_alloc_ne, cells_set_at, cells_set_ne, yres, yres1, yresL, qA, qB, qC, D5,hF,hA,↓reduceIte,qD,qE]; rfl) ?_))
    exact ⟨k3, k2⟩
def cd (rs : List R2) (bs es : List Int) : Prop := ∀ q ∈ rs.zip (bs.zip es), (dd q.2.1 q.1).1 ≤ q.2.2 ∧ q.2.2 ≤ (dd q.2.1 q.1).2
instance (rs : List R2) (bs es : List Int) : Decidable (cd rs bs es) := by unfold cd; infer_instance
theorem f112_ok {H : Heap} {c b r n v y : Value} {T : Tb} {bs es : List Int} (h : TV H c b r n T) (hv : RI H v bs) (hy : RI H y es) (hn : T.Rt.length ≤ 1048576) (h1 : T.Rt.length ≤ bs.length) (h2 : T.Rt.length ≤ es.length) : Gives Try.prog 112 [.agg ⟨[c, b, r, n]⟩, v, y] H (.bool (decide (cd T.Rt bs es))) := by
  have hl := h.r.len
  refine F.entryL rfl dg112 do112 de112 rfl (by kernel_rfl) ?_
  simp only [sets]
  refine V.re [(0, .agg ⟨[c, b, r, n]⟩), (1, v), (2, y)] (N := 30) (by intro i; simp only [full_st, Full.mk]) (by simp only [Kn, gt_st, full_st, Full.mk, ↓reduceIte, qD, qE, decide_true, and_self]) ?_
  intro t hF hA
  simp only [Kn, and_true] at hA
  (repeat first|apply V.seq|apply V.block|apply V.scope|apply V.skip|apply V.close)
  refine V.line' (by simp +contextual (disch := first|omega|simp only [nx];omega) only [D4,qF,qG,qA,qB,qC,D5,hF,hA,↓reduceIte,qD,qE]; with_reducible rfl) ?_
  refine V.heap (fun X => Grow H X ∧ Bx X H.next [c, b, r, n] 38) ⟨?_, ?_⟩ ?_
  · (repeat first | assumption | exact Grow.refl _ | refine Grow.alloc ?_ _ | refine Grow.set ?_ (by first|omega|simp only [nx];omega) _)
  · (repeat first | assumption | exact Bx.new _ _ _ | exact Bx.newAt (by first|omega|simp only [nx];omega) | refine Bx.put (by first|omega|simp only [nx];omega) _ _ | refine Bx.alloc ?_ _ | refine Bx.set ?_ (by first|omega|simp only [nx];omega) _)
  rintro H1 ⟨g1, b1⟩
  (repeat first|apply V.seq|apply V.block|apply V.scope|apply V.skip|apply V.close)
  refine V.line' (by simp +contextual (disch := first|omega|simp only [nx];omega) only [D4,qF,qG,qA,qB,qC,D5,hF,hA,↓reduceIte,qD,qE, b1.2, hl]; with_reducible rfl) ?_
  (repeat first|apply V.seq|apply V.block|apply V.scope|apply V.skip|apply V.close)
  refine V.loop (fun z t m X => ∃ (k : Nat), k ≤ T.Rt.length ∧ z = T.Rt.length - k ∧ m = [] ∧ Grow H X ∧ (∀ q ∈ (T.Rt.zip (bs.zip es)).take k, (dd q.2.1 q.1).1 ≤ q.2.2 ∧ q.2.2 ≤ (dd q.2.1 q.1).2) ∧ Full 30 t ∧ Kn [(1, v), (2, y), (10, r), (11, I T.Rt.length), (12, I k)] t) T.Rt.length ?_ ?_
  · exact ⟨0, by omega, by omega, rfl, g1, by simp, (by intro i; simp only [full_st, hF]), (by simp only [Kn, D5,hF,hA,↓reduceIte,qD,qE, and_self, and_true, true_and]; try (repeat' constructor))⟩
  clear hF hA
  rintro z t m X ⟨k, hk, rfl, rfl, hg, hall, hF, hA⟩
  simp only [Kn, and_true] at hA
  (repeat first|apply V.seq|apply V.block|apply V.scope|apply V.skip|apply V.close)
  refine V.line' (by simp +contextual (disch := first|omega|simp only [nx];omega) only [D4,qF,qG,qA,qB,qC,D5,hF,hA,↓reduceIte,qD,qE]; with_reducible rfl) ?_
  (repeat first|apply V.seq|apply V.block|apply V.scope|apply V.skip|apply V.close)
  refine V.condP (by simp only [D6,D5,hF,hA,↓reduceIte,qD,qE]; rfl) (fun hlt => ?_) (fun hlt => ?_)
  · have hlt' : k < T.Rt.length := by omega
    have hlb : k < bs.length := by omega
    have hld : k < es.length := by omega
    have hlz : k < (T.Rt.zip (bs.zip es)).length := by rw [List.length_zip, List.length_zip]; omega
    have hz : (T.Rt.zip (bs.zip es))[k] = (T.Rt[k], (bs[k], es[k])) := by rw [List.getElem_zip, List.getElem_zip]
    obtain ⟨i, o, hp, hx⟩ := h.r.at hlt'
    obtain ⟨hx1, _, _⟩ := hx _ hg
    obtain ⟨q, hq, hqx⟩ := hv.at hlb
    obtain ⟨u, hu, hux⟩ := hy.at hld
    (repeat first|apply V.seq|apply V.block|apply V.scope|apply V.skip|apply V.close)
    refine V.line' (by simp +contextual (disch := first|omega|simp only [nx];omega) only [D4,qF,qG,qA,qB,qC,D5,hF,hA,↓reduceIte,qD,qE, hp, hx1]; with_reducible rfl) ?_
    refine V.heap (fun Y => Grow X Y ∧ Bx Y X.next (A2 T.Rt[k].1 T.Rt[k].2) 69) ⟨?_, ?_⟩ ?_
    · (repeat first | assumption | exact Grow.refl _ | refine Grow.alloc ?_ _ | refine Grow.set ?_ (by first|omega|simp only [nx];omega) _)
    · (repeat first | assumption | exact Bx.new _ _ _ | exact Bx.newAt (by first|omega|simp only [nx];omega) | refine Bx.put (by first|omega|simp only [nx];omega) _ _ | refine Bx.alloc ?_ _ | refine Bx.set ?_ (by first|omega|simp only [nx];omega) _)
    rintro X1 ⟨gx, bx⟩
    have hq1 := hqx _ (hg.trans gx)
    have hu1 := hux _ (hg.trans gx)
    (repeat first|apply V.seq|apply V.block|apply V.scope|apply V.skip|apply V.close)
    refine V.draw ?_
    refine VD.dins 5 (by simp +contextual (disch := first|omega|simp only [nx];omega) only [D4,qF,qG,qA,qB,qC,D5,hF,hA,↓reduceIte,qD,qE, bx.2, hq, hq1]; with_reducible rfl) ?_
    simp only [ds]
    refine VD.callA (by simp only [D6,D5,hF,hA,↓reduceIte,qD,qE]; try rfl) (f133_ok bs[k] T.Rt[k] X1) (by simp only [D6,D5,hF,hA,↓reduceIte,qD,qE]; try rfl) (fun X2 gy => ?_)
    have hu2 := hux _ ((hg.trans gx).trans gy)
    refine VD.dins 4 (by simp +contextual (disch := first|omega|simp only [nx];omega) only [D4,qF,qG,qA,qB,qC,D5,hF,hA,↓reduceIte,qD,qE, hu, hu2]; with_reducible rfl) ?_
    simp only [ds]
    refine VD.callA (by simp only [D6,D5,hF,hA,↓reduceIte,qD,qE]; try rfl) (f109_ok (dd bs[k] T.Rt[k]) es[k] X2) (by simp only [D6,D5,hF,hA,↓reduceIte,qD,qE]; try rfl) (fun X3 gz => ?_)
    have hu3 := hux _ (((hg.trans gx).trans gy).trans gz)
    refine VD.lineD' (by simp +contextual (disch := first|omega|simp only [nx];omega) only [D4,qF,qG,qA,qB,qC,D5,hF,hA,↓reduceIte,qD,qE]; with_reducible rfl) ?_ ?_ rfl ?_
    · have m1 := gy.1
      have m2 := gz.1
      simp only [monoG, List.cons_append, List.nil_append, Heap.next_set, Heap.next_alloc, Nat.le_refl, true_and, and_true] <;> omega
    · simp only [dcAll, dcOk, wantD, List.cons_append, List.nil_append, true_and, and_true]
      exact fun _ q hq => by simp only [List.mem_cons, List.not_mem_nil, or_false] at hq; (repeat (rcases hq with rfl | hq; exact ⟨_, _, _, rfl, (by simp +contextual (disch := first|omega|simp only [nx];omega) only [D4,qF,qG,qA,qB,qC,D5,hF,hA,↓reduceIte,qD,qE, hu1, hu2, hu3]; with_reducible rfl), fun p hp => by cases hp; simp only [D5,hF,hA,↓reduceIte,qD,qE]; first | exact vEq_An | (simp [vEq, vEq0, all2]; done) | assumption⟩)); (try (subst hq; exact ⟨_, _, _, rfl, (by simp +contextual (disch := first|omega|simp only [nx];omega) only [D4,qF,qG,qA,qB,qC,D5,hF,hA,↓reduceIte,qD,qE, hu1, hu2, hu3]; with_reducible rfl), fun p hp => by cases hp; simp only [D5,hF,hA,↓reduceIte,qD,qE]; first | exact vEq_An | (simp [vEq, vEq0, all2]; done) | assumption⟩))
    (repeat first|apply V.seq|apply V.block|apply V.scope|apply V.skip|apply V.close)
    refine V.condP (by simp only [D6,D5,hF,hA,↓reduceIte,qD,qE]; rfl) (fun hw => ?_) (fun hw => ?_)
    · (repeat first|apply V.seq|apply V.block|apply V.scope|apply V.skip|apply V.close)
      refine V.line' (by simp +contextual (disch := first|omega|simp only [nx];omega) only [D4,qF,qG,qA,qB,qC,D5,hF,hA,↓reduceIte,qD,qE]; with_reducible rfl) ?_
      (repeat first|apply V.seq|apply V.block|apply V.scope|apply V.skip|apply V.close)
      refine V.ret (V.rets rfl (Or.inr ⟨by simp, V.rets rfl (Lv.retG (by simp +contextual (disch := first|omega|simp only [nx];omega) only [D1, cells_alloc_at, cells_alloc_ne, cells_set_at, cells_set_ne, yres, yres1, yresL, qA, qB, qC, D5,hF,hA,↓reduceIte,qD,qE]; rfl) ?_ ?_)⟩))
      · exact ((hg.trans gx).trans gy).trans gz
      · congr 1
        exact (decide_eq_false (fun hh => hw (by have := hh _ (List.getElem_mem hlz); rw [hz] at this; exact this))).symm
    · (repeat first|apply V.seq|apply V.block|apply V.scope|apply V.skip|apply V.close)
      refine V.line' (by simp +contextual (disch := first|omega|simp only [nx];omega) only [D4,qF,qG,qA,qB,qC,D5,hF,hA,↓reduceIte,qD,qE]; with_reducible rfl) ?_
      refine V.nil (Or.inl ⟨rfl, T.Rt.length - (k + 1), by omega, ?_⟩)
      refine ⟨k + 1, by omega, rfl, rfl, ((hg.trans gx).trans gy).trans gz, ?_, (by intro i; simp only [full_st, hF]), (by simp only [Kn, D5,hF,hA,↓reduceIte,qD,qE, and_self, and_true, true_and]; try (repeat' constructor))⟩
      intro p hp
      rw [tk1 hlz] at hp
      rcases List.mem_append.1 hp with hp | hp
      · exact hall p hp
      · rw [List.mem_singleton.1 hp, hz]; exact Decidable.not_not.1 hw
  · refine V.exit ?_
    (repeat first | refine V.pass ?_ | refine V.here ?_ | refine V.out (by decide) ?_)
    refine V.nil (Or.inr ⟨by simp, ?_⟩)
    (repeat first | refine V.pass ?_ | refine V.here ?_ | refine V.out (by decide) ?_)
    have e : (T.Rt.zip (bs.zip es)).take k = T.Rt.zip (bs.zip es) := List.take_of_length_le (by rw [List.length_zip, List.length_zip]; omega)
    rw [e] at hall
    (repeat first|apply V.seq|apply V.block|apply V.scope|apply V.skip|apply V.close)
    refine V.line' (by simp +contextual (disch := first|omega|simp only [nx];omega) only [D4,qF,qG,qA,qB,qC,D5,hF,hA,↓reduceIte,qD,qE]; with_reducible rfl) ?_
    (repeat first|apply V.seq|apply V.block|apply V.scope|apply V.skip|apply V.close)
    refine V.ret (V.rets rfl (Lv.retG (by simp +contextual (disch := first|omega|simp only [nx];omega) only [D1, cells_alloc_at, cells_alloc_ne, cells_set_at, cells_set_ne, yres, yres1, yresL, qA, qB, qC, D5,hF,hA,↓reduceIte,qD,qE]; rfl) ?_ ?_))
    · exact hg
    · rw [decide_eq_true (show cd T.Rt bs es from hall)]
def nxk (be de mo : List Int) : Nat → List Int
  | 0 => mo
  | k + 1 => (nxk be de mo k).set (min k (mo.length - 1)) (W ((nxk be de mo k).getD (min k (mo.length - 1)) 0 + W (be.getD k 0 - de.getD k 0)))
def nxt (be de mo : List Int) : List Int := nxk be de mo be.length
theorem nxk_len (be de mo : List Int) : ∀ k, (nxk be de mo k).length = mo.length
  | 0 => rfl
  | k + 1 => by simp only [nxk, List.length_set, nxk_len be de mo k]
theorem own_idx {y n c g : Nat} (h : g < n) : yindexAddr none 1 (.slice (some ⟨y, 0, none⟩) n c) (I (g : Nat)) = some (.pointer (some ⟨y, g, none⟩)) := by
  simp only [yindexAddr]
  rw [if_pos ⟨by omega, by omega⟩]
  simp
theorem getD_at {l : List Int} {k : Nat} (h : k < l.length) : l.getD k 0 = l[k] := by simp [h]
theorem f113_ok {H : Heap} {v y z : Value} {be de mo : List Int} (hv : RI H v be) (hy : RI H y de) (hz : RI H z mo) (h1 : be.length ≤ de.length) (hb : be.length ≤ 1048576) (hm : mo.length ≤ 1048576) (h0 : 0 < mo.length) :
    F Try.prog 113 ⟨[v, y, z]⟩ H (fun w X => Grow H X ∧ Ow H X 3 w ((nxt be de mo).map I)) := by
  have hl := hv.len
  refine F.entryL rfl dg113 do113 de113 rfl (by kernel_rfl) ?_
  simp only [sets]
  refine V.re [(0, v), (1, y), (2, z)] (N := 39) (by intro i; simp only [full_st, Full.mk]) (by simp only [Kn, gt_st, full_st, Full.mk, ↓reduceIte, qD, qE, decide_true, and_self]) ?_
  intro t hF hA
  simp only [Kn, and_true] at hA
  (repeat first|apply V.seq|apply V.block|apply V.scope|apply V.skip|apply V.close)
  refine V.line' (by simp +contextual (disch := first|omega|simp only [nx];omega) only [D4,qF,qG,qA,qB,qC,D5,hF,hA,↓reduceIte,qD,qE]; with_reducible rfl) ?_
  (repeat first|apply V.seq|apply V.block|apply V.scope|apply V.skip|apply V.close)
  refine V.run ?_
  refine VI.steps' 1 (by simp +contextual (disch := first|omega|simp only [nx];omega) only [D4,qF,qG,qA,qB,qC,D5,hF,hA,↓reduceIte,qD,qE]; with_reducible rfl) ?_
  simp only [ds]
  refine VI.callR (by simp only [D6,D5,hF,hA,↓reduceIte,qD,qE]; try rfl) (f111_ok hz hm) (by simp only [D6,D5,hF,hA,↓reduceIte,qD,qE]; try rfl) (fun w0 H1 ⟨g1, o1⟩ => ?_)
  refine VI.line' (by simp +contextual (disch := first|omega|simp only [nx];omega) only [D4,qF,qG,qA,qB,qC,D5,hF,hA,↓reduceIte,qD,qE]; with_reducible rfl) ?_
  (repeat first|apply V.seq|apply V.block|apply V.scope|apply V.skip|apply V.close)
  refine V.line' (by simp +contextual (disch := first|omega|simp only [nx];omega) only [D4,qF,qG,qA,qB,qC,D5,hF,hA,↓reduceIte,qD,qE, hl]; with_reducible rfl) ?_
  (repeat first|apply V.seq|apply V.block|apply V.scope|apply V.skip|apply V.close)
  refine V.loop (fun r t m X => ∃ (k : Nat) (s : Value), k ≤ be.length ∧ r = be.length - k ∧ m = [] ∧ Grow H X ∧ Ow H X 3 s ((nxk be de mo k).map I) ∧ Full 39 t ∧ Kn [(1, y), (7, s), (13, v), (14, I be.length), (15, I k)] t) be.length ?_ ?_
  · exact ⟨0, w0, by omega, by omega, rfl, g1, o1, (by intro i; simp only [full_st, hF]), (by simp only [Kn, D5,hF,hA,↓reduceIte,qD,qE, and_self, and_true, true_and]; try (repeat' constructor))⟩
  clear hF hA
  rintro r t m X ⟨k, s, hk, rfl, rfl, hg, os, hF, hA⟩
  simp only [Kn, and_true] at hA
  (repeat first|apply V.seq|apply V.block|apply V.scope|apply V.skip|apply V.close)
  refine V.line' (by simp +contextual (disch := first|omega|simp only [nx];omega) only [D4,qF,qG,qA,qB,qC,D5,hF,hA,↓reduceIte,qD,qE]; with_reducible rfl) ?_
  (repeat first|apply V.seq|apply V.block|apply V.scope|apply V.skip|apply V.close)
  refine V.condP (by simp only [D6,D5,hF,hA,↓reduceIte,qD,qE]; rfl) (fun hlt => ?_) (fun hlt => ?_)
  · have hlt' : k < be.length := by omega
    have hld : k < de.length := by omega
    obtain ⟨q, hq, hqx⟩ := hv.at hlt'
    have hq1 := hqx _ hg
    obtain ⟨u, hu, hux⟩ := hy.at hld
    have hu1 := hux _ hg
    have hlen := nxk_len be de mo k
    rcases os with ⟨_, e⟩ | ⟨i, i1, i2, hs, i4⟩
    · exfalso
      have := List.map_eq_nil_iff.1 e
      rw [this] at hlen
      simp at hlen
      omega
    rw [List.length_map, hlen] at hs
    subst hs
    have bx : Bx X i ((nxk be de mo k).map I) 3 := ⟨i2, i4⟩
    have hgl : min k (mo.length - 1) < mo.length := by omega
    have hix := own_idx (y := i) (c := mo.length) hgl
    have hmin : (if (mo.length : Int) - 1 < (k : Int) then (mo.length : Int) - 1 else (k : Int)) = ((min k (mo.length - 1) : Nat) : Int) := by
      split <;> omega
    have hget : ((nxk be de mo k).map I)[min k (mo.length - 1)]? = some (I ((nxk be de mo k).getD (min k (mo.length - 1)) 0)) := by
      rw [List.getElem?_map, getD_at (by omega)]; simp [hlen, hgl]
    have hll : min k (mo.length - 1) < ((nxk be de mo k).map I).length := by rw [List.length_map, hlen]; exact hgl
    (repeat first|apply V.seq|apply V.block|apply V.scope|apply V.skip|apply V.close)
    refine V.line' (by simp +contextual (disch := first|omega|simp only [nx];omega) only [D4,qF,qG,qA,qB,qC,D5,hF,hA,↓reduceIte,qD,qE, hq, hq1]; with_reducible rfl) ?_
    (repeat first|apply V.seq|apply V.block|apply V.scope|apply V.skip|apply V.close)
    have hls : ∀ (X : Heap) p n c, ylen 0 X (.slice p n c) = some (I n) := fun _ _ _ _ => rfl
    refine V.line' (by simp +contextual (disch := first|omega|simp only [nx];omega) only [D4,qF,qG,qA,qB,qC,D5,hF,hA,↓reduceIte,qD,qE, hmin, mm_min, hls]; with_reducible rfl) ?_
    (repeat first|apply V.seq|apply V.block|apply V.scope|apply V.skip|apply V.close)
    refine V.lineD' (by simp +contextual (disch := first|omega|simp only [nx];omega) only [D4,qF,qG,qA,qB,qC,D5,hF,hA,↓reduceIte,qD,qE, hix, bx.2, hget, hu, hu1, hll]; with_reducible rfl) ?_ ?_ rfl ?_
    · simp only [monoG, List.cons_append, List.nil_append, Heap.next_set, Heap.next_alloc, Nat.le_refl, true_and, and_true] <;> omega
    · simp only [dcAll, dcOk, wantD, List.cons_append, List.nil_append, true_and, and_true]
    refine V.heap (fun Y => Grow H Y ∧ Bx Y i ((nxk be de mo (k + 1)).map I) 3) ⟨?_, ?_⟩ ?_
    · (repeat first | assumption | exact Grow.refl _ | refine Grow.alloc ?_ _ | refine Grow.set ?_ (by first|omega|simp only [nx];omega) _)
    · have e : (nxk be de mo (k + 1)).map I = ((nxk be de mo k).map I).set (min k (mo.length - 1)) (I (W ((nxk be de mo k).getD (min k (mo.length - 1)) 0 + W (be[k] - de[k])))) := by
        simp only [nxk, List.map_set, getD_at hlt', getD_at hld]
      rw [e]
      (repeat first | assumption | exact Bx.new _ _ _ | exact Bx.newAt (by first|omega|simp only [nx];omega) | refine Bx.put (by first|omega|simp only [nx];omega) _ _ | refine Bx.alloc ?_ _ | refine Bx.set ?_ (by first|omega|simp only [nx];omega) _)
    rintro Y ⟨gy, by'⟩
    (repeat first|apply V.seq|apply V.block|apply V.scope|apply V.skip|apply V.close)
    refine V.line' (by simp +contextual (disch := first|omega|simp only [nx];omega) only [D4,qF,qG,qA,qB,qC,D5,hF,hA,↓reduceIte,qD,qE]; with_reducible rfl) ?_
    refine V.nil (Or.inl ⟨rfl, be.length - (k + 1), by omega, ?_⟩)
    refine ⟨k + 1, _, by omega, rfl, rfl, gy, .inr ⟨i, i1, by'.1, ?_, by'.2⟩, (by intro i; simp only [full_st, hF]), (by simp only [Kn, D5,hF,hA,↓reduceIte,qD,qE, and_self, and_true, true_and]; try (repeat' constructor))⟩
    rw [List.length_map, nxk_len]
  · have ek : k = be.length := by omega
    subst ek
    refine V.exit ?_
    (repeat first | refine V.pass ?_ | refine V.here ?_ | refine V.out (by decide) ?_)
    refine V.nil (Or.inr ⟨by simp, ?_⟩)
    (repeat first | refine V.pass ?_ | refine V.here ?_ | refine V.out (by decide) ?_)
    (repeat first|apply V.seq|apply V.block|apply V.scope|apply V.skip|apply V.close)
    refine V.line' (by simp +contextual (disch := first|omega|simp only [nx];omega) only [D4,qF,qG,qA,qB,qC,D5,hF,hA,↓reduceIte,qD,qE]; with_reducible rfl) ?_
    (repeat first|apply V.seq|apply V.block|apply V.scope|apply V.skip|apply V.close)
    refine V.ret (V.rets rfl (Lv.retF (by simp +contextual (disch := first|omega|simp only [nx];omega) only [D1, cells_alloc_at, cells_alloc_ne, cells_set_at, cells_set_ne, yres, yres1, yresL, qA, qB, qC, D5,hF,hA,↓reduceIte,qD,qE]; rfl) ?_))
    exact ⟨hg, os⟩
theorem f114_ok {H : Heap} {x : Value} {l : List Int} (a : Int) (h : RI H x l) (hn : l.length ≤ 1048576) : Gives Try.prog 114 [I a, x] H (I (l.foldl min a)) := by
  have hl := h.len
  refine F.entryL rfl dg114 do114 de114 rfl (by kernel_rfl) ?_
  simp only [sets]
  refine V.re [(0, I a), (1, x)] (N := 18) (by intro i; simp only [full_st, Full.mk]) (by simp only [Kn, gt_st, full_st, Full.mk, ↓reduceIte, qD, qE, decide_true, and_self]) ?_
  intro t hF hA
  simp only [Kn, and_true] at hA
  (repeat first|apply V.seq|apply V.block|apply V.scope|apply V.skip|apply V.close)
  refine V.line' (by simp +contextual (disch := first|omega|simp only [nx];omega) only [D4,qF,qG,qA,qB,qC,D5,hF,hA,↓reduceIte,qD,qE]; with_reducible rfl) ?_
  (repeat first|apply V.seq|apply V.block|apply V.scope|apply V.skip|apply V.close)
  refine V.line' (by simp +contextual (disch := first|omega|simp only [nx];omega) only [D4,qF,qG,qA,qB,qC,D5,hF,hA,↓reduceIte,qD,qE, hl]; with_reducible rfl) ?_
  (repeat first|apply V.seq|apply V.block|apply V.scope|apply V.skip|apply V.close)
  refine V.loop (fun z t m X => ∃ (k : Nat), k ≤ l.length ∧ z = l.length - k ∧ m = [] ∧ Grow H X ∧ Full 18 t ∧ Kn [(0, I ((l.take k).foldl min a)), (7, x), (8, I l.length), (9, I k)] t) l.length ?_ ?_
  · exact ⟨0, by omega, by omega, rfl, .refl _, (by intro i; simp only [full_st, hF]), (by simp only [Kn, D5,hF,hA,↓reduceIte,qD,qE, and_self, and_true, true_and]; try (repeat' constructor))⟩
  clear hF hA
  rintro z t m X ⟨k, hk, rfl, rfl, hg, hF, hA⟩
  simp only [Kn, and_true] at hA
  (repeat first|apply V.seq|apply V.block|apply V.scope|apply V.skip|apply V.close)
  refine V.line' (by simp +contextual (disch := first|omega|simp only [nx];omega) only [D4,qF,qG,qA,qB,qC,D5,hF,hA,↓reduceIte,qD,qE]; with_reducible rfl) ?_
  (repeat first|apply V.seq|apply V.block|apply V.scope|apply V.skip|apply V.close)
  refine V.condP (by simp only [D6,D5,hF,hA,↓reduceIte,qD,qE]; rfl) (fun hlt => ?_) (fun hlt => ?_)
  · have hlt' : k < l.length := by omega
    obtain ⟨q, hq, hqx⟩ := h.at hlt'
    have hq1 := hqx _ hg
    have hmin : (if l[k] < (l.take k).foldl min a then l[k] else (l.take k).foldl min a) = (l.take (k + 1)).foldl min a := by
      rw [tk1 hlt', List.foldl_append]
      simp only [List.foldl_cons, List.foldl_nil]
      split <;> omega
    (repeat first|apply V.seq|apply V.block|apply V.scope|apply V.skip|apply V.close)
    refine V.line' (by simp +contextual (disch := first|omega|simp only [nx];omega) only [D4,qF,qG,qA,qB,qC,D5,hF,hA,↓reduceIte,qD,qE, hq, hq1]; with_reducible rfl) ?_
    (repeat first|apply V.seq|apply V.block|apply V.scope|apply V.skip|apply V.close)
    refine V.line' (by simp +contextual (disch := first|omega|simp only [nx];omega) only [D4,qF,qG,qA,qB,qC,D5,hF,hA,↓reduceIte,qD,qE, mm_min, hmin]; with_reducible rfl) ?_
    (repeat first|apply V.seq|apply V.block|apply V.scope|apply V.skip|apply V.close)
    refine V.line' (by simp +contextual (disch := first|omega|simp only [nx];omega) only [D4,qF,qG,qA,qB,qC,D5,hF,hA,↓reduceIte,qD,qE]; with_reducible rfl) ?_
    refine V.nil (Or.inl ⟨rfl, l.length - (k + 1), by omega, ?_⟩)
    exact ⟨k + 1, by omega, rfl, rfl, hg, (by intro i; simp only [full_st, hF]), (by simp only [Kn, D5,hF,hA,↓reduceIte,qD,qE, and_self, and_true, true_and]; try (repeat' constructor))⟩
  · have ek : k = l.length := by omega
    subst ek
    refine V.exit ?_
    (repeat first | refine V.pass ?_ | refine V.here ?_ | refine V.out (by decide) ?_)
    refine V.nil (Or.inr ⟨by simp, ?_⟩)
    (repeat first | refine V.pass ?_ | refine V.here ?_ | refine V.out (by decide) ?_)
    (repeat first|apply V.seq|apply V.block|apply V.scope|apply V.skip|apply V.close)
    refine V.line' (by simp +contextual (disch := first|omega|simp only [nx];omega) only [D4,qF,qG,qA,qB,qC,D5,hF,hA,↓reduceIte,qD,qE]; with_reducible rfl) ?_
    (repeat first|apply V.seq|apply V.block|apply V.scope|apply V.skip|apply V.close)
    refine V.ret (V.rets rfl (Lv.retG (by simp +contextual (disch := first|omega|simp only [nx];omega) only [D1, cells_alloc_at, cells_alloc_ne, cells_set_at, cells_set_ne, yres, yres1, yresL, qA, qB, qC, D5,hF,hA,↓reduceIte,qD,qE]; rfl) ?_ ?_))
    · exact hg
    · rw [List.take_length]
end Go.Xe.TFX
