/- What the functions of the layer miss come to: the numbers that a level excludes. Conditions: none. -/
import Derived.Test.YtglkpemncjoefaaTNC
import Derived.Test.YtglkpemncjoefaaYk
-- MOD TM
namespace Go.Xe.TMX
open Go Go.Xe Go.Proofs Go.Xe.Mth
open Nat renaming reduceLeDiff → qA, reduceSub → qB, reduceAdd → qC, reduceEqDiff → qD, reduceLT → qE
open Int renaming reduceNegSucc → qF, reduceEq → qG
open Go.Xe.V renaming seq → sA, block → sB, scope → sC, skip → sD, close → sE
open Go.Xe renaming pth → P
set_option maxRecDepth 100000
set_option maxHeartbeats 3200000
set_option linter.unusedSimpArgs false
noncomputable def d111 : FCode := (.seq (.run (.go (.move (.con (.int .i64 (.ofNat 0)))) (P 4)::
[])) (.seq (.seq (.run (.go (.move (.tmp (P 0))) (P 6)::
.go (.len 0 (.tmp (P 6))) (P 7)::
.go (.move (.con (.int .i64 (.ofNat 0)))) (P 8)::
[])) (.block 0 (.loop (.seq (.run (.go (.bin .lss 3 (.tmp (P 8)) (.tmp (P 7))) (P 9)::
[])) (.seq (.cond (.tmp (P 9)) .skip (.exit 0)) (.seq (.block 1 (.seq (.run (.go (.move (.tmp (P 8))) (P 10)::
.go (.move (.tmp (P 10))) (P 5)::
[])) (.seq (.run (.go (.move (.tmp (P 1))) (P 11)::
.go (.move (.tmp (P 0))) (P 12)::
.go (.move (.tmp (P 5))) (P 13)::
.go (.indexAddr none 1 (.tmp (P 12)) (.tmp (P 13))) (P 14)::
.go (.loadN 1 (.tmp (P 14))) (P 15)::
.go (.call (.tmp (P 11)) [(.tmp (P 15))]) (P 16)::
[])) (.cond (.tmp (P 16)) (.seq (.run (.go (.move (.tmp (P 5))) (P 17)::
.go (.move (.tmp (P 17))) (P 4)::
[])) .ret) .skip)))) (.run (.go (.bin .add 3 (.tmp (P 8)) (.con (.int .i64 (.ofNat 1)))) (P 18)::
.go (.move (.tmp (P 18))) (P 8)::
[])))))))) (.seq (.run (.go (.move (.con (.int .i64 (.negSucc 0)))) (P 4)::
[])) .ret)))
theorem de111 : @compF Try.prog (Gl.none Try.prog) Try.f111 2 = .mk d111 (mkTT 19) [(P 0),(P 1)] [.tmp (P 4)] := by kernel_rfl
theorem dg111 : Try.prog.funcs[111]? = some Try.f111 := Try.func111
theorem do111 : okF Try.prog Try.f111 = true := by kernel_rfl
noncomputable def d98 : FCode := (.seq (.run (.go (.move (.con (.bool false))) (P 4)::
[])) (.seq (.run (.go (.move (.tmp (P 0))) (P 5)::
.go (.move (.tmp (P 1))) (P 6)::
.go (.call (.con (.func (.func 111) ⟨[]⟩ ⟨[]⟩)) [(.tmp (P 5)),(.tmp (P 6))]) (P 7)::
.go (.bin .geq 3 (.tmp (P 7)) (.con (.int .i64 (.ofNat 0)))) (P 8)::
.go (.move (.tmp (P 8))) (P 4)::
[])) .ret))
theorem de98 : @compF Try.prog (Gl.none Try.prog) Try.f98 2 = .mk d98 (mkTT 9) [(P 0),(P 1)] [.tmp (P 4)] := by kernel_rfl
theorem dg98 : Try.prog.funcs[98]? = some Try.f98 := Try.func98
theorem do98 : okF Try.prog Try.f98 = true := by kernel_rfl
noncomputable def d85 : FCode := (.seq (.run (.go (.box 108 (.tmp (P 0))) (P 2)::
.go (.move (.con (.bool false))) (P 4)::
[])) (.seq (.run (.go (.fieldAddr 0 (.tmp (P 2))) (P 7)::
.go (.loadN 5 (.tmp (P 7))) (P 8)::
.go (.move (.tmp (P 1))) (P 9)::
.go (.call (.con (.func (.func 61) ⟨[]⟩ ⟨[]⟩)) [(.tmp (P 8)),(.tmp (P 9))]) (P 10)::
.go (.alloc 101 [(.pointer none)]) (P 5)::
.un (.store 1 (.tmp (P 5)) (.tmp (P 10)))::
[])) (.seq (.run (.go (.makeFunc 97 [] [(.tmp (P 5)),(.tmp (P 2))]) (P 11)::
.go (.move (.tmp (P 11))) (P 6)::
[])) (.seq (.run (.go (.call (.con (.func (.func 59) ⟨[]⟩ ⟨[]⟩)) []) (P 12)::
.go (.call (.con (.func (.func 58) ⟨[]⟩ ⟨[]⟩)) []) (P 13)::
.go (.buildSlice 98 2 [.nilFunc,.nilFunc] [(0,1,(.tmp (P 12))),(1,1,(.tmp (P 13)))]) (P 14)::
.go (.move (.tmp (P 6))) (P 15)::
.go (.call (.con (.func (.func 98) ⟨[]⟩ ⟨[]⟩)) [(.tmp (P 14)),(.tmp (P 15))]) (P 16)::
.go (.move (.tmp (P 16))) (P 4)::
[])) .ret))))
theorem de85 : @compF Try.prog (Gl.none Try.prog) Try.f85 2 = .mk d85 (mkTT 17) [(P 0),(P 1)] [.tmp (P 4)] := by kernel_rfl
theorem dg85 : Try.prog.funcs[85]? = some Try.f85 := Try.func85
theorem do85 : okF Try.prog Try.f85 = true := by kernel_rfl
theorem ld1N {H : Heap} {q x : Value} (h : yload1 H q = some x) : yloadN 1 H q = some (.agg ⟨[x]⟩) := by
  unfold yload1 at h
  split at h
  · rename_i i o
    split at h
    · rename_i c el rw hc
      have ho := (Array.getElem?_eq_some_iff.1 h)
      obtain ⟨ho, hx⟩ := ho
      simp only[yloadN, hc]
      rw [if_pos ⟨by omega, by omega⟩]
      congr 2
      apply Array.ext'
      apply List.ext_getElem?
      intro k
      cases k with
      | zero => simp; exact h
      | succ k => simp; omega
    · cases h
  · cases h
theorem f111_ok {H : Heap} {v : Value} {fs : List Value} {bs : List Bool} {g : FuncId} {first cap : List Value} (hS : Sl H v fs) (hn : fs.length ≤ 1048576) (hb : bs.length = fs.length)
    (hp : ∀ k (h : k < fs.length) H', Grow H H' → Gives Try.prog g (first ++ [.agg ⟨[fs[k]]⟩] ++ cap) H' (.bool (bs[k]'(by omega)))) :
    F Try.prog 111 ⟨[v, .func (.func g) ⟨first⟩ ⟨cap⟩]⟩ H (fun w H' => Grow H H' ∧ ∃ r : Int, w = I r ∧ (0 ≤ r ↔ bs.any id = true)) := by
  have hlen : ylen 0 H v = some (I fs.length) := hS.len
  refine F.entryL rfl dg111 do111 de111 rfl (by kernel_rfl) ?_
  simp only[sets]
  refine V.re [(0, v), (1, .func (.func g) ⟨first⟩ ⟨cap⟩)] (N := 19) (by intro i; simp only[full_st, Full.mk]) (by simp only[Kn, gt_st, full_st, Full.mk, ↓reduceIte, qD, qE, decide_true, and_self]) ?_
  intro t hF hA
  simp only[Kn, and_true] at hA
  (repeat first|apply sA|apply sB|apply sC|apply sD|apply sE)
  refine V.line' (by simp +contextual (disch := first|omega|simp only[nx];omega) only[D4,qF,qG,qA,qB,qC,D5,hF,hA,↓reduceIte,qD,qE]; with_reducible rfl) ?_
  (repeat first|apply sA|apply sB|apply sC|apply sD|apply sE)
  refine V.line' (by simp +contextual (disch := first|omega|simp only[nx];omega) only[D4,qF,qG,qA,qB,qC,D5,hF,hA,↓reduceIte,qD,qE, hlen]; with_reducible rfl) ?_
  (repeat first|apply sA|apply sB|apply sC|apply sD|apply sE)
  refine V.loop (fun n t m X => ∃ (k : Nat), k ≤ fs.length ∧ n = fs.length - k ∧ (∀ x ∈ bs.take k, x = false) ∧ m = [] ∧ Grow H X ∧ Full 19 t ∧ Kn [(0, v), (1, .func (.func g) ⟨first⟩ ⟨cap⟩), (7, I fs.length), (8, I k)] t) fs.length ?_ ?_
  · exact ⟨0, by omega, by omega, by simp, rfl, .refl _, (by intro;simp only[full_st,hF]), (by simp only[Kn, D5,hF,hA,↓reduceIte,qD,qE,and_self,and_true,true_and];try (repeat' constructor))⟩
  clear hF hA
  rintro n t m X ⟨k, hk, rfl, hall, rfl, hg, hF, hA⟩
  simp only[Kn, and_true] at hA
  (repeat first|apply sA|apply sB|apply sC|apply sD|apply sE)
  refine V.line' (by simp +contextual (disch := first|omega|simp only[nx];omega) only[D4,qF,qG,qA,qB,qC,D5,hF,hA,↓reduceIte,qD,qE]; with_reducible rfl) ?_
  (repeat first|apply sA|apply sB|apply sC|apply sD|apply sE)
  refine V.condP (by simp only[D6,D5,hF,hA,↓reduceIte,qD,qE]; rfl) (fun hlt => ?_) (fun hlt => ?_)
  · have hlt' : k < fs.length := by omega
    have hbk : k < bs.length := by omega
    obtain ⟨q, hq1, hq2⟩ := hS.get (n := k) (k := k) (x := fs[k]) (kd := .i64) (by simp [hlt']) rfl
    have hq3 := ld1N (hq2 _ hg)
    (repeat first|apply sA|apply sB|apply sC|apply sD|apply sE)
    refine V.line' (by simp +contextual (disch := first|omega|simp only[nx];omega) only[D4,qF,qG,qA,qB,qC,D5,hF,hA,↓reduceIte,qD,qE]; with_reducible rfl) ?_
    (repeat first|apply sA|apply sB|apply sC|apply sD|apply sE)
    refine V.run ?_
    refine VI.steps' 5 (by simp +contextual (disch := first|omega|simp only[nx];omega) only[D4,qF,qG,qA,qB,qC,D5,hF,hA,↓reduceIte,qD,qE, hq1, hq3]; with_reducible rfl) ?_
    simp only[ds]
    refine VI.callA (by simp only[D6,D5,hF,hA,↓reduceIte,qD,qE]; rfl) (hp k hlt' X hg) (by simp only[List.map_cons, List.map_nil, D6,D5,hF,hA,↓reduceIte,qD,qE]) (fun X2 hg2 => ?_)
    refine VI.line' (by simp +contextual (disch := first|omega|simp only[nx];omega) only[D4,qF,qG,qA,qB,qC,D5,hF,hA,↓reduceIte,qD,qE]; with_reducible rfl) ?_
    (repeat first|apply sA|apply sB|apply sC|apply sD|apply sE)
    refine V.condB (by simp only[D6,D5,hF,hA,↓reduceIte,qD,qE]; rfl) (fun h => ?_) (fun h => ?_)
    · (repeat first|apply sA|apply sB|apply sC|apply sD|apply sE)
      refine V.line' (by simp +contextual (disch := first|omega|simp only[nx];omega) only[D4,qF,qG,qA,qB,qC,D5,hF,hA,↓reduceIte,qD,qE]; with_reducible rfl) ?_
      (repeat first|apply sA|apply sB|apply sC|apply sD|apply sE)
      refine V.ret (V.rets rfl (Or.inr ⟨by simp, V.rets rfl (Lv.retF (by simp only[yres, yres1, D5,hF,hA,↓reduceIte,qD,qE]; rfl) ?_)⟩))
      refine ⟨hg.trans hg2, _, rfl, ?_⟩
      have : bs.any id = true := List.any_eq_true.2 ⟨bs[k], by simp, by simpa using h⟩
      rw [this]; simp
    · (repeat first|apply sA|apply sB|apply sC|apply sD|apply sE)
      refine V.line' (by simp +contextual (disch := first|omega|simp only[nx];omega) only[D4,qF,qG,qA,qB,qC,D5,hF,hA,↓reduceIte,qD,qE]; with_reducible rfl) ?_
      refine V.nil (Or.inl ⟨rfl, fs.length - (k + 1), by omega, ?_⟩)
      refine ⟨k + 1, by omega, rfl, ?_, rfl, hg.trans hg2, (by intro;simp only[full_st,hF]), (by simp only[Kn, D5,hF,hA,↓reduceIte,qD,qE,and_self,and_true,true_and];try (repeat' constructor))⟩
      intro x hx
      rw [tk hbk] at hx
      rcases List.mem_append.1 hx with hx | hx
      · exact hall x hx
      · rw [List.mem_singleton.1 hx]; simpa using h
  · refine V.exit ?_
    (repeat first | refine V.pass ?_ | refine V.here ?_ | refine V.out (by decide) ?_)
    refine V.nil (Or.inr ⟨by simp, ?_⟩)
    (repeat first | refine V.pass ?_ | refine V.here ?_ | refine V.out (by decide) ?_)
    (repeat first|apply sA|apply sB|apply sC|apply sD|apply sE)
    refine V.line' (by simp +contextual (disch := first|omega|simp only[nx];omega) only[D4,qF,qG,qA,qB,qC,D5,hF,hA,↓reduceIte,qD,qE]; with_reducible rfl) ?_
    (repeat first|apply sA|apply sB|apply sC|apply sD|apply sE)
    refine V.ret (V.rets rfl (Lv.retF (by simp +contextual (disch := first|omega|simp only[nx];omega) only[D1, cells_alloc_at, cells_alloc_ne, cells_set_at, cells_set_ne, yres, yres1, yresL, qA, qB, qC, D5,hF,hA,↓reduceIte,qD,qE]; rfl) ?_))
    refine ⟨hg, _, rfl, ?_⟩
    have e : bs.take k = bs := List.take_of_length_le (by omega)
    rw [e] at hall
    have : bs.any id = false := List.any_eq_false.2 (fun x hx => by simp [hall x hx])
    rw [this]; simp
theorem f98_ok {H : Heap} {v : Value} {fs : List Value} {bs : List Bool} {g : FuncId} {first cap : List Value} (hS : Sl H v fs) (hn : fs.length ≤ 1048576) (hb : bs.length = fs.length)
    (hp : ∀ k (h : k < fs.length) H', Grow H H' → Gives Try.prog g (first ++ [.agg ⟨[fs[k]]⟩] ++ cap) H' (.bool (bs[k]'(by omega)))) :
    Gives Try.prog 98 [v, .func (.func g) ⟨first⟩ ⟨cap⟩] H (.bool (bs.any id)) := by
  refine F.entryL rfl dg98 do98 de98 rfl (by kernel_rfl) ?_
  simp only[sets]
  refine V.re [(0, v), (1, .func (.func g) ⟨first⟩ ⟨cap⟩)] (N := 9) (by intro i; simp only[full_st, Full.mk]) (by simp only[Kn, gt_st, full_st, Full.mk, ↓reduceIte, qD, qE, decide_true, and_self]) ?_
  intro t hF hA
  simp only[Kn, and_true] at hA
  (repeat first|apply sA|apply sB|apply sC|apply sD|apply sE)
  refine V.line' (by simp +contextual (disch := first|omega|simp only[nx];omega) only[D4,qF,qG,qA,qB,qC,D5,hF,hA,↓reduceIte,qD,qE]; with_reducible rfl) ?_
  (repeat first|apply sA|apply sB|apply sC|apply sD|apply sE)
  refine V.run ?_
  refine VI.steps' 2 (by simp +contextual (disch := first|omega|simp only[nx];omega) only[D4,qF,qG,qA,qB,qC,D5,hF,hA,↓reduceIte,qD,qE]; with_reducible rfl) ?_
  simp only[ds]
  refine VI.callR (by simp only[D6,D5,hF,hA,↓reduceIte,qD,qE]; try rfl) (f111_ok hS hn hb hp) (by simp only[D6,D5,hF,hA,↓reduceIte,qD,qE]; try rfl) (fun w H2 ⟨g2, r, hw, hr⟩ => ?_)
  subst hw
  refine VI.line' (by simp +contextual (disch := first|omega|simp only[nx];omega) only[D4,qF,qG,qA,qB,qC,D5,hF,hA,↓reduceIte,qD,qE]; with_reducible rfl) ?_
  (repeat first|apply sA|apply sB|apply sC|apply sD|apply sE)
  refine V.ret (V.rets rfl (Lv.retG (by simp +contextual (disch := first|omega|simp only[nx];omega) only[D1, cells_alloc_at, cells_alloc_ne, cells_set_at, cells_set_ne, yres, yres1, yresL, qA, qB, qC, D5,hF,hA,↓reduceIte,qD,qE]; rfl) ?_ ?_))
  · exact g2
  · congr 1
    cases h : bs.any id with
    | true => exact decide_eq_true (hr.2 h)
    | false => exact decide_eq_false (fun x => by rw [hr.1 x] at h; cases h)
def exc (a u c d n q : Nat) : Bool := below (psum a u c 0 (d + 1)) (ch (a + u) c) n q || below (psum a u c d (c + 1 - d)) (ch (a + u) c) n q
theorem f85_ok {a b c d u n q : Nat} (hu : a + u ≤ 50) (hc : c ≤ a) (hd : d ≤ c) (hnq : n ≤ 1000 ∧ q ≤ 1000) {H : Heap} {i j x : Nat} (hw : Wy H i j x) :
    F Try.prog 85 ⟨[tv a b c d i j n q, I u]⟩ H (fun v H' => v = .bool (exc a u c d n q) ∧ GrowX x H H' ∧ Wy H' i j x) := by
  have hi := hw.1.1
  have hj := hw.2.1.1
  obtain ⟨es, hm, _⟩ := hw.2.2.2.2
  have hx := hm.1
  clear hm
  refine F.entryL rfl dg85 do85 de85 rfl (by kernel_rfl) ?_
  simp only[sets]
  refine V.re [(0, tv a b c d i j n q), (1, I u)] (N := 17) (by intro i; simp only[full_st, Full.mk]) (by simp only[Kn, gt_st, full_st, Full.mk, ↓reduceIte, qD, qE, decide_true, and_self]) ?_
  intro t hF hA
  simp only[Kn, and_true] at hA
  (repeat first|apply sA|apply sB|apply sC|apply sD|apply sE)
  refine V.line' (by simp +contextual (disch := first|omega|simp only[nx];omega) only[D4,qF,qG,qA,qB,qC,D5,hF,hA,↓reduceIte,qD,qE]; with_reducible rfl) ?_
  refine V.heap (fun X => Grow H X ∧ Bx X H.next [I a, I b, I c, I d, cw i j, I n, I q] 108) ⟨?_, ?_⟩ ?_
  · (repeat first | assumption | exact Grow.refl _ | refine Grow.alloc ?_ _ | refine Grow.set ?_ (by first|omega|simp only[nx];omega) _)
  · (repeat first | assumption | exact Bx.new _ _ _ | exact Bx.newAt (by first|omega|simp only[nx];omega) | refine Bx.put (by first|omega|simp only[nx];omega) _ _ | refine Bx.alloc ?_ _ | refine Bx.set ?_ (by first|omega|simp only[nx];omega) _)
  rintro H1 ⟨g1, b1⟩
  have w1 := hw.grow g1
  have nb := b1.1
  (repeat first|apply sA|apply sB|apply sC|apply sD|apply sE)
  refine V.run ?_
  refine VI.steps' 3 (by simp +contextual (disch := first|omega|simp only[nx];omega) only[D4,qF,qG,qA,qB,qC,D5,hF,hA,↓reduceIte,qD,qE, b1.2]; with_reducible rfl) ?_
  simp only[ds]
  refine VI.callR (by simp only[D6,D5,hF,hA,↓reduceIte,qD,qE]; try rfl) (f61_ok (b := b) (d := d) (u := u) hu hc w1) (by simp only[D6,D5,hF,hA,↓reduceIte,qD,qE]; try rfl) (fun v2 H2 ⟨p, q2, hp2, g2, w2, s2⟩ => ?_)
  subst q2
  have b2 := b1.growX g2 (by omega)
  have n2 := g2.1
  refine VI.line' (by simp +contextual (disch := first|omega|simp only[nx];omega) only[D4,qF,qG,qA,qB,qC,D5,hF,hA,↓reduceIte,qD,qE]; with_reducible rfl) ?_
  refine V.heap (fun X => Grow H2 X ∧ Bx X H2.next [PT p] 101) ⟨?_, ?_⟩ ?_
  · (repeat first | assumption | exact Grow.refl _ | refine Grow.alloc ?_ _ | refine Grow.set ?_ (by first|omega|simp only[nx];omega) _)
  · (repeat first | assumption | exact Bx.new _ _ _ | exact Bx.newAt (by first|omega|simp only[nx];omega) | refine Bx.put (by first|omega|simp only[nx];omega) _ _ | refine Bx.alloc ?_ _ | refine Bx.set ?_ (by first|omega|simp only[nx];omega) _)
  rintro H3 ⟨g3, k3⟩
  have w3 := w2.grow g3
  have b3 := b2.grow g3
  have s3 := s2.grow g3
  (repeat first|apply sA|apply sB|apply sC|apply sD|apply sE)
  refine V.line' (by simp +contextual (disch := first|omega|simp only[nx];omega) only[D4,qF,qG,qA,qB,qC,D5,hF,hA,↓reduceIte,qD,qE]; with_reducible rfl) ?_
  (repeat first|apply sA|apply sB|apply sC|apply sD|apply sE)
  refine V.run ?_
  refine VI.callA rfl (f59_ok _) (by simp only[D6,D5,hF,hA,↓reduceIte,qD,qE]; try rfl) (fun H4 g4 => ?_)
  refine VI.callA rfl (f58_ok _) (by simp only[D6,D5,hF,hA,↓reduceIte,qD,qE]; try rfl) (fun H5 g5 => ?_)
  have g45 := g4.trans g5
  refine VI.steps' 2 (by simp +contextual (disch := first|omega|simp only[nx];omega) only[D4,qF,qG,qA,qB,qC,D5,hF,hA,↓reduceIte,qD,qE]; with_reducible rfl) ?_
  simp only[ds]
  have gl : Grow H3 (H5.alloc (.cells ⟨[.func (.func 82) ⟨[]⟩ ⟨[]⟩, .func (.func 81) ⟨[]⟩ ⟨[]⟩]⟩ 98 true)) := g45.alloc _
  have q1 := psum_le (a := a) (u := u) (c := c) (f := 0) (n := d + 1) (by omega)
  have q2 := psum_le (a := a) (u := u) (c := c) (f := d) (n := c + 1 - d) (by omega)
  have hp0 : ∀ k (h : k < 2) H', Grow (H5.alloc (.cells ⟨[.func (.func 82) ⟨[]⟩ ⟨[]⟩, .func (.func 81) ⟨[]⟩ ⟨[]⟩]⟩ 98 true)) H' → Gives Try.prog 97 [.agg ⟨[([.func (.func 82) ⟨[]⟩ ⟨[]⟩, .func (.func 81) ⟨[]⟩ ⟨[]⟩] : List Value)[k]]⟩, PT H2.next, PT H.next] H' (.bool ([below (psum a u c 0 (d + 1)) (ch (a + u) c) n q, below (psum a u c d (c + 1 - d)) (ch (a + u) c) n q][k])) := by
    intro k hk H' g
    have gg := gl.trans g
    have s9 := s3.grow gg
    match k, hk with
    | 0, _ => exact f97_ok (by omega) hc hnq s9 q1 (fun H'' g2 => f82_ok (by omega) (by omega) hd (s9.grow g2)) (k3.grow gg) (b3.grow gg)
    | 1, _ => exact f97_ok (by omega) hc hnq s9 q2 (fun H'' g2 => f81_ok (by omega) (by omega) hd (s9.grow g2)) (k3.grow gg) (b3.grow gg)
  refine VI.callA rfl (f98_ok (fs := [.func (.func 82) ⟨[]⟩ ⟨[]⟩, .func (.func 81) ⟨[]⟩ ⟨[]⟩]) (bs := [below (psum a u c 0 (d + 1)) (ch (a + u) c) n q, below (psum a u c d (c + 1 - d)) (ch (a + u) c) n q]) (first := []) (cap := [PT H2.next, PT H.next]) (Sl.lit H5 _ 98 rfl) (by simp) rfl hp0) (by simp only[D6,D5,hF,hA,↓reduceIte,qD,qE]; try rfl) (fun H6 g6 => ?_)
  have g36 := gl.trans g6
  refine VI.line' (by simp +contextual (disch := first|omega|simp only[nx];omega) only[D4,qF,qG,qA,qB,qC,D5,hF,hA,↓reduceIte,qD,qE]; with_reducible rfl) ?_
  (repeat first|apply sA|apply sB|apply sC|apply sD|apply sE)
  refine V.ret (V.rets rfl (Lv.retF (by simp +contextual (disch := first|omega|simp only[nx];omega) only[D1, cells_alloc_at, cells_alloc_ne, cells_set_at, cells_set_ne, yres, yres1, yresL, qA, qB, qC, D5,hF,hA,↓reduceIte,qD,qE]; rfl) ?_))
  refine ⟨?_, ((g1.x x).trans g2).trans ((g3.trans g36).x x), w3.grow g36⟩
  congr 1
  unfold exc
  simp
end Go.Xe.TMX
/- Rules of reasoning over the executable reading of the model's code (part Z19): slices of one's own in loops over functions. Conditions: none; for every program. -/
namespace Go.Xe
open Go
def cutH (X : Heap) (n : Nat) : Heap := { X with next := n }
theorem cutH_grow {X : Heap} {n : Nat} (h : n ≤ X.next) : Grow (cutH X n) X := ⟨h, fun _ _ => rfl⟩
theorem Ow.base {A B X : Heap} {e : TypeId} {v : Value} {l : List Value} (h : Ow A X e v l) (hn : B.next ≤ A.next) : Ow B X e v l := by
  rcases h with h | ⟨i, h1, h2, h3, h4⟩
  · exact .inl h
  · exact .inr ⟨i, Nat.le_trans hn h1, h2, h3, h4⟩
theorem Ow.growS {A B X Y : Heap} {U : Nat → Prop} {e : TypeId} {v : Value} {l : List Value} (h : Ow A X e v l) (g : GrowS U X Y) (hU : ∀ i, A.next ≤ i → ¬ U i) (hn : B.next ≤ A.next) : Ow B Y e v l := by
  rcases h with h | ⟨i, h1, h2, h3, h4⟩
  · exact .inl h
  · exact .inr ⟨i, Nat.le_trans hn h1, Nat.lt_of_lt_of_le h2 g.1, h3, by rw [g.cells h2 (hU i h1)]; exact h4⟩
theorem Ow.slice {A X : Heap} {e : TypeId} {v : Value} {l : List Value} (h : Ow A X e v l) : ∃ p n c, v = .slice p n c := by
  rcases h with ⟨rfl, _⟩ | ⟨i, _, _, rfl, _⟩ <;> exact ⟨_, _, _, rfl⟩
theorem Grow.toS {A B : Heap} (h : Grow A B) {X : Heap} {n : Nat} (e : A = cutH X n) {U : Nat → Prop} (hU : ∀ i, n ≤ i → U i) (hX : X.next ≤ B.next) : GrowS U X B := by
  subst e
  exact ⟨hX, fun i _ hu => h.2 i (by show i < n; exact Nat.lt_of_not_le (fun c => hu (hU i c)))⟩
end Go.Xe
/- What the functions of the layer miss come to: lists of numbers. Conditions: none. -/
-- MOD TM
namespace Go.Xe.TMX
open Go Go.Xe Go.Proofs Go.Xe.Mth
open Nat renaming reduceLeDiff → qA, reduceSub → qB, reduceAdd → qC, reduceEqDiff → qD, reduceLT → qE
open Int renaming reduceNegSucc → qF, reduceEq → qG
open Go.Xe.V renaming seq → sA, block → sB, scope → sC, skip → sD, close → sE
open Go.Xe renaming pth → P
set_option maxRecDepth 100000
set_option maxHeartbeats 3200000
set_option linter.unusedSimpArgs false
noncomputable def d88 : FCode := (.seq (.run (.go (.box 45 (.tmp (P 0))) (P 2)::
.go (.move (.con (.slice none 0 0))) (P 4)::
[])) (.seq (.seq (.run (.go (.move (.tmp (P 1))) (P 6)::
[])) (.block 0 (.rangeFunc (.tmp (P 6)) [(P 7)] (rfA Try.f88 0) (rfB Try.f88 0) (.run (.go (.move (.tmp (P 7))) (P 5)::
[])) (.block 1 (.run (.go (.load1 (.tmp (P 2))) (P 8)::
.go (.move (.tmp (P 5))) (P 9)::
.go (.buildSlice 3 1 [(.int .i64 (.ofNat 0))] [(0,1,(.tmp (P 9)))]) (P 10)::
.go (.append 3 1 8 (.tmp (P 8)) (.tmp (P 10))) (P 11)::
.un (.store 1 (.tmp (P 2)) (.tmp (P 11)))::
[])))))) (.seq (.run (.go (.load1 (.tmp (P 2))) (P 12)::
.go (.move (.tmp (P 12))) (P 4)::
[])) .ret)))
theorem de88 : @compF Try.prog (Gl.none Try.prog) Try.f88 2 = .mk d88 (mkTT 13) [(P 0),(P 1)] [.tmp (P 4)] := by kernel_rfl
theorem dg88 : Try.prog.funcs[88]? = some Try.f88 := Try.func88
theorem do88 : okF Try.prog Try.f88 = true := by kernel_rfl
noncomputable def d74 : FCode := (.seq (.run (.go (.move (.con (.slice none 0 0))) (P 2)::
[])) (.seq (.run (.go (.move (.tmp (P 0))) (P 3)::
.go (.call (.con (.func (.func 88) ⟨[]⟩ ⟨[]⟩)) [(.con (.slice none 0 0)),(.tmp (P 3))]) (P 4)::
.go (.move (.tmp (P 4))) (P 2)::
[])) .ret))
theorem de74 : @compF Try.prog (Gl.none Try.prog) Try.f74 1 = .mk d74 (mkTT 5) [(P 0)] [.tmp (P 2)] := by kernel_rfl
theorem dg74 : Try.prog.funcs[74]? = some Try.f74 := Try.func74
theorem do74 : okF Try.prog Try.f74 = true := by kernel_rfl
def nums (a k : Nat) : List Int := (List.range k).map fun q => ((a + q : Nat) : Int)
theorem nums_s (a k : Nat) : (nums a k).map I ++ [I ((a + k : Nat) : Int)] = (nums a (k + 1)).map I := by
  unfold nums; rw [List.range_succ]; simp
theorem f88_ok {a n : Nat} {H0 H : Heap} {g : FuncId} {first cap : List Value} {D : Nat → Prop} (hI : Iter Try.prog g first cap D H0 (numL a n)) (han : n ≤ 1000) (hH : H0.next ≤ H.next) (hD : ∀ i, D i → i < H0.next ∧ H.get i = H0.get i) :
    F Try.prog 88 ⟨[.slice none 0 0, .func (.func g) ⟨first⟩ ⟨cap⟩]⟩ H (fun v H' => Grow H H' ∧ Ow H H' 3 v ((nums a n).map I)) := by
  refine F.entryL rfl dg88 do88 de88 rfl (by kernel_rfl) ?_
  simp only[sets]
  refine V.re [(0, .slice none 0 0), (1, .func (.func g) ⟨first⟩ ⟨cap⟩)] (N := 13) (by intro i; simp only[full_st, Full.mk]) (by simp only[Kn, gt_st, full_st, Full.mk, ↓reduceIte, qD, qE, decide_true, and_self]) ?_
  intro t hF hA
  simp only[Kn, and_true] at hA
  (repeat first|apply sA|apply sB|apply sC|apply sD|apply sE)
  refine V.line' (by simp +contextual (disch := first|omega|simp only[nx];omega) only[D4,qF,qG,qA,qB,qC,D5,hF,hA,↓reduceIte,qD,qE]; with_reducible rfl) ?_
  refine V.heap (fun X => Grow H X ∧ Bx X H.next [.slice none 0 0] 45) ⟨?_, ?_⟩ ?_
  · (repeat first | assumption | exact Grow.refl _ | refine Grow.alloc ?_ _ | refine Grow.set ?_ (by first|omega|simp only[nx];omega) _)
  · (repeat first | assumption | exact Bx.new _ _ _ | exact Bx.newAt (by first|omega|simp only[nx];omega) | refine Bx.put (by first|omega|simp only[nx];omega) _ _ | refine Bx.alloc ?_ _ | refine Bx.set ?_ (by first|omega|simp only[nx];omega) _)
  rintro H1 ⟨g1, b1⟩
  have n1 := b1.1
  (repeat first|apply sA|apply sB|apply sC|apply sD|apply sE)
  refine V.line' (by simp +contextual (disch := first|omega|simp only[nx];omega) only[D4,qF,qG,qA,qB,qC,D5,hF,hA,↓reduceIte,qD,qE]; with_reducible rfl) ?_
  (repeat first|apply sA|apply sB|apply sC|apply sD|apply sE)
  refine V.re [(2, PT H.next), (6, .func (.func g) ⟨first⟩ ⟨cap⟩)] (N := 13) (by intro;simp only[full_st,hF]) (by simp only[Kn, D5,hF,hA,↓reduceIte,qD,qE,and_self,and_true,true_and];try (repeat' constructor)) ?_
  clear hF hA
  intro t hF hA
  simp only[Kn, and_true] at hA
  refine V.rangeL hI (fun y => y = H.next ∨ H1.next + 1 < y) (fun k X => ∃ s, Bx X H.next [s] 45 ∧ Ow (cutH X (H1.next + 2)) X 3 s ((nums a k).map I)) (fun _ _ => False)
    (by simp only[D6,D5,hF,hA,↓reduceIte,qD,qE]; try rfl) rfl (Nat.le_trans hH (Nat.le_trans g1.1 (Nat.le_succ _))) ?_ ?_ ?_ (fun _ _ _ _ _ h => h.elim) ?_ ?_ ?_
  · intro y hy
    obtain ⟨h1, h2⟩ := hD y hy
    have q1 := g1.1
    refine ⟨h1, by omega, ?_⟩
    rw [Heap.get_alloc, if_neg (by omega), g1.2 y (by omega), h2]
  · intro l hl
    obtain ⟨q, _, rfl⟩ := List.mem_map.1 hl
    rfl
  · rintro k X X' r1 r2 ⟨s, h1, h2⟩ _ _ g
    simp only[Heap.next_alloc] at g
    exact ⟨s, h1.growS g (by omega), h2.growS g (fun i (hi : H1.next + 2 ≤ i) => by omega) (Nat.le_refl _)⟩
  · intro r
    have g : Grow H1 ((H1.alloc (.deferred true)).alloc (.loop r)) := ((Grow.refl H1).alloc _).alloc _
    exact ⟨_, b1.grow g, .inl ⟨rfl, rfl⟩⟩
  · rintro k hk r X ⟨s, h1, h2⟩ hg hlX hl hr
    rw [numL_len] at hk
    rw [numL_get]
    simp only[sets]
    simp only[Heap.next_alloc] at hlX hl
    refine V.line' (by simp +contextual (disch := first|omega|simp only[nx];omega) only[D4,qF,qG,qA,qB,qC,D5,hF,hA,↓reduceIte,qD,qE]; with_reducible rfl) ?_
    refine V.nil ⟨rfl, hl, .refl _, ?_⟩
    intro X2 _ hl2 g2
    simp only[Heap.next_alloc] at g2 hl2
    have h1 := h1.growS g2 (by omega)
    have h2 : Ow (cutH X2 (H1.next + 2)) X2 3 s ((nums a k).map I) := h2.growS g2 (fun i (hi : H1.next + 2 ≤ i) => by omega) (Nat.le_refl _)
    have hlt2 := Nat.lt_of_lt_of_le hlX g2.1
    have gc := cutH_grow (X := X2) (n := H1.next + 2) (by omega)
    obtain ⟨w, X3, a1, a2, a3, a4, a5, a6, a7, a8⟩ := h2.push (bytes := 8) (r := [I ((a + k : Nat) : Int)]) gc rfl (by simp) (by simp [nums]; omega) (by simp [nums]; omega)
    rw [nums_s] at a2
    have a1 : yappend 3 1 8 (X2.alloc (.cells ⟨[I ((a + k : Nat) : Int)]⟩ 3 true)) s (.slice (some ⟨X2.next, 0, none⟩) 1 1) = some (w, X3) := a1
    have hb3 : Bx X3 H.next [s] 45 := by
      refine ⟨Nat.lt_of_lt_of_le h1.1 (by omega), ?_⟩
      have := a3.cells (i := H.next) (show H.next < H1.next + 2 by omega)
      rw [this]; exact h1.2
    have hn3 := hb3.1
    obtain ⟨wp, wn, wc, rfl⟩ := a2.slice
    (repeat first|apply sA|apply sB|apply sC|apply sD|apply sE)
    refine V.line' (by simp +contextual (disch := first|omega|simp only[nx];omega) only[D4,qF,qG,qA,qB,qC,D5,hF,hA,↓reduceIte,qD,qE, h1.2, a1, hb3.2]; with_reducible rfl) ?_
    have gs3 : GrowS (fun y => y = H.next ∨ H1.next + 1 < y) X2 X3 := a3.toS rfl (fun i h => .inr (by omega)) (by omega)
    (repeat first|apply sA|apply sB|apply sC|apply sD|apply sE)
    refine V.nil ⟨?_, gs3.set (.inl (.inl rfl)) _, .inl ⟨rfl, _, ⟨hb3.1, cells_set _ _ _ _ _⟩, ?_⟩⟩
    · rw [Heap.get_set, if_neg (by simp only[Heap.next_alloc]; omega)]
      have := a3.2 (H1.next + 1) (show H1.next + 1 < H1.next + 2 by omega)
      simp only[Heap.next_alloc]
      rw [this]; exact hl2
    · exact a2.growS (U := (· = H.next)) (GrowS.setAt X3 H.next _) (fun i (hi : H1.next + 2 ≤ i) => by omega) (Nat.le_refl _)
  · rintro e X h hg hlX
    simp only[Heap.next_alloc] at hlX
    rcases h with ⟨rfl, s, h1, h2⟩ | ⟨_, h⟩
    · have hgd : X.get H1.next = some (.deferred true) := by
        rw [hg.2 _ (by simp only[Heap.next_alloc]; omega) (by simp only[Heap.next_alloc]; omega), Heap.get_alloc, if_pos rfl]
      rw [numL_len] at h2
      (repeat first|apply sA|apply sB|apply sC|apply sD|apply sE)
      refine V.line' (by simp +contextual (disch := first|omega|simp only[nx];omega) only[D4,qF,qG,qA,qB,qC,D5,hF,hA,↓reduceIte,qD,qE, h1.2]; with_reducible rfl) ?_
      (repeat first|apply sA|apply sB|apply sC|apply sD|apply sE)
      refine V.ret (V.rets rfl (Lv.retM hgd (by simp only[yres, yres1, D5,hF,hA,↓reduceIte,qD,qE]; rfl) ?_))
      have q1 := g1.1
      refine ⟨⟨by simp only[Heap.next_set]; omega, fun q hq => ?_⟩, ?_⟩
      · rw [Heap.get_set, if_neg (by omega), hg.2 q (by simp only[Heap.next_alloc]; omega) (by simp only[Heap.next_alloc]; omega), Heap.get_alloc, if_neg (by omega), g1.2 q hq]
      · exact h2.growS (U := (· = H1.next)) (GrowS.setAt X H1.next _) (fun i (hi : H1.next + 2 ≤ i) => by omega) (show H.next ≤ H1.next + 2 by omega)
    · exact h.elim
theorem f74_ok {a n : Nat} {H0 H : Heap} {g : FuncId} {first cap : List Value} {D : Nat → Prop} (hI : Iter Try.prog g first cap D H0 (numL a n)) (han : n ≤ 1000) (hH : H0.next ≤ H.next) (hD : ∀ i, D i → i < H0.next ∧ H.get i = H0.get i) :
    F Try.prog 74 ⟨[.func (.func g) ⟨first⟩ ⟨cap⟩]⟩ H (fun v H' => Grow H H' ∧ Ow H H' 3 v ((nums a n).map I)) := by
  refine F.entryL rfl dg74 do74 de74 rfl (by kernel_rfl) ?_
  simp only[sets]
  refine V.re [(0, .func (.func g) ⟨first⟩ ⟨cap⟩)] (N := 5) (by intro i; simp only[full_st, Full.mk]) (by simp only[Kn, gt_st, full_st, Full.mk, ↓reduceIte, qD, qE, decide_true, and_self]) ?_
  intro t hF hA
  simp only[Kn, and_true] at hA
  (repeat first|apply sA|apply sB|apply sC|apply sD|apply sE)
  refine V.line' (by simp +contextual (disch := first|omega|simp only[nx];omega) only[D4,qF,qG,qA,qB,qC,D5,hF,hA,↓reduceIte,qD,qE]; with_reducible rfl) ?_
  (repeat first|apply sA|apply sB|apply sC|apply sD|apply sE)
  refine V.run ?_
  refine VI.steps' 1 (by simp +contextual (disch := first|omega|simp only[nx];omega) only[D4,qF,qG,qA,qB,qC,D5,hF,hA,↓reduceIte,qD,qE]; with_reducible rfl) ?_
  simp only[ds]
  refine VI.callR (by simp only[D6,D5,hF,hA,↓reduceIte,qD,qE]; try rfl) (f88_ok hI han hH hD) (by simp only[D6,D5,hF,hA,↓reduceIte,qD,qE]; try rfl) (fun v2 H2 ⟨g2, o2⟩ => ?_)
  refine VI.line' (by simp +contextual (disch := first|omega|simp only[nx];omega) only[D4,qF,qG,qA,qB,qC,D5,hF,hA,↓reduceIte,qD,qE]; with_reducible rfl) ?_
  (repeat first|apply sA|apply sB|apply sC|apply sD|apply sE)
  refine V.ret (V.rets rfl (Lv.retF (by simp +contextual (disch := first|omega|simp only[nx];omega) only[D1, cells_alloc_at, cells_alloc_ne, cells_set_at, cells_set_ne, yres, yres1, yresL, qA, qB, qC, D5,hF,hA,↓reduceIte,qD,qE]; rfl) ?_))
  exact ⟨g2, o2⟩
end Go.Xe.TMX
