/- What the functions of the layer seat come to: SeatQuotas. Conditions: none. -/
import Derived.Test.YtlfikodljmdekaaTVT
import Derived.Test.YtlfikodljmdekaaZl
import Derived.WideShapes
import Derived.ChangeSame
import Derived.Below
-- MOD TV
namespace Go.Xe.TVX
open Go Go.Xe Go.Proofs
open Nat renaming reduceLeDiff → qA, reduceSub → qB, reduceAdd → qC, reduceEqDiff → qD, reduceLT → qE
open Int renaming reduceNegSucc → qF, reduceEq → qG
open Go.Xe.V renaming seq → sA, block → sB, scope → sC, skip → sD, close → sE
open Go.Xe renaming pth → P
open Go.Xe.Sea
set_option maxRecDepth 100000
set_option maxHeartbeats 3200000
set_option linter.unusedSimpArgs false
noncomputable def d6 : FCode := (.seq (.run (.go (.box 23 (tm 0)) (P 2)::
.go (.move (.con (.bool false))) (P 4)::
[])) (.seq (.seq (.run (.go (.move (tm 1)) (P 11)::
.go (.len 0 (tm 11)) (P 12)::
.go (.bin .gtr 3 (tm 12) (.con (.int .i64 (.ofNat 11)))) (P 13)::
[])) (.cond (tm 13) (.seq (.run (.go (.call (.con (.func (.func 20) ⟨[]⟩ ⟨[]⟩)) []) (P 14)::
.go (.move (tm 14)) (P 4)::
[])) .ret) .skip)) (.seq (.run (.go (.loadN 3 (tm 2)) (P 16)::
.go (.call (.con (.func (.func 22) ⟨[]⟩ ⟨[]⟩)) [tm 16]) (P 17)::
.go (.move (tm 1)) (P 18)::
.go (.call (.con (.func (.func 24) ⟨[]⟩ ⟨[]⟩)) [tm 18]) (P 19)::
.go (.call (.con (.func (.func 35) ⟨[]⟩ ⟨[]⟩)) [(tm 17),(tm 19)]) (P 20)::
.go (.move (tm 20)) (P 15)::
.go (.extract (tm 15) 0) (P 21)::
.go (.extract (tm 15) 1) (P 22)::
.go (.move (tm 21)) (P 5)::
.go (.move (tm 22)) (P 6)::
[])) (.seq (.seq (.run (.go (.loadN 3 (tm 2)) (P 23)::
.go (.move (tm 1)) (P 24)::
.go (.call (.con (.func (.func 25) ⟨[]⟩ ⟨[]⟩)) [(tm 23),(tm 24)]) (P 25)::
.go (.move (tm 25)) (P 7)::
[])) (.seq (.run (.go (.move (tm 7)) (P 26)::
.go (.bin .neq 26 (tm 26) (.con (.int .i64 (.ofNat 0)))) (P 27)::
[])) (.cond (tm 27) (.seq (.run (.go (.move (tm 6)) (P 28)::
.go (.move (tm 7)) (P 29)::
.go (.bin .eql 26 (tm 28) (tm 29)) (P 30)::
.go (.move (tm 30)) (P 31)::
.gd (P 31) true (.move (tm 5)) (P 32)::
.gd (P 31) true (.len 0 (tm 32)) (P 33)::
.gd (P 31) true (.bin .eql 3 (tm 33) (.con (.int .i64 (.ofNat 0)))) (P 34)::
.go (.pick (tm 31) (tm 34) (.con (.bool false))) (P 35)::
.go (.move (tm 35)) (P 36)::
.gd (P 36) true (.call (.con (.func (.func 20) ⟨[]⟩ ⟨[]⟩)) []) (P 37)::
.go (.pick (tm 36) (tm 37) (.con (.bool false))) (P 38)::
.go (.move (tm 38)) (P 4)::
[])) .ret) .skip))) (.seq (.seq (.run (.go (.move (tm 6)) (P 39)::
.go (.bin .neq 26 (tm 39) (.con (.int .i64 (.ofNat 0)))) (P 40)::
.go (.move (tm 40)) (P 41)::
.gd (P 41) false (.move (tm 5)) (P 42)::
.gd (P 41) false (.len 0 (tm 42)) (P 43)::
.gd (P 41) false (.move (tm 1)) (P 44)::
.gd (P 41) false (.len 0 (tm 44)) (P 45)::
.gd (P 41) false (.bin .neq 3 (tm 43) (tm 45)) (P 46)::
.go (.pick (tm 41) (.con (.bool true)) (tm 46)) (P 47)::
[])) (.cond (tm 47) (.seq (.run (.go (.move (.con (.bool false))) (P 4)::
[])) .ret) .skip)) (.seq (.run (.go (.loadN 3 (tm 2)) (P 48)::
.go (.move (tm 1)) (P 49)::
.go (.call (.con (.func (.func 36) ⟨[]⟩ ⟨[]⟩)) [(tm 48),(tm 49)]) (P 50)::
.go (.move (tm 50)) (P 8)::
[])) (.seq (.seq (.run (.go (.move (.con (.int .i64 (.ofNat 0)))) (P 9)::
[])) (.block 0 (.loop (.seq (.seq (.run (.go (.move (tm 9)) (P 51)::
.go (.move (tm 5)) (P 52)::
.go (.len 0 (tm 52)) (P 53)::
.go (.bin .lss 3 (tm 51) (tm 53)) (P 54)::
[])) (.cond (tm 54) .skip (.exit 0))) (.seq (.block 1 (.seq (.run (.go (.build [(.int .i64 (.ofNat 0)),(.int .i64 (.ofNat 0))] []) (P 57)::
.go (.alloc 49 [(.int .i64 (.ofNat 0)),(.int .i64 (.ofNat 0))]) (P 10)::
.un (.store 2 (tm 10) (tm 57))::
[])) (.seq (.seq (.draw 6 (.go (.loadN 3 (tm 2)) (P 58)::
.go (.move (tm 1)) (P 59)::
.go (.move (tm 9)) (P 60)::
.go (.indexAddr none 1 (tm 59) (tm 60)) (P 61)::
.go (.load1 (tm 61)) (P 62)::
.go (.call (.con (.func (.func 37) ⟨[]⟩ ⟨[]⟩)) [(tm 58),(tm 62)]) (P 63)::
[]) [.ok,.ok,.ok,.ok,.ok,.ok]) (.cond (tm 63) (.seq (.block 2 (.loop (.seq (.seq (.draw 13 (.go (.fieldAddr 0 (tm 10)) (P 64)::
.go (.load1 (tm 64)) (P 65)::
.go (.bin .add 3 (tm 65) (.con (.int .i64 (.ofNat 1)))) (P 66)::
.go (.move (tm 8)) (P 67)::
.go (.bin .mul 3 (tm 66) (tm 67)) (P 68)::
.go (.move (tm 1)) (P 69)::
.go (.move (tm 9)) (P 70)::
.go (.indexAddr none 1 (tm 69) (tm 70)) (P 71)::
.go (.load1 (tm 71)) (P 72)::
.go (.fieldAddr 1 (tm 2)) (P 73)::
.go (.load1 (tm 73)) (P 74)::
.go (.bin .mul 3 (tm 72) (tm 74)) (P 75)::
.go (.bin .leq 3 (tm 68) (tm 75)) (P 76)::
[]) [.ok,.ok,.ok,.ok,.ok,.ok,.ok,.ok,.ok,.ok,.ok,.ok,.ok]) (.cond (tm 76) .skip (.exit 2))) (.block 3 (.run (.go (.fieldAddr 0 (tm 10)) (P 77)::
.go (.load1 (tm 77)) (P 78)::
.go (.bin .add 3 (tm 78) (.con (.int .i64 (.ofNat 1)))) (P 79)::
.go (.fieldAddr 0 (tm 10)) (P 80)::
.un (.store 1 (tm 80) (tm 79))::
[])))))) (.block 4 (.loop (.seq (.seq (.draw 12 (.go (.fieldAddr 1 (tm 10)) (P 81)::
.go (.load1 (tm 81)) (P 82)::
.go (.move (tm 8)) (P 83)::
.go (.bin .mul 3 (tm 82) (tm 83)) (P 84)::
.go (.move (tm 1)) (P 85)::
.go (.move (tm 9)) (P 86)::
.go (.indexAddr none 1 (tm 85) (tm 86)) (P 87)::
.go (.load1 (tm 87)) (P 88)::
.go (.fieldAddr 1 (tm 2)) (P 89)::
.go (.load1 (tm 89)) (P 90)::
.go (.bin .mul 3 (tm 88) (tm 90)) (P 91)::
.go (.bin .lss 3 (tm 84) (tm 91)) (P 92)::
[]) [.ok,.ok,.ok,.ok,.ok,.ok,.ok,.ok,.ok,.ok,.ok,.ok]) (.cond (tm 92) .skip (.exit 4))) (.block 5 (.run (.go (.fieldAddr 1 (tm 10)) (P 93)::
.go (.load1 (tm 93)) (P 94)::
.go (.bin .add 3 (tm 94) (.con (.int .i64 (.ofNat 1)))) (P 95)::
.go (.fieldAddr 1 (tm 10)) (P 96)::
.un (.store 1 (tm 96) (tm 95))::
[]))))))) .skip)) (.seq (.draw 6 (.go (.move (tm 5)) (P 97)::
.go (.move (tm 9)) (P 98)::
.go (.indexAddr none 2 (tm 97) (tm 98)) (P 99)::
.go (.loadN 2 (tm 99)) (P 100)::
.go (.loadN 2 (tm 10)) (P 101)::
.go (.bin .neq 49 (tm 100) (tm 101)) (P 102)::
[]) [.ok,.ok,.ok,.ok,.ok,.ok]) (.cond (tm 102) (.seq (.run (.go (.move (.con (.bool false))) (P 4)::
[])) .ret) .skip))))) (.run (.go (.move (tm 9)) (P 55)::
.go (.bin .add 3 (tm 55) (.con (.int .i64 (.ofNat 1)))) (P 56)::
.go (.move (tm 56)) (P 9)::
[]))))))) (.seq (.run (.go (.call (.con (.func (.func 20) ⟨[]⟩ ⟨[]⟩)) []) (P 103)::
.go (.move (tm 103)) (P 4)::
[])) .ret))))))))
theorem de6 : @compF Try.prog (Gl.none Try.prog) Try.f6 2 = .mk d6 (mkTT 104) [(P 0),(P 1)] [.tmp (P 4)] := by kernel_rfl
theorem dg6 : Try.prog.funcs[6]? = some Try.f6 := Try.func6
theorem do6 : okF Try.prog Try.f6 = true := by kernel_rfl
theorem key49 {a b : Int} (ha : (Lit.int .i64 a).wf = true) (hb : (Lit.int .i64 b).wf = true) : (keyOf Try.prog 49 (.agg ⟨A2 a b⟩)).isSome = true := by
  have c3 : Try.prog.cellsOf 3 = 1 := by kernel_rfl
  have c48 : Try.prog.cellsOf 49 = 2 := by kernel_rfl
  have h5 : (Program.keyType Try.prog 49 && (Value.agg ⟨[I a, I b]⟩).formed Try.prog 49) = true := by kernel_rfl
  obtain ⟨n, hn⟩ : ∃ n, Try.prog.types.size + 1 = n + 2 := ⟨Try.prog.types.size - 1, by have : 2 ≤ Try.prog.types.size := Nat.le_of_ble_eq_true (by kernel_rfl); omega⟩
  unfold keyOf
  simp only[Try.underlying49]
  rw [if_pos h5, hn]
  unfold Program.keyLits
  simp only[Try.underlying49, c48]
  have e : (Value.agg ⟨[I a, I b]⟩).cells.toList = [I a, I b] := rfl
  rw [e, if_pos ⟨rfl, by simp⟩]
  simp [c3, kl_int ha, kl_int hb]
theorem neq49 {a b : Int} (ha : 0 ≤ a ∧ a ≤ 1000000) (hb : 0 ≤ b ∧ b ≤ 1000000) : xbinOp Try.prog .neq 49 (.agg ⟨A2 a b⟩) (.agg ⟨A2 a b⟩) = some (.bool false) := by
  have w1 := wf_k (x := a) (by omega) (by omega)
  have w2 := wf_k (x := b) (by omega) (by omega)
  have h1 : xbin Try.prog .neq 49 (.agg ⟨A2 a b⟩) (.agg ⟨A2 a b⟩) = none := rfl
  have h2 : xbinStr .neq (.agg ⟨A2 a b⟩) (.agg ⟨A2 a b⟩) = none := rfl
  have h3 : xeqNil Try.prog true 49 (.agg ⟨A2 a b⟩) (.agg ⟨A2 a b⟩) = none := by
    unfold xeqNil
    simp only[Try.underlying49]
  have h4 : keyedB Try.prog 49 = true := by kernel_rfl
  have h5 : Try.prog.eqGuardType Try.prog.depth 49 = false := by kernel_rfl
  unfold xbinOp
  rw [h1, h2]
  simp only[h3]
  unfold xeqAgg
  simp only[Try.underlying49]
  rw [if_pos ⟨h4, rfl, rfl, key49 w1 w2, key49 w1 w2, h5⟩]
  simp [valEq, cellsEq, cellEq]
theorem div_is {N t q : Int} (ht : 0 < t) (h1 : q * t ≤ N) (h2 : N < (q + 1) * t) : N / t = q ∧ N % t = N - q * t := by
  have e : N / t = q := by
    apply Int.le_antisymm
    · exact Int.le_of_lt_add_one ((Int.ediv_lt_iff_lt_mul ht).2 h2)
    · exact (Int.le_ediv_iff_mul_le ht).2 h1
  refine ⟨e, ?_⟩
  have := Int.mul_ediv_add_emod N t
  rw [e, Int.mul_comm] at this
  omega
theorem f6_all {H : Heap} {m S L : Int} {x : Value} {l : List Int} (hx : Sl H x (l.map I)) : F Try.prog 6 ⟨[.agg ⟨A3 m S L⟩, x]⟩ H (fun w _ => w = .bool true) := by
  have h : LS H x l := ⟨hx⟩
  have hl := h.len
  obtain ⟨px, nx', cx, rfl⟩ := h.s.isS
  refine F.entryL rfl dg6 do6 de6 rfl (by kernel_rfl) ?_
  simp only[sets]
  refine V.re [(0, .agg ⟨A3 m S L⟩), (1, .slice px nx' cx)] (N := 104) zE zY ?_
  intro t hF hA
  simp only[Kn, and_true] at hA
  refine zS ?_
  refine V.l0 ?_
  refine V.heap (fun X => Grow H X ∧ Bx X H.next (A3 m S L) 23) ⟨?_, ?_⟩ ?_
  · exact zW
  · exact zB
  rintro H1 ⟨g1, b1⟩
  refine zS ?_
  have zf:=@hl
  refine V.lz ?_
  refine zS ?_
  refine V.condP zP (fun h11 => ?_) (fun h11 => ?_)
  · refine zS ?_
    refine V.run ?_
    refine VI.callA rfl (f20_ok _) zA (fun H3 g3 => ?_)
    refine VI.l0 ?_
    refine zS ?_
    refine V.ret (V.rets rfl (Lv.retF (by simp +contextual (disch := first|omega|simp only[nx];omega) only[D1, cells_alloc_at, cells_alloc_ne, cells_set_at, cells_set_ne, yres, yres1, yresL, qA, qB, qC, D5,hF,hA,↓reduceIte,qD,qE]; rfl) ?_))
    rfl
  refine zS ?_
  refine V.run ?_
  have zf:=b1.2
  refine VI.sz 1 ?_
  simp only[ds]
  refine VI.callA rfl (f22_ok m S L _) zA (fun H2 g2 => ?_)
  refine VI.s0 1 ?_
  simp only[ds]
  refine VI.callR zA (f24_ok (h.grow (g1.trans g2)) (by omega)) zA (fun w3 H3 ⟨g3, o3⟩ => ?_)
  refine VI.callR zA (f35_ok (m := m) (S := S) (L := L) (ow_ls o3)) zA (fun w4 H4 ⟨g4, y, e, hw4, hq⟩ => ?_)
  subst hw4
  have g14 := (g2.trans g3).trans g4
  have b4 := b1.grow g14
  have gH4 := g1.trans g14
  refine VI.l0 ?_
  refine zS ?_
  refine V.run ?_
  have zf:=b4.2
  refine VI.sz 2 ?_
  simp only[ds]
  refine VI.callA rfl (f25_ok (m := m) (S := S) (L := L) (h.grow gH4)) zA (fun H5 g5 => ?_)
  have b5 := b4.grow g5
  have gH5 := gH4.trans g5
  refine VI.l0 ?_
  refine zS ?_
  refine V.l0 ?_
  refine zS ?_
  rcases hq with ⟨hne, rfl, rfl⟩ | ⟨h0, rfl, oq⟩
  · refine V.condP zP (fun hc0 => ?_) (fun hc0 => ?_)
    · have hself : (flt m S L l = flt m S L l) = True := eq_self _
      have hl0 : ∀ X, ylen 0 X (.slice none 0 0) = some (I 0) := fun _ => rfl
      have hz : ((0 : Nat) : Int) = 0 := rfl
      refine zS ?_
      refine V.run ?_
      have zf:=And.intro @hl0<|And.intro @hz<|@hself
      refine VI.sz 9 ?_
      simp only[ds]
      refine VI.callAT zG rfl (f20_ok _) zA (fun Hb gb => ?_)
      refine VI.l0 ?_
      refine zS ?_
      refine V.ret (V.rets rfl (Lv.retF (by simp +contextual (disch := first|omega|simp only[nx];omega) only[D1, cells_alloc_at, cells_alloc_ne, cells_set_at, cells_set_ne, yres, yres1, yresL, qA, qB, qC, D5,hF,hA,↓reduceIte,qD,qE]; rfl) ?_))
      rfl
    · exact absurd hne hc0
  refine V.condP zP (fun hc0 => ?_) (fun hc0 => ?_)
  · exact absurd h0 hc0
  obtain ⟨hr, hl8, hb⟩ := flt_0.1 h0
  have hvk := vl_ok (L := L) hb
  have hS : 0 ≤ S ∧ S ≤ 61 := ⟨hr.2.2.1, by have := hr.2.2.2.1; omega⟩
  have hS60 := hr.2.2.2.1
  have sq := oq.sw (qro_w _ _ _)
  have ql := oq.len
  rw [qro_len] at ql
  refine zS ?_
  have zf:=And.intro @ql<|@hl
  refine V.lz ?_
  refine zS ?_
  refine V.condP zP (fun hc1 => ?_) (fun hc1 => ?_)
  · exact absurd hc1 (by simp)
  refine zS ?_
  refine V.run ?_
  have zf:=b5.2
  refine VI.sz 2 ?_
  simp only[ds]
  refine VI.callA rfl (f36_ok (m := m) (S := S) (L := L) (h.grow gH5) hl8 hb) zA (fun H6 g6 => ?_)
  have b6 := b5.grow g6
  have gH6 := gH5.trans g6
  obtain ⟨tot, htot⟩ : ∃ tot, tot = sm (vl L l) 8 := ⟨_, rfl⟩
  have htb := sm_bd hvk
  rw [← htot] at htb ⊢
  refine VI.l0 ?_
  refine zS ?_
  refine V.l0 ?_
  refine zS ?_
  refine V.loop (fun z t mm X => ∃ (p : Nat), p ≤ l.length ∧ z = l.length - p ∧ mm = [] ∧ Grow H6 X ∧ Full 104 t ∧ Kn [(1, .slice px nx' cx), (2, PT H.next), (5, y), (8, I tot), (9, I p)] t) l.length ?_ ?_
  · exact ⟨0, by omega, by omega, rfl, .refl _, zF, zK⟩
  clear hF hA
  rintro z t mm X ⟨p, hp, rfl, rfl, hg, hF, hA⟩
  simp only[Kn, and_true] at hA
  have bx := b6.grow hg
  refine zS ?_
  have zf:=@ql
  refine V.lz ?_
  refine zS ?_
  refine V.condP zP (fun hlt => ?_) (fun hlt => ?_)
  · have hlt' : p < l.length := by omega
    obtain ⟨lp, lp1, lp2⟩ := h.at hlt'
    have hbp := hb _ (List.getElem_mem hlt')
    have ev : vl L l p = if adm L l[p] then l[p] else 0 := by unfold vl vts; rw [gl0_at hlt']
    refine zS ?_
    refine V.l0 ?_
    refine V.heap (fun Y => Grow H6 Y ∧ Bx Y X.next (A2 0 0) 49) ⟨?_, ?_⟩ ?_
    · have := hg.1
      exact zW
    · exact zB
    rintro X1 ⟨g1', x1⟩
    have nX : H.next < X.next := bx.1
    have bx1 := b6.grow g1'
    have lp3 := lp2 _ (gH6.trans g1')
    refine zS ?_
    refine V.draw ?_
    have zf:=And.intro bx1.2<|And.intro @lp1<|@lp3
    refine VD.nz 5 ?_
    simp only[ds]
    refine VD.callA zA (f37_ok m S L l[p] X1) zA (fun X2 g2' => ?_)
    have x2 := x1.grow g2'
    have gX2 := g1'.trans g2'
    have m2 := g2'.1
    refine VD.d0 ?_ ?_ rfl ?_
    · exact zM
    · simp only[dcAll, dcOk, wantD, List.cons_append, List.nil_append, true_and, and_true]
    have n6X : H6.next ≤ X.next := hg.1
    -- what the range is in the end
    refine V.join (fun t mm Y => mm = [] ∧ Grow H6 Y ∧ Bx Y X.next (A2 (shr S (vl L l) p).1 (shi S (vl L l) p)) 49 ∧ Full 104 t ∧ Kn [(1, .slice px nx' cx), (2, PT H.next), (5, y), (8, I tot), (9, I p), (10, PT X.next)] t) ?_ ?_
    · refine zS ?_
      refine V.condP zP (fun ha => ?_) (fun ha => ?_)
      · have ev1 : vl L l p = l[p] := by rw [ev, if_pos ha]
        have hvp : 0 < l[p] := by have := ha.1; omega
        have ht0 : 0 < tot := by
          rw [htot]; exact sm_pos hvk (show p < 8 by omega) (by rw [ev1]; exact hvp)
        obtain ⟨N, hN⟩ : ∃ N, N = l[p] * S := ⟨_, rfl⟩
        have hNb := vS_bd hbp hS
        rw [← hN] at hNb
        have esh : shr S (vl L l) p = (N / tot, N % tot) := by
          unfold shr
          rw [ev1, if_neg (by omega), ← hN, ← htot]
        refine zS ?_
        refine V.loop (fun z t mm Y => ∃ (lo : Int), 0 ≤ lo ∧ lo ≤ 700000 ∧ lo * tot ≤ N ∧ z = (N - lo * tot).toNat ∧ mm = [] ∧ Grow H6 Y ∧ Bx Y X.next (A2 lo 0) 49 ∧ Full 104 t ∧ Kn [(1, .slice px nx' cx), (2, PT H.next), (5, y), (8, I tot), (9, I p), (10, PT X.next)] t) N.toNat ?_ ?_
        · exact ⟨0, by omega, by omega, by omega, by congr 1; omega, rfl, gX2, x2, zF, zK⟩
        clear hF hA
        rintro z t mm Y ⟨lo, lo0, lo1, lo2, rfl, rfl, gY, xY, hF, hA⟩
        simp only[Kn, and_true] at hA
        have bY := b6.grow gY
        have lp4 := lp2 _ (gH6.trans gY)
        have e1 : (lo + 1) * tot = lo * tot + tot := by rw [Int.add_mul]; omega
        have e0 : 0 ≤ lo * tot := Int.mul_nonneg lo0 htb.1
        have hNN : l[p] * S = N := hN.symm
        have hb1 : 0 ≤ l[p] * S ∧ l[p] * S ≤ 610000 := by rw [hNN]; exact hNb
        have hb2 : 0 ≤ (lo + 1) * tot ∧ (lo + 1) * tot ≤ 1000000 := by rw [e1]; omega
        refine zS ?_
        have zf:=And.intro xY.2<|And.intro bY.2<|And.intro @lp1<|@lp4
        refine V.dz ?_ ?_ rfl ?_
        · exact zM
        · simp only[dcAll, dcOk, wantD, List.cons_append, List.nil_append, true_and, and_true]
        refine zS ?_
        refine V.condP zP (fun hle => ?_) (fun hle => ?_)
        · rw [hNN, e1] at hle
          have hlo : lo + 1 ≤ 700000 := by
            have : lo * 1 ≤ lo * tot := Int.mul_le_mul_of_nonneg_left (by omega) lo0
            omega
          refine zS ?_
          have zf:=xY.2
          refine V.lz ?_
          refine zS ?_
          refine V.nil (Or.inl ⟨rfl, (N - (lo + 1) * tot).toNat, by omega, ?_⟩)
          exact ⟨lo + 1, by omega, hlo, by rw [e1]; exact hle, rfl, rfl, gY.set n6X _, Bx.put xY.1 _ _, zF, zK⟩
        · rw [hNN] at hle
          obtain ⟨d1, d2⟩ := div_is ht0 lo2 (by omega)
          refine V.exit ?_
          refine zX ?_
          refine V.nil (Or.inr ⟨by simp, ?_⟩)
          refine zX ?_
          refine zS ?_
          refine V.loop (fun z t mm Z => ∃ (hi : Int), 0 ≤ hi ∧ hi ≤ 700000 ∧ (hi = 0 ∨ (hi - 1) * tot < N) ∧ z = (N - hi * tot + tot).toNat ∧ mm = [] ∧ Grow H6 Z ∧ Bx Z X.next (A2 lo hi) 49 ∧ Full 104 t ∧ Kn [(1, .slice px nx' cx), (2, PT H.next), (5, y), (8, I tot), (9, I p), (10, PT X.next)] t) (N + tot).toNat ?_ ?_
          · exact ⟨0, by omega, by omega, .inl rfl, by congr 1; omega, rfl, gY, xY, zF, zK⟩
          clear hF hA
          rintro z t mm Z ⟨hi, hi0, hi1, hi2, rfl, rfl, gZ, xZ, hF, hA⟩
          simp only[Kn, and_true] at hA
          have bZ := b6.grow gZ
          have lp5 := lp2 _ (gH6.trans gZ)
          have f1 : (hi - 1) * tot = hi * tot - tot := by rw [Int.sub_mul]; omega
          have f2 : (hi + 1) * tot = hi * tot + tot := by rw [Int.add_mul]; omega
          have f0 : 0 ≤ hi * tot := Int.mul_nonneg hi0 htb.1
          have f3 : hi * tot ≤ 700000 := by
            rcases hi2 with rfl | hi2
            · omega
            · omega
          refine zS ?_
          have zf:=And.intro xZ.2<|And.intro bZ.2<|And.intro @lp1<|@lp5
          refine V.dz ?_ ?_ rfl ?_
          · exact zM
          · simp only[dcAll, dcOk, wantD, List.cons_append, List.nil_append, true_and, and_true]
          refine zS ?_
          refine V.condP zP (fun hlh => ?_) (fun hlh => ?_)
          · rw [hNN] at hlh
            have hhi : hi + 1 ≤ 700000 := by
              have : hi * 1 ≤ hi * tot := Int.mul_le_mul_of_nonneg_left (by omega) hi0
              omega
            refine zS ?_
            have zf:=xZ.2
            refine V.lz ?_
            refine zS ?_
            refine V.nil (Or.inl ⟨rfl, (N - (hi + 1) * tot + tot).toNat, by omega, ?_⟩)
            exact ⟨hi + 1, by omega, hhi, .inr (by have e : hi + 1 - 1 = hi := by omega
                                                   rw [e]; exact hlh), rfl, rfl, gZ.set n6X _, Bx.put xZ.1 _ _, zF, zK⟩
          · rw [hNN] at hlh
            refine V.exit ?_
            refine zX ?_
            refine V.nil (Or.inr ⟨by simp, ?_⟩)
            refine zX ?_
            refine zS ?_
            refine V.nil (Or.inl ⟨rfl, rfl, gZ, ?_, zF, zK⟩)
            have eh : shi S (vl L l) p = hi := by
              unfold shi
              rw [esh]
              simp only
              rw [d1, d2]
              have g1 : (lo + 1) * tot = lo * tot + tot := e1
              by_cases hz : N = lo * tot
              · rw [hz] at hlh hi2 ⊢
                have hc : hi = lo := by
                  apply Int.le_antisymm
                  · rcases hi2 with rfl | hi2
                    · exact lo0
                    · have := Int.lt_of_mul_lt_mul_right hi2 htb.1
                      omega
                  · exact Int.le_of_mul_le_mul_right (Int.not_lt.1 hlh) ht0
                rw [hc]
                split <;> omega
              · have hc : hi = lo + 1 := by
                  apply Int.le_antisymm
                  · rcases hi2 with rfl | hi2
                    · omega
                    · have h3 : (hi - 1) * tot < (lo + 1) * tot := by omega
                      have := Int.lt_of_mul_lt_mul_right h3 htb.1
                      omega
                  · have h3 : lo * tot < hi * tot := by omega
                    have := Int.lt_of_mul_lt_mul_right h3 htb.1
                    omega
                rw [hc]
                split <;> omega
            rw [eh, esh]
            simp only
            rw [d1]
            exact xZ
      · have ev0 : vl L l p = 0 := by rw [ev, if_neg ha]
        refine zS ?_
        refine V.nil (Or.inl ⟨rfl, rfl, gX2, ?_, zF, zK⟩)
        have esh : shr S (vl L l) p = (0, 0) := by unfold shr; rw [if_pos ev0]
        have eh : shi S (vl L l) p = 0 := by unfold shi; rw [esh]; rfl
        rw [eh, esh]
        exact x2
    clear hF hA
    rintro t _ Y ⟨rfl, gY, xY, hF, hA⟩
    simp only[Kn, and_true] at hA
    have hsb := shr_bd hvk hS (show p < 8 by omega)
    have hib : 0 ≤ shi S (vl L l) p ∧ shi S (vl L l) p ≤ 700000 := by
      unfold shi
      split <;> omega
    have hne := neq49 (a := (shr S (vl L l) p).1) (b := shi S (vl L l) p) (by omega) (by omega)
    obtain ⟨pq, pq1, pq2⟩ := sq.get (by decide) (qro_at hlt') rfl (kd := .i64)
    have pq3 := pq2 Y ((g5.trans g6).trans gY)
    refine zS ?_
    have zf:=And.intro @pq1<|And.intro @pq3<|And.intro xY.2<|@hne
    refine V.dz ?_ ?_ rfl ?_
    · exact zM
    · simp only[dcAll, dcOk, wantD, List.cons_append, List.nil_append, true_and, and_true]
    refine zS ?_
    refine V.condF zA ?_
    refine zS ?_
    refine V.l0 ?_
    refine V.nil (Or.inl ⟨rfl, l.length - (p + 1), by omega, ?_⟩)
    exact ⟨p + 1, hlt', rfl, rfl, gY, zF, zK⟩
  · refine V.exit ?_
    refine zX ?_
    refine V.nil (Or.inr ⟨by simp, ?_⟩)
    refine zX ?_
    refine zS ?_
    refine V.run ?_
    refine VI.callA rfl (f20_ok _) zA (fun Hd gd => ?_)
    refine VI.l0 ?_
    refine zS ?_
    refine V.ret (V.rets rfl (Lv.retF (by simp +contextual (disch := first|omega|simp only[nx];omega) only[D1, cells_alloc_at, cells_alloc_ne, cells_set_at, cells_set_ne, yres, yres1, yresL, qA, qB, qC, D5,hF,hA,↓reduceIte,qD,qE]; rfl) ?_))
    rfl
end Go.Xe.TVX
/- Rules of reasoning over the executable reading of the model's code (part Z16): arguments, by what their types allow. Conditions: none; for every program. -/
namespace Go.Xe
open Go Go.RowKit Go.ChangeShapes Go.WideShapes
theorem okWide_agg {P : Program} {w : World} {r : Reach} {base : Nat} {t : TypeId} {v : Value} {fs : Array Field} (ht : P.underlying t=some (.struct fs)) (h : Value.okWide P w r base t v) : ∃ cs,v=.agg cs:=by
 unfold Value.okWide at h
 rw[ht] at h
 obtain⟨cs,h,_⟩:=h
 exact⟨cs,h⟩
end Go.Xe
/- The end of a call that has changed nothing of what was there: what a statement asks of the memory behind it. Conditions: as post_of_same's, but that new memory may be frozen. -/
namespace Go.Xe
open Go Go.RowKit Go.ChangeShapes Go.WideShapes
variable {H : Type} {enc : TypeId×Value→H} {P : Program}
theorem post_of_old {f : Func} {s : ChangeSpec} {apart fresh handsOn again : Bool} {W W' : World} {args : Array Value} {v : Value} {ds gs : List (DataW H)} {before pa pv : List MemPlace}
  (hW : DataW.Whole enc P f.params.toList s.vars apart W args.toList ds gs before)
  (hres : ∀ (b : Nat) (sp : Nat→Bool) (hd : Bool),DataW.TrodAll enc P W' b sp hd f.resultTypes.toList (v.resultList f.resultTypes.size) (s.fn H (ds++gs)).results [])
  (hargs : ∀ sp : Nat→Bool,(∀ p∈before,sp p.block=true)→DataW.TrodAll enc P W' 0 sp true f.params.toList args.toList (s.fn H (ds++gs)).args pa)
  (hvars : ∀ sp : Nat→Bool,(∀ p∈before,sp p.block=true)→DataW.TrodVars enc P W' sp s.vars (s.fn H (ds++gs)).vars pv)
  (hps : before=pa++pv) (hk : W.keptBut W' (·∈before)) (hfz : ∀ a : Addr,a.block<W.heap.size→W'.frozen? a=W.frozen? a)
  (hok : ∀ (j : Nat) (t : TypeId) (r : Value),f.resultTypes[j]?=some t→(v.resultList f.resultTypes.size)[j]?=some r→Value.okWide P W' .any 0 t r) :
  s.post enc P f apart fresh handsOn again W args v W':=by
 have old : ∀ p∈before,p.block<W.heap.size:=fun p hp=>hW.lt p hp
 have hold : ∀ p∈before,(fun b=>decide (b<W.heap.size)) p.block=true:=fun p hp=>by simpa using old p hp
 subst hps
 refine⟨ds,gs,_,[],pa,pv,hW,hres _ _ _,hargs _ hold,hvars _ hold,World.keptBut_mono (fun p hp=>⟨hp,.inr (List.mem_append.1 hp)⟩) hk,fun _=>?_⟩
 obtain⟨_,_,_,_,_,hz,hn⟩:=hW
 refine⟨hok,_,_,([]++pa)++pv,⟨[]++pa,pv,trodAll_append (hargs _ (fun _ _=>rfl)) (hres _ _ _),hvars _ (fun _ _=>rfl),rfl,?_,?_⟩,?_⟩
 ·intro b off hp
  have hp' : MemPlace.cell b off∈pa++pv:=by simpa using hp
  rw[hfz _ (old _ hp')]
  exact hz b off hp'
 ·intro ha
  simpa using hn ha
 ·intro p hp _
  simpa using hp
end Go.Xe
