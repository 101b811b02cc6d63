/- What the functions of the layer border come to: numbers, ranges, and what a map has. Conditions: none. -/
import Derived.Test.YtgcdbdcnlhonfaaZx
import Derived.Test.YtgcdbdcnlhonfaaWd
import Derived.Test.YtgcdbdcnlhonfaaYk
import Derived.Test.YtgcdbdcnlhonfaaTBO
-- MOD TB
namespace Go.Xe.TBX
open Go Go.Xe Go.Proofs
open Nat renaming reduceLeDiff → qA, reduceSub → qB, reduceAdd → qC, reduceEqDiff → qD, reduceLT → qE
open Int renaming reduceNegSucc → qF, reduceEq → qG
open Go.Xe.V renaming seq → sA, block → sB, scope → sC, skip → sD, close → sE
open Go.Xe renaming pth → P
set_option maxRecDepth 100000
set_option maxHeartbeats 3200000
set_option linter.unusedSimpArgs false
noncomputable def d42 : FCode:=(.seq (.run (.go (.move (.con (.bool false))) (P 6)::
[])) (.seq (.run (.go (.move (tm 0)) (P 7)::
.go (.move (tm 1)) (P 8)::
.go (.bin .geq 3 (tm 7) (tm 8)) (P 9)::
.go (.move (tm 9)) (P 10)::
.gd (P 10) true (.move (tm 0)) (P 11)::
.gd (P 10) true (.move (tm 2)) (P 12)::
.gd (P 10) true (.bin .leq 3 (tm 11) (tm 12)) (P 13)::
.go (.pick (tm 10) (tm 13) (.con (.bool false))) (P 14)::
.go (.move (tm 14)) (P 6)::
[])) .ret))
theorem de42 : @compF Try.prog (Gl.none Try.prog) Try.f42 3=.mk d42 (mkTT 15) [(P 0),(P 1),(P 2)] [.tmp (P 6)]:=by kernel_rfl
theorem dg42 : Try.prog.funcs[42]?=some Try.f42:=Try.func42
theorem do42 : okF Try.prog Try.f42=true:=by kernel_rfl
noncomputable def d84 : FCode:=(.seq (.run (.go (.alloc 62 [(.int .i64 (.ofNat 0)),(.int .i64 (.ofNat 0))]) (P 0)::
[])) (.seq (.run (.go (.build [(.int .i64 (.ofNat 0)),(.int .i64 (.ofNat 0))] [(0,1,(.con (.int .i64 (.ofNat 1)))),(1,1,(.con (.int .i64 (.ofNat 4))))]) (P 1)::
.un (.store 2 (tm 0) (tm 1))::
[])) .ret))
theorem de84 : @compF Try.prog (Gl.none Try.prog) Try.f84 0=.mk d84 (mkTT 2) [] [.many (P 0) 2]:=by kernel_rfl
theorem dg84 : Try.prog.funcs[84]?=some Try.f84:=Try.func84
theorem do84 : okF Try.prog Try.f84=true:=by kernel_rfl
noncomputable def d87 : FCode:=(.seq (.run (.go (.alloc 62 [(.int .i64 (.ofNat 0)),(.int .i64 (.ofNat 0))]) (P 0)::
[])) (.seq (.run (.go (.build [(.int .i64 (.ofNat 0)),(.int .i64 (.ofNat 0))] [(0,1,(.con (.int .i64 (.ofNat 0)))),(1,1,(.con (.int .i64 (.ofNat 10000))))]) (P 1)::
.un (.store 2 (tm 0) (tm 1))::
[])) .ret))
theorem de87 : @compF Try.prog (Gl.none Try.prog) Try.f87 0=.mk d87 (mkTT 2) [] [.many (P 0) 2]:=by kernel_rfl
theorem dg87 : Try.prog.funcs[87]?=some Try.f87:=Try.func87
theorem do87 : okF Try.prog Try.f87=true:=by kernel_rfl
noncomputable def d109 : FCode:=(.seq (.run (.go (.alloc 62 [(.int .i64 (.ofNat 0)),(.int .i64 (.ofNat 0))]) (P 0)::
[])) (.seq (.run (.go (.build [(.int .i64 (.ofNat 0)),(.int .i64 (.ofNat 0))] [(0,1,(.con (.int .i64 (.ofNat 0)))),(1,1,(.con (.int .i64 (.ofNat 1000))))]) (P 1)::
.un (.store 2 (tm 0) (tm 1))::
[])) .ret))
theorem de109 : @compF Try.prog (Gl.none Try.prog) Try.f109 0=.mk d109 (mkTT 2) [] [.many (P 0) 2]:=by kernel_rfl
theorem dg109 : Try.prog.funcs[109]?=some Try.f109:=Try.func109
theorem do109 : okF Try.prog Try.f109=true:=by kernel_rfl
noncomputable def d85 : FCode:=(.seq (.run (.go (.box 62 (tm 0)) (P 2)::
.go (.move (.con (.bool false))) (P 4)::
[])) (.seq (.run (.go (.fieldAddr 0 (tm 2)) (P 5)::
.go (.load1 (tm 5)) (P 6)::
.go (.move (tm 1)) (P 7)::
.go (.bin .leq 3 (tm 6) (tm 7)) (P 8)::
.go (.move (tm 8)) (P 9)::
.gd (P 9) true (.move (tm 1)) (P 10)::
.gd (P 9) true (.fieldAddr 1 (tm 2)) (P 11)::
.gd (P 9) true (.load1 (tm 11)) (P 12)::
.gd (P 9) true (.bin .leq 3 (tm 10) (tm 12)) (P 13)::
.go (.pick (tm 9) (tm 13) (.con (.bool false))) (P 14)::
.go (.move (tm 14)) (P 4)::
[])) .ret))
theorem de85 : @compF Try.prog (Gl.none Try.prog) Try.f85 2=.mk d85 (mkTT 15) [(P 0),(P 1)] [.tmp (P 4)]:=by kernel_rfl
theorem dg85 : Try.prog.funcs[85]?=some Try.f85:=Try.func85
theorem do85 : okF Try.prog Try.f85=true:=by kernel_rfl
noncomputable def d86 : FCode:=(.seq (.run (.go (.move (.con (.bool false))) (P 4)::
[])) (.seq (.seq (.run (.go (.move (tm 0)) (P 7)::
.go (.len 0 (tm 7)) (P 8)::
.go (.move (.con (.int .i64 (.ofNat 0)))) (P 9)::
[])) (.block 0 (.loop (.seq (.run (.go (.bin .lss 3 (tm 9) (tm 8)) (P 10)::
[])) (.seq (.cond (tm 10) .skip (.exit 0)) (.seq (.block 1 (.seq (.run (.go (.indexAddr none 1 (tm 7) (tm 9)) (P 11)::
.go (.load1 (tm 11)) (P 12)::
.go (.move (tm 12)) (P 6)::
[])) (.seq (.run (.go (.move (tm 1)) (P 13)::
.go (.move (tm 6)) (P 14)::
.go (.call (tm 13) [tm 14]) (P 15)::
.go (.un .not (tm 15)) (P 16)::
[])) (.cond (tm 16) (.seq (.run (.go (.move (.con (.bool false))) (P 4)::
[])) .ret) .skip)))) (.run (.go (.bin .add 3 (tm 9) (.con (.int .i64 (.ofNat 1)))) (P 17)::
.go (.move (tm 17)) (P 9)::
[])))))))) (.seq (.run (.go (.move (.con (.bool true))) (P 4)::
[])) .ret)))
theorem de86 : @compF Try.prog (Gl.none Try.prog) Try.f86 2=.mk d86 (mkTT 18) [(P 0),(P 1)] [.tmp (P 4)]:=by kernel_rfl
theorem dg86 : Try.prog.funcs[86]?=some Try.f86:=Try.func86
theorem do86 : okF Try.prog Try.f86=true:=by kernel_rfl
noncomputable def d88 : FCode:=(.seq (.run (.go (.move (.con (.bool false))) (P 4)::
[])) (.seq (.seq (.run (.go (.move (tm 0)) (P 7)::
.go (.len 0 (tm 7)) (P 8)::
.go (.move (.con (.int .i64 (.ofNat 0)))) (P 9)::
[])) (.block 0 (.loop (.seq (.run (.go (.bin .lss 3 (tm 9) (tm 8)) (P 10)::
[])) (.seq (.cond (tm 10) .skip (.exit 0)) (.seq (.block 1 (.seq (.run (.go (.indexAddr none 5 (tm 7) (tm 9)) (P 11)::
.go (.loadN 5 (tm 11)) (P 12)::
.go (.alloc 74 [(.int .i64 (.ofNat 0)),(.int .i64 (.ofNat 0)),(.int .i64 (.ofNat 0)),(.int .i64 (.ofNat 0)),(.int .i64 (.ofNat 0))]) (P 6)::
.un (.store 5 (tm 6) (tm 12))::
[])) (.seq (.run (.go (.move (tm 1)) (P 13)::
.go (.loadN 5 (tm 6)) (P 14)::
.go (.call (tm 13) [tm 14]) (P 15)::
.go (.un .not (tm 15)) (P 16)::
[])) (.cond (tm 16) (.seq (.run (.go (.move (.con (.bool false))) (P 4)::
[])) .ret) .skip)))) (.run (.go (.bin .add 3 (tm 9) (.con (.int .i64 (.ofNat 1)))) (P 17)::
.go (.move (tm 17)) (P 9)::
[])))))))) (.seq (.run (.go (.move (.con (.bool true))) (P 4)::
[])) .ret)))
theorem de88 : @compF Try.prog (Gl.none Try.prog) Try.f88 2=.mk d88 (mkTT 18) [(P 0),(P 1)] [.tmp (P 4)]:=by kernel_rfl
theorem dg88 : Try.prog.funcs[88]?=some Try.f88:=Try.func88
theorem do88 : okF Try.prog Try.f88=true:=by kernel_rfl
noncomputable def d90 : FCode:=(.seq (.run (.go (.move (.con (.bool false))) (P 4)::
[])) (.seq (.seq (.run (.go (.move (tm 0)) (P 7)::
.go (.len 0 (tm 7)) (P 8)::
.go (.move (.con (.int .i64 (.ofNat 0)))) (P 9)::
[])) (.block 0 (.loop (.seq (.run (.go (.bin .lss 3 (tm 9) (tm 8)) (P 10)::
[])) (.seq (.cond (tm 10) .skip (.exit 0)) (.seq (.block 1 (.seq (.run (.go (.indexAddr none 2 (tm 7) (tm 9)) (P 11)::
.go (.loadN 2 (tm 11)) (P 12)::
.go (.alloc 76 [(.int .i64 (.ofNat 0)),(.int .i64 (.ofNat 0))]) (P 6)::
.un (.store 2 (tm 6) (tm 12))::
[])) (.seq (.run (.go (.move (tm 1)) (P 13)::
.go (.loadN 2 (tm 6)) (P 14)::
.go (.call (tm 13) [tm 14]) (P 15)::
.go (.un .not (tm 15)) (P 16)::
[])) (.cond (tm 16) (.seq (.run (.go (.move (.con (.bool false))) (P 4)::
[])) .ret) .skip)))) (.run (.go (.bin .add 3 (tm 9) (.con (.int .i64 (.ofNat 1)))) (P 17)::
.go (.move (tm 17)) (P 9)::
[])))))))) (.seq (.run (.go (.move (.con (.bool true))) (P 4)::
[])) .ret)))
theorem de90 : @compF Try.prog (Gl.none Try.prog) Try.f90 2=.mk d90 (mkTT 18) [(P 0),(P 1)] [.tmp (P 4)]:=by kernel_rfl
theorem dg90 : Try.prog.funcs[90]?=some Try.f90:=Try.func90
theorem do90 : okF Try.prog Try.f90=true:=by kernel_rfl
noncomputable def d105 : FCode:=(.seq (.run (.go (.box 34 (tm 0)) (P 2)::
.go (.move (.con (.bool false))) (P 4)::
[])) (.seq (.run (.go (.move (tm 1)) (P 5)::
.go (.bin .leq 3 (.con (.int .i64 (.ofNat 0))) (tm 5)) (P 6)::
.go (.move (tm 6)) (P 7)::
.gd (P 7) true (.move (tm 1)) (P 8)::
.gd (P 7) true (.fieldAddr 1 (tm 2)) (P 9)::
.gd (P 7) true (.load1 (tm 9)) (P 10)::
.gd (P 7) true (.bin .lss 3 (tm 8) (tm 10)) (P 11)::
.go (.pick (tm 7) (tm 11) (.con (.bool false))) (P 12)::
.go (.move (tm 12)) (P 4)::
[])) .ret))
theorem de105 : @compF Try.prog (Gl.none Try.prog) Try.f105 2=.mk d105 (mkTT 13) [(P 0),(P 1)] [.tmp (P 4)]:=by kernel_rfl
theorem dg105 : Try.prog.funcs[105]?=some Try.f105:=Try.func105
theorem do105 : okF Try.prog Try.f105=true:=by kernel_rfl
noncomputable def d108 : FCode:=(.seq (.run (.go (.box 34 (tm 0)) (P 2)::
.go (.move (.con (.bool false))) (P 4)::
[])) (.seq (.run (.go (.move (tm 1)) (P 5)::
.go (.bin .leq 3 (.con (.int .i64 (.ofNat 0))) (tm 5)) (P 6)::
.go (.move (tm 6)) (P 7)::
.gd (P 7) true (.move (tm 1)) (P 8)::
.gd (P 7) true (.fieldAddr 0 (tm 2)) (P 9)::
.gd (P 7) true (.load1 (tm 9)) (P 10)::
.gd (P 7) true (.len 0 (tm 10)) (P 11)::
.gd (P 7) true (.bin .lss 3 (tm 8) (tm 11)) (P 12)::
.go (.pick (tm 7) (tm 12) (.con (.bool false))) (P 13)::
.go (.move (tm 13)) (P 4)::
[])) .ret))
theorem de108 : @compF Try.prog (Gl.none Try.prog) Try.f108 2=.mk d108 (mkTT 14) [(P 0),(P 1)] [.tmp (P 4)]:=by kernel_rfl
theorem dg108 : Try.prog.funcs[108]?=some Try.f108:=Try.func108
theorem do108 : okF Try.prog Try.f108=true:=by kernel_rfl
noncomputable def d110 : FCode:=(.seq (.run (.go (.box 34 (tm 0)) (P 2)::
.go (.move (.con (.bool false))) (P 4)::
[])) (.seq (.run (.go (.move (tm 1)) (P 5)::
.go (.bin .leq 3 (.con (.int .i64 (.ofNat 0))) (tm 5)) (P 6)::
.go (.move (tm 6)) (P 7)::
.gd (P 7) true (.move (tm 1)) (P 8)::
.gd (P 7) true (.fieldAddr 2 (tm 2)) (P 9)::
.gd (P 7) true (.load1 (tm 9)) (P 10)::
.gd (P 7) true (.len 0 (tm 10)) (P 11)::
.gd (P 7) true (.bin .lss 3 (tm 8) (tm 11)) (P 12)::
.go (.pick (tm 7) (tm 12) (.con (.bool false))) (P 13)::
.go (.move (tm 13)) (P 4)::
[])) .ret))
theorem de110 : @compF Try.prog (Gl.none Try.prog) Try.f110 2=.mk d110 (mkTT 14) [(P 0),(P 1)] [.tmp (P 4)]:=by kernel_rfl
theorem dg110 : Try.prog.funcs[110]?=some Try.f110:=Try.func110
theorem do110 : okF Try.prog Try.f110=true:=by kernel_rfl
noncomputable def d111 : FCode:=(.seq (.run (.go (.move (.con (.bool false))) (P 2)::
[])) (.seq (.run (.go (.move (tm 0)) (P 3)::
.go (.bin .gtr 3 (tm 3) (.con (.int .i64 (.ofNat 0)))) (P 4)::
.go (.move (tm 4)) (P 2)::
[])) .ret))
theorem de111 : @compF Try.prog (Gl.none Try.prog) Try.f111 1=.mk d111 (mkTT 5) [(P 0)] [.tmp (P 2)]:=by kernel_rfl
theorem dg111 : Try.prog.funcs[111]?=some Try.f111:=Try.func111
theorem do111 : okF Try.prog Try.f111=true:=by kernel_rfl
noncomputable def d117 : FCode:=(.seq (.run (.go (.box 62 (tm 0)) (P 1)::
.go (.move (.con (.int .i64 (.ofNat 0)))) (P 2)::
[])) (.seq (.run (.go (.fieldAddr 0 (tm 1)) (P 3)::
.go (.load1 (tm 3)) (P 4)::
.go (.move (tm 4)) (P 2)::
[])) .ret))
theorem de117 : @compF Try.prog (Gl.none Try.prog) Try.f117 1=.mk d117 (mkTT 5) [(P 0)] [.tmp (P 2)]:=by kernel_rfl
theorem dg117 : Try.prog.funcs[117]?=some Try.f117:=Try.func117
theorem do117 : okF Try.prog Try.f117=true:=by kernel_rfl
noncomputable def d118 : FCode:=(.seq (.run (.go (.box 62 (tm 0)) (P 1)::
.go (.move (.con (.int .i64 (.ofNat 0)))) (P 2)::
[])) (.seq (.run (.go (.fieldAddr 1 (tm 1)) (P 3)::
.go (.load1 (tm 3)) (P 4)::
.go (.move (tm 4)) (P 2)::
[])) .ret))
theorem de118 : @compF Try.prog (Gl.none Try.prog) Try.f118 1=.mk d118 (mkTT 5) [(P 0)] [.tmp (P 2)]:=by kernel_rfl
theorem dg118 : Try.prog.funcs[118]?=some Try.f118:=Try.func118
theorem do118 : okF Try.prog Try.f118=true:=by kernel_rfl
@[reducible] instance gl : Gl Try.prog:=Gl.none Try.prog
@[reducible] instance orc : Orc Try.prog:=TBO.orc
abbrev I (n : Int) : Value:=.int .i64 n
abbrev U : Value:=undef
abbrev PT (i : Nat) : Value:=.pointer (some ⟨i,0,none⟩)
abbrev A2 (a b : Int) : List Value:=[I a,I b]
abbrev fn (g : Nat) : Value:=.func (.func g) ⟨[]⟩ ⟨[]⟩
def Li (l : List Int) : List Value:=l.map I
theorem Li_len (l : List Int) : (Li l).length=l.length:=by simp[Li]
theorem Li_at {l : List Int} {k : Nat} (h : k<l.length) : (Li l)[k]?=some (I l[k]):=by simp[Li,h]
theorem Li_ok (l : List Int) : (Li l).all ok1=true:=by simp[Li,ok1_int]
theorem Li_set (l : List Int) (k : Nat) (y : Int) : (Li l).set k (I y)=Li (l.set k y):=by simp[Li,List.map_set]
theorem tk1 {α : Type} {l : List α} {k : Nat} (h : k<l.length) : l.take (k+1)=l.take k++[l[k]]:=List.take_succ_eq_append_getElem h
structure LS (H : Heap) (x : Value) (l : List Int) : Prop where
 s : Sl H x (Li l)
theorem LS.grow {A B : Heap} (g : Grow A B) {x : Value} {l : List Int} (h : LS A x l) : LS B x l:=⟨h.s.grow g⟩
theorem LS.len {H : Heap} {x : Value} {l : List Int} (h : LS H x l) : ∀ X,ylen 0 X x=some (I l.length):=by
 intro X
 have:=h.s.len
 rw[Li_len] at this
 obtain⟨p,n,c,rfl⟩:=h.s.isS
 exact this
theorem LS.at {H : Heap} {x : Value} {l : List Int} (h : LS H x l) {k : Nat} (hk : k<l.length) : ∃ p,yindexAddr none 1 x (I k)=some p∧∀ H',Grow H H'→yload1 H' p=some (I l[k]):=h.s.get (Li_at hk) rfl
theorem ow_ls {H0 X : Heap} {v : Value} {l : List Int} (h : Ow H0 X 3 v (Li l)) : LS X v l:=⟨h.sl⟩
theorem ls_box {X : Heap} {i n : Nat} {l : List Int} (b : Bx X i (Li l) 3) (hn : l.length=n) : LS X (.slice (some ⟨i,0,none⟩) n n) l:=
 ⟨.at b.1 b.2 (Nat.le_refl _) (by rw[Li_len,hn]) (by simp[Li_len,hn]) (fun k x hk=>by simpa using hk)⟩
theorem own_idx {y n c g : Nat} (h : g<n) : yindexAddr none 1 (.slice (some ⟨y,0,none⟩) n c) (I (g : Nat))=some (.pointer (some ⟨y,g,none⟩)):=by
 simp only[yindexAddr]
 rw[if_pos ⟨by omega,by omega⟩]
 simp
abbrev R2:=Int×Int
abbrev q2 (r : R2) : List Value:=A2 r.1 r.2
theorem q2_w {R : List R2} : ∀ x∈R.map q2,x.length=2:=by
 intro x hx
 obtain⟨r,_,rfl⟩:=List.mem_map.1 hx
 rfl
structure RS (H : Heap) (x : Value) (R : List R2) : Prop where
 s : Sw 2 H x (R.map q2)
theorem RS.grow {A B : Heap} (g : Grow A B) {x : Value} {R : List R2} (h : RS A x R) : RS B x R:=⟨h.s.grow g⟩
theorem RS.isS {H : Heap} {x : Value} {R : List R2} (h : RS H x R) : ∃ p n c,x=.slice p n c:=by
 obtain⟨h⟩:=h
 generalize R.map q2=l at h
 cases h<;>exact⟨_,_,_,rfl⟩
theorem RS.len {H : Heap} {x : Value} {R : List R2} (h : RS H x R) : ∀ X,ylen 0 X x=some (I R.length):=by
 intro X
 have:=h.s.len
 rw[List.length_map] at this
 obtain⟨p,n,c,rfl⟩:=h.isS
 exact this
theorem RS.at {H : Heap} {x : Value} {R : List R2} (h : RS H x R) {k : Nat} (hk : k<R.length) : ∃ i o,yindexAddr none 2 x (I k)=some (.pointer (some ⟨i,o,none⟩))∧∀ H',Grow H H'→yloadN 2 H' (.pointer (some ⟨i,o,none⟩))=some (.agg ⟨A2 R[k].1 R[k].2⟩)∧yload1 H' (.pointer (some ⟨i,o,none⟩))=some (I R[k].1)∧yload1 H' (.pointer (some ⟨i,o+1,none⟩))=some (I R[k].2):=by
 obtain⟨i,o,h1,h2⟩:=h.s.at2 (by decide) (k:=k) (x:=q2 R[k]) (by simp[hk])
 refine⟨i,o,h1 _,fun H' g=>?_⟩
 obtain⟨a,b⟩:=h2 H' g
 exact⟨a,b 0 _ rfl,b 1 _ rfl⟩
structure St where
 old : Int
 new : Int
 w : Int
 lo : Int
 hi : Int
abbrev s5 (s : St) : List Value:=[I s.old,I s.new,I s.w,I s.lo,I s.hi]
theorem s5_w {S : List St} : ∀ x∈S.map s5,x.length=5:=by
 intro x hx
 obtain⟨r,_,rfl⟩:=List.mem_map.1 hx
 rfl
structure SS (H : Heap) (x : Value) (S : List St) : Prop where
 s : Sw 5 H x (S.map s5)
theorem SS.grow {A B : Heap} (g : Grow A B) {x : Value} {S : List St} (h : SS A x S) : SS B x S:=⟨h.s.grow g⟩
theorem SS.isS {H : Heap} {x : Value} {S : List St} (h : SS H x S) : ∃ p n c,x=.slice p n c:=by
 obtain⟨h⟩:=h
 generalize S.map s5=l at h
 cases h<;>exact⟨_,_,_,rfl⟩
theorem SS.len {H : Heap} {x : Value} {S : List St} (h : SS H x S) : ∀ X,ylen 0 X x=some (I S.length):=by
 intro X
 have:=h.s.len
 rw[List.length_map] at this
 obtain⟨p,n,c,rfl⟩:=h.isS
 exact this
theorem load2 {H : Heap} {i o : Nat} {a b : Value} (h1 : yload1 H (.pointer (some ⟨i,o,none⟩))=some a) (h2 : yload1 H (.pointer (some ⟨i,o+1,none⟩))=some b) : yloadN 2 H (.pointer (some ⟨i,o,none⟩))=some (.agg ⟨[a,b]⟩):=by
 simp only[yload1,yloadN] at h1 h2 ⊢
 cases hc : H.cellsAt i with
 | none=>rw[hc] at h1;cases h1
 | some x=>
  obtain⟨c,e,r⟩:=x
  rw[hc] at h1 h2
  simp only at h1 h2 ⊢
  have l2:=(Array.getElem?_eq_some_iff.1 h2).1
  rw[if_pos ⟨by omega,by omega⟩]
  congr 3
  apply Array.ext_getElem?
  intro j
  rw[Array.getElem?_extract]
  match j with
  | 0=>rw[if_pos (by omega)];simpa using h1
  | 1=>rw[if_pos (by omega)];simpa using h2
  | j+2=>rw[if_neg (by omega)];simp
theorem SS.at {H : Heap} {x : Value} {S : List St} (h : SS H x S) {k : Nat} (hk : k<S.length) : ∃ i o,yindexAddr none 5 x (I k)=some (.pointer (some ⟨i,o,none⟩))∧∀ H',Grow H H'→yloadN 5 H' (.pointer (some ⟨i,o,none⟩))=some (.agg ⟨s5 S[k]⟩)∧yload1 H' (.pointer (some ⟨i,o,none⟩))=some (I S[k].old)∧yload1 H' (.pointer (some ⟨i,o+1,none⟩))=some (I S[k].new)∧yload1 H' (.pointer (some ⟨i,o+2,none⟩))=some (I S[k].w)∧yload1 H' (.pointer (some ⟨i,o+3,none⟩))=some (I S[k].lo)∧yload1 H' (.pointer (some ⟨i,o+4,none⟩))=some (I S[k].hi)∧yloadN 2 H' (.pointer (some ⟨i,o+3,none⟩))=some (.agg ⟨A2 S[k].lo S[k].hi⟩):=by
 obtain⟨i,o,h1,h2⟩:=h.s.at2 (by decide) (k:=k) (x:=s5 S[k]) (by simp[hk])
 refine⟨i,o,h1 _,fun H' g=>?_⟩
 obtain⟨a,b⟩:=h2 H' g
 have b3:=b 3 _ rfl
 have b4:=b 4 _ rfl
 exact⟨a,b 0 _ rfl,b 1 _ rfl,b 2 _ rfl,b3,b4,load2 b3 b4⟩
structure BM where
 O : List Int
 N : Int
 S : List St
 J : List R2
structure MV (H : Heap) (o s j : Value) (M : BM) : Prop where
 o : LS H o M.O
 s : SS H s M.S
 j : RS H j M.J
theorem MV.grow {A B : Heap} (g : Grow A B) {o s j : Value} {M : BM} (h : MV A o s j M) : MV B o s j M:=⟨h.o.grow g,h.s.grow g,h.j.grow g⟩
def isS (v : Value) : Prop:=∃ p n c,v=.slice p n c
abbrev mc (o s j : Value) (N : Int) : List Value:=[o,I N,s,j]
theorem mc_ok {o s j : Value} {N : Int} (h1 : isS o) (h2 : isS s) (h3 : isS j) : (mc o s j N).all ok1=true:=by
 obtain⟨_,_,_,rfl⟩:=h1
 obtain⟨_,_,_,rfl⟩:=h2
 obtain⟨_,_,_,rfl⟩:=h3
 rfl
theorem f17_ok (H : Heap) : Gives Try.prog 17 [] H (.bool true):=.orc rfl
theorem f42_ok (n a b : Int) (H : Heap) : Gives Try.prog 42 [I n,I a,I b] H (.bool (decide (a≤n∧n≤b))):=by
 refine F.entryL rfl dg42 do42 de42 rfl (by kernel_rfl) ?_
 simp only[sets]
 refine V.re [(0,I n),(1,I a),(2,I b)] (N:=15) zE zY ?_
 intro t hF hA
 simp only[Kn,and_true] at hA
 refine zS ?_
 refine V.l0 ?_
 refine zS ?_
 refine V.l0 ?_
 refine zS ?_
 refine V.ret (V.rets rfl (Lv.retG (by simp +contextual (disch:=first|omega|simp only[nx];omega) only[D1,cells_alloc_at,cells_alloc_ne,cells_set_at,cells_set_ne,yres,yres1,yresL,qA,qB,qC,D5,hF,hA,↓reduceIte,qD,qE];rfl) ?_ ?_))
 ·exact zW
 ·rfl
theorem f84_ok (H : Heap) : Gives Try.prog 84 [] H (.agg ⟨A2 1 4⟩):=by
 refine F.entryL rfl dg84 do84 de84 rfl (by kernel_rfl) ?_
 simp only[sets]
 refine V.re [] (N:=2) zE zY ?_
 intro t hF hA
 refine zS ?_
 refine V.l0 ?_
 refine zS ?_
 refine V.l0 ?_
 refine zS ?_
 refine V.ret (V.rets rfl (Lv.retG (by simp +contextual (disch:=first|omega|simp only[nx];omega) only[D1,cells_alloc_at,cells_alloc_ne,cells_set_at,cells_set_ne,yres,yres1,yresL,qA,qB,qC,D5,hF,hA,↓reduceIte,qD,qE];rfl) ?_ ?_))
 ·exact zW
 ·rfl
theorem f87_ok (H : Heap) : Gives Try.prog 87 [] H (.agg ⟨A2 0 10000⟩):=by
 refine F.entryL rfl dg87 do87 de87 rfl (by kernel_rfl) ?_
 simp only[sets]
 refine V.re [] (N:=2) zE zY ?_
 intro t hF hA
 refine zS ?_
 refine V.l0 ?_
 refine zS ?_
 refine V.l0 ?_
 refine zS ?_
 refine V.ret (V.rets rfl (Lv.retG (by simp +contextual (disch:=first|omega|simp only[nx];omega) only[D1,cells_alloc_at,cells_alloc_ne,cells_set_at,cells_set_ne,yres,yres1,yresL,qA,qB,qC,D5,hF,hA,↓reduceIte,qD,qE];rfl) ?_ ?_))
 ·exact zW
 ·rfl
theorem f109_ok (H : Heap) : Gives Try.prog 109 [] H (.agg ⟨A2 0 1000⟩):=by
 refine F.entryL rfl dg109 do109 de109 rfl (by kernel_rfl) ?_
 simp only[sets]
 refine V.re [] (N:=2) zE zY ?_
 intro t hF hA
 refine zS ?_
 refine V.l0 ?_
 refine zS ?_
 refine V.l0 ?_
 refine zS ?_
 refine V.ret (V.rets rfl (Lv.retG (by simp +contextual (disch:=first|omega|simp only[nx];omega) only[D1,cells_alloc_at,cells_alloc_ne,cells_set_at,cells_set_ne,yres,yres1,yresL,qA,qB,qC,D5,hF,hA,↓reduceIte,qD,qE];rfl) ?_ ?_))
 ·exact zW
 ·rfl
theorem f85_ok (a b n : Int) (H : Heap) : Gives Try.prog 85 [.agg ⟨A2 a b⟩,I n] H (.bool (decide (a≤n∧n≤b))):=by
 refine F.entryL rfl dg85 do85 de85 rfl (by kernel_rfl) ?_
 simp only[sets]
 refine V.re [(0,.agg ⟨A2 a b⟩),(1,I n)] (N:=15) zE zY ?_
 intro t hF hA
 simp only[Kn,and_true] at hA
 refine zS ?_
 refine V.l0 ?_
 refine zS ?_
 refine V.l0 ?_
 refine zS ?_
 refine V.ret (V.rets rfl (Lv.retG (by simp +contextual (disch:=first|omega|simp only[nx];omega) only[D1,cells_alloc_at,cells_alloc_ne,cells_set_at,cells_set_ne,yres,yres1,yresL,qA,qB,qC,D5,hF,hA,↓reduceIte,qD,qE];rfl) ?_ ?_))
 ·exact zW
 ·rfl
theorem f85_fv (a b : Int) (X : Heap) (y : Int) : FV Try.prog (.func (.func 85) ⟨[.agg ⟨A2 a b⟩]⟩ ⟨[]⟩) [I y] X (fun v X'=>v=.bool (decide (a≤y∧y≤b))∧Grow X X'):=f85_ok a b y X
def AllP {α : Type} (Pr : α→Prop) (l : List α) : Prop:=∀ v∈l,Pr v
instance {α : Type} (Pr : α→Prop) [DecidablePred Pr] (l : List α) : Decidable (AllP Pr l):=inferInstanceAs (Decidable (∀ v∈l,Pr v))
theorem f86_ok {H : Heap} {x fv : Value} {l : List Int} {Pr : Int→Prop} [DecidablePred Pr] (h : LS H x l) (hn : l.length≤1048576) (hc : ∀ X y,y∈l→Grow H X→FV Try.prog fv [I y] X (fun v X'=>v=.bool (decide (Pr y))∧Grow X X')) : Gives Try.prog 86 [x,fv] H (.bool (decide (AllP Pr l))):=by
 have hl:=h.len
 refine F.entryL rfl dg86 do86 de86 rfl (by kernel_rfl) ?_
 simp only[sets]
 refine V.re [(0,x),(1,fv)] (N:=18) zE zY ?_
 intro t hF hA
 simp only[Kn,and_true] at hA
 refine zS ?_
 refine V.l0 ?_
 refine zS ?_
 have zf:=@hl
 refine V.lz ?_
 refine zS ?_
 refine V.loop (fun z t m X=>∃ (k : Nat),k≤l.length∧z=l.length-k∧m=[]∧Grow H X∧(∀ v∈l.take k,Pr v)∧Full 18 t∧Kn [(0,x),(1,fv),(7,x),(8,I l.length),(9,I k)] t) l.length ?_ ?_
 ·exact⟨0,by omega,by omega,rfl,.refl _,by simp,zF,zK⟩
 clear hF hA
 rintro z t m X ⟨k,hk,rfl,rfl,hg,hall,hF,hA⟩
 simp only[Kn,and_true] at hA
 refine zS ?_
 refine V.l0 ?_
 refine zS ?_
 refine V.condP zP (fun hlt=>?_) (fun hlt=>?_)
 ·have hlt' : k<l.length:=by omega
  obtain⟨p,hp,hx⟩:=h.at hlt'
  have hx1:=hx X hg
  refine zS ?_
  have zf:=And.intro @hp<|@hx1
  refine V.lz ?_
  refine zS ?_
  refine V.run ?_
  refine VI.s0 2 ?_
  simp only[ds]
  refine VI.callV (y:=fv) zA (by simp only[List.map_cons,List.map_nil,D6,D5,hF,hA,↓reduceIte,qD,qE];exact hc X _ (List.getElem_mem hlt') hg) (fun v X2 hv=>?_)
  obtain⟨rfl,g2⟩:=hv
  refine VI.l0 ?_
  refine zS ?_
  refine V.condP zP (fun hb=>?_) (fun hb=>?_)
  ·refine zS ?_
   refine V.l0 ?_
   refine zS ?_
   refine V.ret (V.rets rfl (Or.inr ⟨by simp,V.rets rfl (Lv.retG (by simp +contextual (disch:=first|omega|simp only[nx];omega) only[D1,cells_alloc_at,cells_alloc_ne,cells_set_at,cells_set_ne,yres,yres1,yresL,qA,qB,qC,D5,hF,hA,↓reduceIte,qD,qE];rfl) ?_ ?_)⟩))
   ·exact hg.trans g2
   ·congr 1
    exact (decide_eq_false (fun hh=>hb (hh _ (List.getElem_mem hlt')))).symm
  ·refine zS ?_
   refine V.l0 ?_
   refine V.nil (Or.inl ⟨rfl,l.length-(k+1),by omega,?_⟩)
   refine⟨k+1,hlt',rfl,rfl,hg.trans g2,?_,zF,zK⟩
   intro v hv
   rw[tk1 hlt'] at hv
   rcases List.mem_append.1 hv with hv|hv
   ·exact hall v hv
   ·rw[List.mem_singleton.1 hv];exact Decidable.not_not.1 hb
 ·obtain rfl : k=l.length:=by omega
  rw[List.take_length] at hall
  refine V.exit ?_
  refine zX ?_
  refine V.nil (Or.inr ⟨by simp,?_⟩)
  refine zX ?_
  refine zS ?_
  refine V.l0 ?_
  refine zS ?_
  refine V.ret (V.rets rfl (Lv.retG (by simp +contextual (disch:=first|omega|simp only[nx];omega) only[D1,cells_alloc_at,cells_alloc_ne,cells_set_at,cells_set_ne,yres,yres1,yresL,qA,qB,qC,D5,hF,hA,↓reduceIte,qD,qE];rfl) ?_ ?_))
  ·exact hg
  ·rw[decide_eq_true (show AllP Pr l from hall)]
theorem f88_ok {H : Heap} {x fv : Value} {S : List St} {Pr : St→Prop} [DecidablePred Pr] (h : SS H x S) (hn : S.length≤1048576) (hc : ∀ X y,y∈S→Grow H X→FV Try.prog fv [.agg ⟨s5 y⟩] X (fun v X'=>v=.bool (decide (Pr y))∧Grow X X')) : Gives Try.prog 88 [x,fv] H (.bool (decide (AllP Pr S))):=by
 have hl:=h.len
 refine F.entryL rfl dg88 do88 de88 rfl (by kernel_rfl) ?_
 simp only[sets]
 refine V.re [(0,x),(1,fv)] (N:=18) zE zY ?_
 intro t hF hA
 simp only[Kn,and_true] at hA
 refine zS ?_
 refine V.l0 ?_
 refine zS ?_
 have zf:=@hl
 refine V.lz ?_
 refine zS ?_
 refine V.loop (fun z t m X=>∃ (k : Nat),k≤S.length∧z=S.length-k∧m=[]∧Grow H X∧(∀ v∈S.take k,Pr v)∧Full 18 t∧Kn [(0,x),(1,fv),(7,x),(8,I S.length),(9,I k)] t) S.length ?_ ?_
 ·exact⟨0,by omega,by omega,rfl,.refl _,by simp,zF,zK⟩
 clear hF hA
 rintro z t m X ⟨k,hk,rfl,rfl,hg,hall,hF,hA⟩
 simp only[Kn,and_true] at hA
 refine zS ?_
 refine V.l0 ?_
 refine zS ?_
 refine V.condP zP (fun hlt=>?_) (fun hlt=>?_)
 ·have hlt' : k<S.length:=by omega
  obtain⟨i,o,h1,h2⟩:=h.at hlt'
  have h3:=(h2 X hg).1
  obtain⟨y,hy⟩ : ∃ y,y=S[k]:=⟨_,rfl⟩
  have hym : y∈S:=hy ▸ List.getElem_mem hlt'
  rw[← hy] at h3
  refine zS ?_
  have zf:=And.intro @h1<|@h3
  refine V.lz ?_
  refine V.heap (fun Y=>Grow X Y∧Bx Y X.next (s5 y) 74) ⟨?_,?_⟩ ?_
  ·exact zW
  ·exact zB
  rintro X1 ⟨gx,bx⟩
  refine zS ?_
  refine V.run ?_
  have zf:=bx.2
  refine VI.sz 2 ?_
  simp only[ds]
  refine VI.callV (y:=fv) zA (by simp only[List.map_cons,List.map_nil,D6,D5,hF,hA,↓reduceIte,qD,qE];exact hc X1 y hym (hg.trans gx)) (fun v X2 hv=>?_)
  obtain⟨rfl,g2⟩:=hv
  have hg2:=(hg.trans gx).trans g2
  refine VI.l0 ?_
  refine zS ?_
  refine V.condP zP (fun hb=>?_) (fun hb=>?_)
  ·refine zS ?_
   refine V.l0 ?_
   refine zS ?_
   refine V.ret (V.rets rfl (Or.inr ⟨by simp,V.rets rfl (Lv.retG (by simp +contextual (disch:=first|omega|simp only[nx];omega) only[D1,cells_alloc_at,cells_alloc_ne,cells_set_at,cells_set_ne,yres,yres1,yresL,qA,qB,qC,D5,hF,hA,↓reduceIte,qD,qE];rfl) ?_ ?_)⟩))
   ·exact hg2
   ·congr 1
    exact (decide_eq_false (fun hh=>hb (hh _ hym))).symm
  ·refine zS ?_
   refine V.l0 ?_
   refine V.nil (Or.inl ⟨rfl,S.length-(k+1),by omega,?_⟩)
   refine⟨k+1,hlt',rfl,rfl,hg2,?_,zF,zK⟩
   intro v hv
   rw[tk1 hlt'] at hv
   rcases List.mem_append.1 hv with hv|hv
   ·exact hall v hv
   ·rw[List.mem_singleton.1 hv,← hy];exact Decidable.not_not.1 hb
 ·obtain rfl : k=S.length:=by omega
  rw[List.take_length] at hall
  refine V.exit ?_
  refine zX ?_
  refine V.nil (Or.inr ⟨by simp,?_⟩)
  refine zX ?_
  refine zS ?_
  refine V.l0 ?_
  refine zS ?_
  refine V.ret (V.rets rfl (Lv.retG (by simp +contextual (disch:=first|omega|simp only[nx];omega) only[D1,cells_alloc_at,cells_alloc_ne,cells_set_at,cells_set_ne,yres,yres1,yresL,qA,qB,qC,D5,hF,hA,↓reduceIte,qD,qE];rfl) ?_ ?_))
  ·exact hg
  ·rw[decide_eq_true (show AllP Pr S from hall)]
theorem f90_ok {H : Heap} {x fv : Value} {S : List R2} {Pr : R2→Prop} [DecidablePred Pr] (h : RS H x S) (hn : S.length≤1048576) (hc : ∀ X y,y∈S→Grow H X→FV Try.prog fv [.agg ⟨q2 y⟩] X (fun v X'=>v=.bool (decide (Pr y))∧Grow X X')) : Gives Try.prog 90 [x,fv] H (.bool (decide (AllP Pr S))):=by
 have hl:=h.len
 refine F.entryL rfl dg90 do90 de90 rfl (by kernel_rfl) ?_
 simp only[sets]
 refine V.re [(0,x),(1,fv)] (N:=18) zE zY ?_
 intro t hF hA
 simp only[Kn,and_true] at hA
 refine zS ?_
 refine V.l0 ?_
 refine zS ?_
 have zf:=@hl
 refine V.lz ?_
 refine zS ?_
 refine V.loop (fun z t m X=>∃ (k : Nat),k≤S.length∧z=S.length-k∧m=[]∧Grow H X∧(∀ v∈S.take k,Pr v)∧Full 18 t∧Kn [(0,x),(1,fv),(7,x),(8,I S.length),(9,I k)] t) S.length ?_ ?_
 ·exact⟨0,by omega,by omega,rfl,.refl _,by simp,zF,zK⟩
 clear hF hA
 rintro z t m X ⟨k,hk,rfl,rfl,hg,hall,hF,hA⟩
 simp only[Kn,and_true] at hA
 refine zS ?_
 refine V.l0 ?_
 refine zS ?_
 refine V.condP zP (fun hlt=>?_) (fun hlt=>?_)
 ·have hlt' : k<S.length:=by omega
  obtain⟨i,o,h1,h2⟩:=h.at hlt'
  have h3:=(h2 X hg).1
  obtain⟨y,hy⟩ : ∃ y,y=S[k]:=⟨_,rfl⟩
  have hym : y∈S:=hy ▸ List.getElem_mem hlt'
  rw[← hy] at h3
  refine zS ?_
  have zf:=And.intro @h1<|@h3
  refine V.lz ?_
  refine V.heap (fun Y=>Grow X Y∧Bx Y X.next (q2 y) 76) ⟨?_,?_⟩ ?_
  ·exact zW
  ·exact zB
  rintro X1 ⟨gx,bx⟩
  refine zS ?_
  refine V.run ?_
  have zf:=bx.2
  refine VI.sz 2 ?_
  simp only[ds]
  refine VI.callV (y:=fv) zA (by simp only[List.map_cons,List.map_nil,D6,D5,hF,hA,↓reduceIte,qD,qE];exact hc X1 y hym (hg.trans gx)) (fun v X2 hv=>?_)
  obtain⟨rfl,g2⟩:=hv
  have hg2:=(hg.trans gx).trans g2
  refine VI.l0 ?_
  refine zS ?_
  refine V.condP zP (fun hb=>?_) (fun hb=>?_)
  ·refine zS ?_
   refine V.l0 ?_
   refine zS ?_
   refine V.ret (V.rets rfl (Or.inr ⟨by simp,V.rets rfl (Lv.retG (by simp +contextual (disch:=first|omega|simp only[nx];omega) only[D1,cells_alloc_at,cells_alloc_ne,cells_set_at,cells_set_ne,yres,yres1,yresL,qA,qB,qC,D5,hF,hA,↓reduceIte,qD,qE];rfl) ?_ ?_)⟩))
   ·exact hg2
   ·congr 1
    exact (decide_eq_false (fun hh=>hb (hh _ hym))).symm
  ·refine zS ?_
   refine V.l0 ?_
   refine V.nil (Or.inl ⟨rfl,S.length-(k+1),by omega,?_⟩)
   refine⟨k+1,hlt',rfl,rfl,hg2,?_,zF,zK⟩
   intro v hv
   rw[tk1 hlt'] at hv
   rcases List.mem_append.1 hv with hv|hv
   ·exact hall v hv
   ·rw[List.mem_singleton.1 hv,← hy];exact Decidable.not_not.1 hb
 ·obtain rfl : k=S.length:=by omega
  rw[List.take_length] at hall
  refine V.exit ?_
  refine zX ?_
  refine V.nil (Or.inr ⟨by simp,?_⟩)
  refine zX ?_
  refine zS ?_
  refine V.l0 ?_
  refine zS ?_
  refine V.ret (V.rets rfl (Lv.retG (by simp +contextual (disch:=first|omega|simp only[nx];omega) only[D1,cells_alloc_at,cells_alloc_ne,cells_set_at,cells_set_ne,yres,yres1,yresL,qA,qB,qC,D5,hF,hA,↓reduceIte,qD,qE];rfl) ?_ ?_))
  ·exact hg
  ·rw[decide_eq_true (show AllP Pr S from hall)]
theorem f105_ok {H : Heap} {o s j : Value} {N : Int} (d : Int) : Gives Try.prog 105 [.agg ⟨mc o s j N⟩,I d] H (.bool (decide (0≤d∧d<N))):=by
 refine F.entryL rfl dg105 do105 de105 rfl (by kernel_rfl) ?_
 simp only[sets]
 refine V.re [(0,.agg ⟨mc o s j N⟩),(1,I d)] (N:=13) zE zY ?_
 intro t hF hA
 simp only[Kn,and_true] at hA
 refine zS ?_
 refine V.l0 ?_
 refine zS ?_
 refine V.l0 ?_
 refine zS ?_
 refine V.ret (V.rets rfl (Lv.retG (by simp +contextual (disch:=first|omega|simp only[nx];omega) only[D1,cells_alloc_at,cells_alloc_ne,cells_set_at,cells_set_ne,yres,yres1,yresL,qA,qB,qC,D5,hF,hA,↓reduceIte,qD,qE];rfl) ?_ ?_))
 ·exact zW
 ·rfl
theorem f108_ok {H : Heap} {o s j : Value} {M : BM} (h : MV H o s j M) (d : Int) : Gives Try.prog 108 [.agg ⟨mc o s j M.N⟩,I d] H (.bool (decide (0≤d∧d<M.O.length))):=by
 have hl:=h.o.len
 refine F.entryL rfl dg108 do108 de108 rfl (by kernel_rfl) ?_
 simp only[sets]
 refine V.re [(0,.agg ⟨mc o s j M.N⟩),(1,I d)] (N:=14) zE zY ?_
 intro t hF hA
 simp only[Kn,and_true] at hA
 refine zS ?_
 refine V.l0 ?_
 refine zS ?_
 have zf:=@hl
 refine V.lz ?_
 refine zS ?_
 refine V.ret (V.rets rfl (Lv.retG (by simp +contextual (disch:=first|omega|simp only[nx];omega) only[D1,cells_alloc_at,cells_alloc_ne,cells_set_at,cells_set_ne,yres,yres1,yresL,qA,qB,qC,D5,hF,hA,↓reduceIte,qD,qE];rfl) ?_ ?_))
 ·exact zW
 ·rfl
theorem f110_ok {H : Heap} {o s j : Value} {M : BM} (h : MV H o s j M) (d : Int) : Gives Try.prog 110 [.agg ⟨mc o s j M.N⟩,I d] H (.bool (decide (0≤d∧d<M.S.length))):=by
 have hl:=h.s.len
 refine F.entryL rfl dg110 do110 de110 rfl (by kernel_rfl) ?_
 simp only[sets]
 refine V.re [(0,.agg ⟨mc o s j M.N⟩),(1,I d)] (N:=14) zE zY ?_
 intro t hF hA
 simp only[Kn,and_true] at hA
 refine zS ?_
 refine V.l0 ?_
 refine zS ?_
 have zf:=@hl
 refine V.lz ?_
 refine zS ?_
 refine V.ret (V.rets rfl (Lv.retG (by simp +contextual (disch:=first|omega|simp only[nx];omega) only[D1,cells_alloc_at,cells_alloc_ne,cells_set_at,cells_set_ne,yres,yres1,yresL,qA,qB,qC,D5,hF,hA,↓reduceIte,qD,qE];rfl) ?_ ?_))
 ·exact zW
 ·rfl
theorem f111_ok (n : Int) (H : Heap) : Gives Try.prog 111 [I n] H (.bool (decide (0<n))):=by
 refine F.entryL rfl dg111 do111 de111 rfl (by kernel_rfl) ?_
 simp only[sets]
 refine V.re [(0,I n)] (N:=5) zE zY ?_
 intro t hF hA
 simp only[Kn,and_true] at hA
 refine zS ?_
 refine V.l0 ?_
 refine zS ?_
 refine V.l0 ?_
 refine zS ?_
 refine V.ret (V.rets rfl (Lv.retG (by simp +contextual (disch:=first|omega|simp only[nx];omega) only[D1,cells_alloc_at,cells_alloc_ne,cells_set_at,cells_set_ne,yres,yres1,yresL,qA,qB,qC,D5,hF,hA,↓reduceIte,qD,qE];rfl) ?_ ?_))
 ·exact zW
 ·rfl
theorem f117_ok (a b : Int) (H : Heap) : Gives Try.prog 117 [.agg ⟨A2 a b⟩] H (I a):=by
 refine F.entryL rfl dg117 do117 de117 rfl (by kernel_rfl) ?_
 simp only[sets]
 refine V.re [(0,.agg ⟨A2 a b⟩)] (N:=5) zE zY ?_
 intro t hF hA
 simp only[Kn,and_true] at hA
 refine zS ?_
 refine V.l0 ?_
 refine zS ?_
 refine V.l0 ?_
 refine zS ?_
 refine V.ret (V.rets rfl (Lv.retG (by simp +contextual (disch:=first|omega|simp only[nx];omega) only[D1,cells_alloc_at,cells_alloc_ne,cells_set_at,cells_set_ne,yres,yres1,yresL,qA,qB,qC,D5,hF,hA,↓reduceIte,qD,qE];rfl) ?_ ?_))
 ·exact zW
 ·rfl
theorem f118_ok (a b : Int) (H : Heap) : Gives Try.prog 118 [.agg ⟨A2 a b⟩] H (I b):=by
 refine F.entryL rfl dg118 do118 de118 rfl (by kernel_rfl) ?_
 simp only[sets]
 refine V.re [(0,.agg ⟨A2 a b⟩)] (N:=5) zE zY ?_
 intro t hF hA
 simp only[Kn,and_true] at hA
 refine zS ?_
 refine V.l0 ?_
 refine zS ?_
 refine V.l0 ?_
 refine zS ?_
 refine V.ret (V.rets rfl (Lv.retG (by simp +contextual (disch:=first|omega|simp only[nx];omega) only[D1,cells_alloc_at,cells_alloc_ne,cells_set_at,cells_set_ne,yres,yres1,yresL,qA,qB,qC,D5,hF,hA,↓reduceIte,qD,qE];rfl) ?_ ?_))
 ·exact zW
 ·rfl
theorem f111_fv (n : Int) (X : Heap) : FV Try.prog (fn 111) [I n] X (fun w X'=>w=.bool (decide (0<n))∧Grow X X'):=f111_ok n X
end Go.Xe.TBX
