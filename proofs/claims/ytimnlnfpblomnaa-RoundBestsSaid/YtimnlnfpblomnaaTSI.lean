/- What the functions of the layer round come to: the error of a table. Conditions: none. -/
import Derived.Test.YtimnlnfpblomnaaTSH
noncomputable section
namespace Go.Xe.TRX
open Go Go.Xe Go.Proofs
open Nat renaming reduceLeDiff ->qA, reduceSub ->qB, reduceAdd ->qC, reduceEqDiff ->qD, reduceLT ->qE
open Int renaming reduceNegSucc ->qF, reduceEq ->qG
open Go.Xe.V renaming seq ->sA, block ->sB, scope ->sC, skip ->sD, close ->sE
open Go.Xe renaming pth ->P
open Go.Xe.Rnd
set_option maxRecDepth 100000
set_option maxHeartbeats 3200000
set_option linter.unusedSimpArgs false
def d68 : FCode:=(.seq (.run (.go (.box 33 (tm 0)) (P 1)::
.go (.move (.con (.int .i64 (.ofNat 0)))) (P 2)::
[])) (.seq (.seq (.run (.go (.fieldAddr 1 (tm 1)) (P 3)::
.go (.load1 (tm 3)) (P 4)::
.go (.len 0 (tm 4)) (P 5)::
.go (.bin .eql 3 (tm 5) (.con (.int .i64 (.ofNat 0)))) (P 6)::
[])) (.cond (tm 6) (.seq (.run (.go (.move (.con (.int .i64 (.ofNat 0)))) (P 2)::
[])) .ret) .skip)) (.seq (.run (.go (.fieldAddr 1 (tm 1)) (P 7)::
.go (.load1 (tm 7)) (P 8)::
.go (.indexAddr none 1 (tm 8) (.con (.int .i64 (.ofNat 0)))) (P 9)::
.go (.load1 (tm 9)) (P 10)::
.go (.len 0 (tm 10)) (P 11)::
.go (.move (tm 11)) (P 2)::
[])) .ret)))
theorem de68 : @compF Try.prog (Gl.none Try.prog) Try.f68 1=.mk d68 (mkTT 12) [(P 0)] [.tmp (P 2)]:=by kernel_rfl
theorem dg68 : Try.prog.funcs[68]?=some Try.f68:=Try.func68
theorem do68 : okF Try.prog Try.f68=true:=by kernel_rfl
def d67 : FCode:=(.seq (.run (.go (.move (.con (.bool false))) (P 2)::
[])) (.seq (.run (.go (.move (tm 0)) (P 3)::
.go (.len 0 (tm 3)) (P 4)::
.go (.bin .leq 3 (tm 4) (.con (.int .i64 (.ofNat 4)))) (P 5)::
.go (.move (tm 5)) (P 2)::
[])) .ret))
theorem de67 : @compF Try.prog (Gl.none Try.prog) Try.f67 1=.mk d67 (mkTT 6) [(P 0)] [.tmp (P 2)]:=by kernel_rfl
theorem dg67 : Try.prog.funcs[67]?=some Try.f67:=Try.func67
theorem do67 : okF Try.prog Try.f67=true:=by kernel_rfl
def d66 : FCode:=(.seq (.run (.go (.move (.con (.bool false))) (P 4)::
[])) (.seq (.seq (.run (.go (.move (tm 0)) (P 7)::
.go (.len 0 (tm 7)) (P 8)::
.go (.move (.con (.int .i64 (.ofNat 0)))) (P 9)::
[])) (.block 0 (.loop (.seq (.run (.go (.bin .lss 3 (tm 9) (tm 8)) (P 10)::
[])) (.seq (.cond (tm 10) .skip (.exit 0)) (.seq (.block 1 (.seq (.run (.go (.indexAddr none 1 (tm 7) (tm 9)) (P 11)::
.go (.load1 (tm 11)) (P 12)::
.go (.move (tm 12)) (P 6)::
[])) (.seq (.run (.go (.move (tm 1)) (P 13)::
.go (.move (tm 6)) (P 14)::
.go (.call (tm 13) [tm 14]) (P 15)::
.go (.un .not (tm 15)) (P 16)::
[])) (.cond (tm 16) (.seq (.run (.go (.move (.con (.bool false))) (P 4)::
[])) .ret) .skip)))) (.run (.go (.bin .add 3 (tm 9) (.con (.int .i64 (.ofNat 1)))) (P 17)::
.go (.move (tm 17)) (P 9)::
[])))))))) (.seq (.run (.go (.move (.con (.bool true))) (P 4)::
[])) .ret)))
theorem de66 : @compF Try.prog (Gl.none Try.prog) Try.f66 2=.mk d66 (mkTT 18) [(P 0),(P 1)] [.tmp (P 4)]:=by kernel_rfl
theorem dg66 : Try.prog.funcs[66]?=some Try.f66:=Try.func66
theorem do66 : okF Try.prog Try.f66=true:=by kernel_rfl
def d70 : FCode:=(.seq (.run (.go (.move (.con (.bool false))) (P 4)::
[])) (.seq (.seq (.run (.go (.move (tm 0)) (P 7)::
.go (.len 0 (tm 7)) (P 8)::
.go (.move (.con (.int .i64 (.ofNat 0)))) (P 9)::
[])) (.block 0 (.loop (.seq (.run (.go (.bin .lss 3 (tm 9) (tm 8)) (P 10)::
[])) (.seq (.cond (tm 10) .skip (.exit 0)) (.seq (.block 1 (.seq (.run (.go (.indexAddr none 3 (tm 7) (tm 9)) (P 11)::
.go (.loadN 3 (tm 11)) (P 12)::
.go (.alloc 83 [(.int .i64 (.ofNat 0)),(.int .i64 (.ofNat 0)),(.int .i64 (.ofNat 0))]) (P 6)::
.un (.store 3 (tm 6) (tm 12))::
[])) (.seq (.run (.go (.move (tm 1)) (P 13)::
.go (.loadN 3 (tm 6)) (P 14)::
.go (.call (tm 13) [tm 14]) (P 15)::
.go (.un .not (tm 15)) (P 16)::
[])) (.cond (tm 16) (.seq (.run (.go (.move (.con (.bool false))) (P 4)::
[])) .ret) .skip)))) (.run (.go (.bin .add 3 (tm 9) (.con (.int .i64 (.ofNat 1)))) (P 17)::
.go (.move (tm 17)) (P 9)::
[])))))))) (.seq (.run (.go (.move (.con (.bool true))) (P 4)::
[])) .ret)))
theorem de70 : @compF Try.prog (Gl.none Try.prog) Try.f70 2=.mk d70 (mkTT 18) [(P 0),(P 1)] [.tmp (P 4)]:=by kernel_rfl
theorem dg70 : Try.prog.funcs[70]?=some Try.f70:=Try.func70
theorem do70 : okF Try.prog Try.f70=true:=by kernel_rfl
def d46 : FCode:=(.seq (.run (.go (.box 33 (tm 0)) (P 1)::
.go (.move (.con (.bool false))) (P 2)::
[])) (.seq (.run (.go (.fieldAddr 1 (tm 1)) (P 3)::
.go (.load1 (tm 3)) (P 4)::
.go (.len 0 (tm 4)) (P 5)::
.go (.bin .leq 3 (tm 5) (.con (.int .i64 (.ofNat 5)))) (P 6)::
.go (.move (tm 6)) (P 7)::
.gd (P 7) true (.fieldAddr 2 (tm 1)) (P 8)::
.gd (P 7) true (.load1 (tm 8)) (P 9)::
.gd (P 7) true (.len 0 (tm 9)) (P 10)::
.gd (P 7) true (.bin .leq 3 (tm 10) (.con (.int .i64 (.ofNat 10)))) (P 11)::
.go (.pick (tm 7) (tm 11) (.con (.bool false))) (P 12)::
.go (.move (tm 12)) (P 13)::
.gd (P 13) true (.fieldAddr 1 (tm 1)) (P 14)::
.gd (P 13) true (.load1 (tm 14)) (P 15)::
.gd (P 13) true (.call (.con (.func (.func 66) ⟨[]⟩ ⟨[]⟩)) [(tm 15),(.con (.func (.func 67) ⟨[]⟩ ⟨[]⟩))]) (P 16)::
.go (.pick (tm 13) (tm 16) (.con (.bool false))) (P 17)::
.go (.move (tm 17)) (P 2)::
[])) .ret))
theorem de46 : @compF Try.prog (Gl.none Try.prog) Try.f46 1=.mk d46 (mkTT 18) [(P 0)] [.tmp (P 2)]:=by kernel_rfl
theorem dg46 : Try.prog.funcs[46]?=some Try.f46:=Try.func46
theorem do46 : okF Try.prog Try.f46=true:=by kernel_rfl
def d69 : FCode:=(.seq (.run (.go (.box 33 (tm 0)) (P 2)::
.go (.box 59 (tm 1)) (P 3)::
.go (.move (.con .nilFunc)) (P 4)::
[])) (.seq (.run (.go (.loadN 2 (tm 3)) (P 6)::
.go (.makeFunc 59 [tm 6] []) (P 7)::
.go (.alloc 100 [.nilFunc]) (P 5)::
.un (.store 1 (tm 5) (tm 7))::
[])) (.seq (.run (.go (.makeFunc 81 [] [(tm 2),(tm 5)]) (P 8)::
.go (.move (tm 8)) (P 4)::
[])) .ret)))
theorem de69 : @compF Try.prog (Gl.none Try.prog) Try.f69 2=.mk d69 (mkTT 9) [(P 0),(P 1)] [.tmp (P 4)]:=by kernel_rfl
theorem dg69 : Try.prog.funcs[69]?=some Try.f69:=Try.func69
theorem do69 : okF Try.prog Try.f69=true:=by kernel_rfl
def d81 : FCode:=(.seq (.run (.go (.move (.con (.bool false))) (P 4)::
[])) (.seq (.run (.go (.move (tm 0)) (P 5)::
.go (.len 0 (tm 5)) (P 6)::
.go (.loadN 3 (tm 1)) (P 7)::
.go (.call (.con (.func (.func 68) ⟨[]⟩ ⟨[]⟩)) [tm 7]) (P 8)::
.go (.bin .eql 3 (tm 6) (tm 8)) (P 9)::
.go (.move (tm 9)) (P 10)::
.gd (P 10) true (.move (tm 0)) (P 11)::
.gd (P 10) true (.load1 (tm 2)) (P 12)::
.gd (P 10) true (.call (.con (.func (.func 61) ⟨[]⟩ ⟨[]⟩)) [(tm 11),(tm 12)]) (P 13)::
.go (.pick (tm 10) (tm 13) (.con (.bool false))) (P 14)::
.go (.move (tm 14)) (P 4)::
[])) .ret))
theorem de81 : @compF Try.prog (Gl.none Try.prog) Try.f81 3=.mk d81 (mkTT 15) [(P 0),(P 1),(P 2)] [.tmp (P 4)]:=by kernel_rfl
theorem dg81 : Try.prog.funcs[81]?=some Try.f81:=Try.func81
theorem do81 : okF Try.prog Try.f81=true:=by kernel_rfl
def d71 : FCode:=(.seq (.run (.go (.box 33 (tm 0)) (P 2)::
.go (.box 83 (tm 1)) (P 3)::
.go (.move (.con (.bool false))) (P 4)::
[])) (.seq (.draw 30 (.go (.fieldAddr 0 (tm 3)) (P 5)::
.go (.load1 (tm 5)) (P 6)::
.go (.bin .leq 3 (.con (.int .i64 (.ofNat 0))) (tm 6)) (P 7)::
.go (.move (tm 7)) (P 8)::
.gd (P 8) true (.fieldAddr 0 (tm 3)) (P 9)::
.gd (P 8) true (.load1 (tm 9)) (P 10)::
.gd (P 8) true (.fieldAddr 1 (tm 2)) (P 11)::
.gd (P 8) true (.load1 (tm 11)) (P 12)::
.gd (P 8) true (.len 0 (tm 12)) (P 13)::
.gd (P 8) true (.bin .lss 3 (tm 10) (tm 13)) (P 14)::
.go (.pick (tm 8) (tm 14) (.con (.bool false))) (P 15)::
.go (.move (tm 15)) (P 16)::
.gd (P 16) true (.fieldAddr 1 (tm 3)) (P 17)::
.gd (P 16) true (.load1 (tm 17)) (P 18)::
.gd (P 16) true (.bin .leq 3 (.con (.int .i64 (.ofNat 0))) (tm 18)) (P 19)::
.go (.pick (tm 16) (tm 19) (.con (.bool false))) (P 20)::
.go (.move (tm 20)) (P 21)::
.gd (P 21) true (.fieldAddr 1 (tm 3)) (P 22)::
.gd (P 21) true (.load1 (tm 22)) (P 23)::
.gd (P 21) true (.loadN 3 (tm 2)) (P 24)::
.gd (P 21) true (.call (.con (.func (.func 68) ⟨[]⟩ ⟨[]⟩)) [tm 24]) (P 25)::
.gd (P 21) true (.bin .lss 3 (tm 23) (tm 25)) (P 26)::
.go (.pick (tm 21) (tm 26) (.con (.bool false))) (P 27)::
.go (.move (tm 27)) (P 28)::
.gd (P 28) true (.call (.con (.func (.func 60) ⟨[]⟩ ⟨[]⟩)) []) (P 29)::
.gd (P 28) true (.fieldAddr 2 (tm 3)) (P 30)::
.gd (P 28) true (.load1 (tm 30)) (P 31)::
.gd (P 28) true (.call (.con (.func (.func 59) ⟨[]⟩ ⟨[]⟩)) [(tm 29),(tm 31)]) (P 32)::
.go (.pick (tm 28) (tm 32) (.con (.bool false))) (P 33)::
.go (.move (tm 33)) (P 4)::
[]) [.ok,.ok,.ok,.ok,.ok,.ok,.ok,.ok,.ok,.ok,.ok,.ok,.ok,.ok,.ok,.ok,.ok,.ok,.rd (some ((P 21),true)) (.load1 (tm 22)) (some (P 23)) [21],.ok,.ok,.ok,.ok,.ok,.ok,.ok,.rd (some ((P 28),true)) (.load1 (tm 30)) (some (P 31)) [21],.ok,.ok,.ok]) .ret))
theorem de71 : @compF Try.prog (Gl.none Try.prog) Try.f71 2=.mk d71 (mkTT 34) [(P 0),(P 1)] [.tmp (P 4)]:=by kernel_rfl
theorem dg71 : Try.prog.funcs[71]?=some Try.f71:=Try.func71
theorem do71 : okF Try.prog Try.f71=true:=by kernel_rfl
def cols (T : Tb) : Nat:=(T.C.headD []).length
theorem cols_0 {T : Tb} (hk : 0<T.C.length) : (T.C[0]'hk).length=cols T:=by
 have : T.C.headD []=T.C[0]:=by rw[List.headD_eq_head?_getD,List.head?_eq_getElem?];simp[hk]
 rw[cols,this]
def fits (T : Tb) : Prop:=T.C.length<=5/\T.F.length<=10/\∀ row∈T.C,row.length<=4
instance (T : Tb) : Decidable (fits T):=by unfold fits;infer_instance
def rowOk (n : Nat) (a b : Int) (row : List Int) : Prop:=row.length=n/\∀ v∈row,a<=v/\v<=b
instance (n : Nat) (a b : Int) (row : List Int) : Decidable (rowOk n a b row):=by unfold rowOk;infer_instance
def fixOk (T : Tb) (x : R3) : Prop:=0<=x.1/\x.1<T.C.length/\0<=x.2.1/\x.2.1<cols T/\0<=x.2.2/\x.2.2<=10100
instance (T : Tb) (x : R3) : Decidable (fixOk T x):=by unfold fixOk;infer_instance
def valid (T : Tb) : Prop:=(2<=T.b/\T.b<=100)/\0<cols T/\(∀ row∈T.C,rowOk (cols T) 0 10000 row)/\∀ x∈T.F,fixOk T x
instance (T : Tb) : Decidable (valid T):=by unfold valid;infer_instance
def flt (T : Tb) : Int:=if ¬ fits T then 3 else if ¬ valid T then 1 else 0
theorem flt_0 {T : Tb} : flt T=0↔fits T/\valid T:=by
 unfold flt
 by_cases h1 : fits T
 ·rw[if_neg (λh=>h h1)]
  by_cases h2 : valid T
  ·rw[if_neg (λh=>h h2)];exact⟨λ_=>⟨h1,h2⟩,λ_=>rfl⟩
  ·rw[if_pos h2];exact⟨λh=>by omega,λh=>absurd h.2 h2⟩
 ·rw[if_pos h1];exact⟨λh=>by omega,λh=>absurd h.1 h1⟩
theorem f68_ok {H : Heap} {c f : Value} {T : Tb} (h : TV H c f T) : Gives Try.prog 68 [.agg ⟨[I T.b,c,f]⟩] H (I (cols T)):=by
 have hl : ∀ X,ylen 0 X c=some (I T.C.length):=h.c.len
 refine F.entryL rfl dg68 do68 de68 rfl (by kernel_rfl) ?_
 simp only[sets]
 refine V.re [(0,.agg ⟨[I T.b,c,f]⟩)] (N:=12) zE zY ?_
 intro t hF hA
 simp only[Kn,and_true] at hA
 refine zS ?_
 refine V.l0 ?_
 refine V.heap (λX=>Grow H X/\Bx X H.next [I T.b,c,f] 33) ⟨?_,?_⟩ ?_
 ·exact zW
 ·exact zB
 rintro H1 ⟨g1,b1⟩
 refine zS ?_
 have zf:=aI b1.2<|@hl
 refine V.lz ?_
 refine zS ?_
 refine V.condP zP (λh1=>?_) (λh1=>?_)
 ·refine zS ?_
  refine V.l0 ?_
  refine zS ?_
  refine V.ret (V.rets rfl (Lv.retG (by simp +contextual (disch:=first|omega|simp only[nx];omega) only[D1,cells_alloc_at,cells_alloc_ne,cells_set_at,cells_set_ne,yres,yres1,yresL,qA,qB,qC,D5,hF,hA,↓reduceIte,qD,qE];rfl) ?_ ?_))
  ·exact g1
  ·have : T.C=[]:=List.length_eq_zero_iff.1 (by omega)
   simp[cols,this]
 ·have hk : 0<T.C.length:=by omega
  obtain⟨p,x,hp,hx⟩:=h.c.at ri hk
  obtain⟨hx1,hx2⟩:=hx _ g1
  have hp0 : yindexAddr none 1 c (I 0)=some p:=hp .i64
  have hxl:=hx2.len
  refine zS ?_
  have zf:=aI b1.2<|aI @hp0<|aI @hx1<|@hxl
  refine V.lz ?_
  refine zS ?_
  refine V.ret (V.rets rfl (Lv.retG (by simp +contextual (disch:=first|omega|simp only[nx];omega) only[D1,cells_alloc_at,cells_alloc_ne,cells_set_at,cells_set_ne,yres,yres1,yresL,qA,qB,qC,D5,hF,hA,↓reduceIte,qD,qE];rfl) ?_ ?_))
  ·exact g1
  ·rw[cols_0 hk]
theorem f67_ok {H : Heap} {y : Value} {l : List Int} (h : RI H y l) : Gives Try.prog 67 [y] H (.bool (decide (l.length<=4))):=by
 have hl:=h.len
 refine F.entryL rfl dg67 do67 de67 rfl (by kernel_rfl) ?_
 simp only[sets]
 refine V.re [(0,y)] (N:=6) zE zY ?_
 intro t hF hA
 simp only[Kn,and_true] at hA
 refine zS ?_
 refine V.l0 ?_
 refine zS ?_
 have zf:=@hl
 refine V.lz ?_
 refine zS ?_
 refine V.ret (V.rets rfl (Lv.retG (by simp +contextual (disch:=first|omega|simp only[nx];omega) only[D1,cells_alloc_at,cells_alloc_ne,cells_set_at,cells_set_ne,yres,yres1,yresL,qA,qB,qC,D5,hF,hA,↓reduceIte,qD,qE];rfl) ?_ ?_))
 ·exact .refl _
 ·congr 1
  rw[decide_eq_decide];omega
theorem f67_fv {H : Heap} {y : Value} {l : List Int} (h : RI H y l) : FV Try.prog (.func (.func 67) ⟨[]⟩ ⟨[]⟩) [y] H (λv X'=>v=.bool (decide (l.length<=4))/\Grow H X'):=f67_ok h
theorem f66_ok {H : Heap} {x fv : Value} {L : List (List Int)} {Pr : List Int->Prop} [DecidablePred Pr] (h : Nest RI H x L) (hn : L.length<=1048576) (hc : ∀ X y l,l∈L->Grow H X->RI X y l->FV Try.prog fv [y] X (λv X'=>v=.bool (decide (Pr l))/\Grow X X')) : Gives Try.prog 66 [x,fv] H (.bool (decide (∀ l∈L,Pr l))):=by
 have hl:=h.len
 refine F.entryL rfl dg66 do66 de66 rfl (by kernel_rfl) ?_
 simp only[sets]
 refine V.re [(0,x),(1,fv)] (N:=18) zE zY ?_
 intro t hF hA
 simp only[Kn,and_true] at hA
 refine zS ?_
 refine V.l0 ?_
 refine zS ?_
 have zf:=@hl
 refine V.lz ?_
 refine zS ?_
 refine V.loop (λz t m X=>∃ (k : Nat),k<=L.length/\z=L.length-k/\m=[]/\Grow H X/\(∀ v∈L.take k,Pr v)/\Full 18 t/\Kn [(0,x),(1,fv),(7,x),(8,I L.length),(9,I k)] t) L.length ?_ ?_
 ·exact⟨0,by omega,by omega,rfl,.refl _,by simp,zF,zK⟩
 clear hF hA
 rintro z t m X ⟨k,hk,rfl,rfl,hg,hall,hF,hA⟩
 simp only[Kn,and_true] at hA
 refine zS ?_
 refine V.l0 ?_
 refine zS ?_
 refine V.condP zP (λhlt=>?_) (λhlt=>?_)
 ·have hlt' : k<L.length:=by omega
  obtain⟨p,y,hp,hx⟩:=h.at ri hlt'
  obtain⟨hx1,hx2⟩:=hx X hg
  have hpk:=hp .i64
  refine zS ?_
  have zf:=aI @hpk<|@hx1
  refine V.lz ?_
  refine zS ?_
  refine V.run ?_
  refine VI.s0 2 ?_
  simp only[ds]
  refine VI.callV (y:=fv) zA (by simp only[List.map_cons,List.map_nil,D6,D5,hF,hA,↓reduceIte,qD,qE];exact hc X y _ (List.getElem_mem hlt') hg hx2) (λv X2 hv=>?_)
  obtain⟨rfl,g2⟩:=hv
  refine VI.l0 ?_
  refine zS ?_
  refine V.condP zP (λhb=>?_) (λhb=>?_)
  ·refine zS ?_
   refine V.l0 ?_
   refine zS ?_
   refine V.ret (V.rets rfl (Or.inr ⟨by simp,V.rets rfl (Lv.retG (by simp +contextual (disch:=first|omega|simp only[nx];omega) only[D1,cells_alloc_at,cells_alloc_ne,cells_set_at,cells_set_ne,yres,yres1,yresL,qA,qB,qC,D5,hF,hA,↓reduceIte,qD,qE];rfl) ?_ ?_)⟩))
   ·exact hg.trans g2
   ·congr 1
    exact (decide_eq_false (λhh=>hb (hh _ (List.getElem_mem hlt')))).symm
  ·refine zS ?_
   refine V.l0 ?_
   refine V.nil (Or.inl ⟨rfl,L.length-(k+1),by omega,?_⟩)
   refine⟨k+1,hlt',rfl,rfl,hg.trans g2,?_,zF,zK⟩
   intro v hv
   rw[tk1 hlt'] at hv
   rcases List.mem_append.1 hv with hv|hv
   ·exact hall v hv
   ·rw[List.mem_singleton.1 hv];exact Decidable.not_not.1 hb
 ·obtain rfl : k=L.length:=by omega
  rw[List.take_length] at hall
  refine V.exit ?_
  refine zX ?_
  refine V.nil (Or.inr ⟨by simp,?_⟩)
  refine zX ?_
  refine zS ?_
  refine V.l0 ?_
  refine zS ?_
  refine V.ret (V.rets rfl (Lv.retG (by simp +contextual (disch:=first|omega|simp only[nx];omega) only[D1,cells_alloc_at,cells_alloc_ne,cells_set_at,cells_set_ne,yres,yres1,yresL,qA,qB,qC,D5,hF,hA,↓reduceIte,qD,qE];rfl) ?_ ?_))
  ·exact hg
  ·rw[decide_eq_true hall]
theorem f70_ok {H : Heap} {c x fv : Value} {T : Tb} {Pr : R3->Prop} [DecidablePred Pr] (h : TV H c x T) (hn : T.F.length<=1048576) (hc : ∀ X l,Grow H X->FV Try.prog fv [.agg ⟨r3 l⟩] X (λv X'=>v=.bool (decide (Pr l))/\Grow X X')) : Gives Try.prog 70 [x,fv] H (.bool (decide (∀ l∈T.F,Pr l))):=by
 have hl:=h.fl
 refine F.entryL rfl dg70 do70 de70 rfl (by kernel_rfl) ?_
 simp only[sets]
 refine V.re [(0,x),(1,fv)] (N:=18) zE zY ?_
 intro t hF hA
 simp only[Kn,and_true] at hA
 refine zS ?_
 refine V.l0 ?_
 refine zS ?_
 have zf:=@hl
 refine V.lz ?_
 refine zS ?_
 refine V.loop (λz t m X=>∃ (k : Nat),k<=T.F.length/\z=T.F.length-k/\m=[]/\Grow H X/\(∀ v∈T.F.take k,Pr v)/\Full 18 t/\Kn [(0,x),(1,fv),(7,x),(8,I T.F.length),(9,I k)] t) T.F.length ?_ ?_
 ·exact⟨0,by omega,by omega,rfl,.refl _,by simp,zF,zK⟩
 clear hF hA
 rintro z t m X ⟨k,hk,rfl,rfl,hg,hall,hF,hA⟩
 simp only[Kn,and_true] at hA
 refine zS ?_
 refine V.l0 ?_
 refine zS ?_
 refine V.condP zP (λhlt=>?_) (λhlt=>?_)
 ·have hlt' : k<T.F.length:=by omega
  obtain⟨p,hp,hx⟩:=h.fat hlt'
  have hx1:=hx X hg
  refine zS ?_
  have zf:=aI @hp<|@hx1
  refine V.lz ?_
  refine V.heap (λY=>Grow X Y/\Bx Y X.next (r3 T.F[k]) 83) ⟨?_,?_⟩ ?_
  ·exact zW
  ·exact zB
  rintro Y ⟨gy,by1⟩
  have gHY:=hg.trans gy
  refine zS ?_
  refine V.run ?_
  have zf:=by1.2
  refine VI.sz 2 ?_
  simp only[ds]
  refine VI.callV (y:=fv) zA (by simp only[List.map_cons,List.map_nil,D6,D5,hF,hA,↓reduceIte,qD,qE];exact hc Y T.F[k] gHY) (λv X2 hv=>?_)
  obtain⟨rfl,g2⟩:=hv
  refine VI.l0 ?_
  refine zS ?_
  refine V.condP zP (λhb=>?_) (λhb=>?_)
  ·refine zS ?_
   refine V.l0 ?_
   refine zS ?_
   refine V.ret (V.rets rfl (Or.inr ⟨by simp,V.rets rfl (Lv.retG (by simp +contextual (disch:=first|omega|simp only[nx];omega) only[D1,cells_alloc_at,cells_alloc_ne,cells_set_at,cells_set_ne,yres,yres1,yresL,qA,qB,qC,D5,hF,hA,↓reduceIte,qD,qE];rfl) ?_ ?_)⟩))
   ·exact gHY.trans g2
   ·congr 1
    exact (decide_eq_false (λhh=>hb (hh _ (List.getElem_mem hlt')))).symm
  ·refine zS ?_
   refine V.l0 ?_
   refine V.nil (Or.inl ⟨rfl,T.F.length-(k+1),by omega,?_⟩)
   refine⟨k+1,hlt',rfl,rfl,gHY.trans g2,?_,zF,zK⟩
   intro v hv
   rw[tk1 hlt'] at hv
   rcases List.mem_append.1 hv with hv|hv
   ·exact hall v hv
   ·rw[List.mem_singleton.1 hv];exact Decidable.not_not.1 hb
 ·obtain rfl : k=T.F.length:=by omega
  rw[List.take_length] at hall
  refine V.exit ?_
  refine zX ?_
  refine V.nil (Or.inr ⟨by simp,?_⟩)
  refine zX ?_
  refine zS ?_
  refine V.l0 ?_
  refine zS ?_
  refine V.ret (V.rets rfl (Lv.retG (by simp +contextual (disch:=first|omega|simp only[nx];omega) only[D1,cells_alloc_at,cells_alloc_ne,cells_set_at,cells_set_ne,yres,yres1,yresL,qA,qB,qC,D5,hF,hA,↓reduceIte,qD,qE];rfl) ?_ ?_))
  ·exact hg
  ·rw[decide_eq_true hall]
theorem f46_ok {H : Heap} {c f : Value} {T : Tb} (h : TV H c f T) (hs : sh T) : Gives Try.prog 46 [.agg ⟨[I T.b,c,f]⟩] H (.bool (decide (fits T))):=by
 have hl : ∀ X,ylen 0 X c=some (I T.C.length):=h.c.len
 have hlf:=h.fl
 refine F.entryL rfl dg46 do46 de46 rfl (by kernel_rfl) ?_
 simp only[sets]
 refine V.re [(0,.agg ⟨[I T.b,c,f]⟩)] (N:=18) zE zY ?_
 intro t hF hA
 simp only[Kn,and_true] at hA
 refine zS ?_
 refine V.l0 ?_
 refine V.heap (λX=>Grow H X/\Bx X H.next [I T.b,c,f] 33) ⟨?_,?_⟩ ?_
 ·exact zW
 ·exact zB
 rintro H1 ⟨g1,b1⟩
 refine zS ?_
 refine V.run ?_
 have zf:=aI b1.2<|aI @hl<|@hlf
 refine VI.sz 9 ?_
 simp only[ds]
 have zf:=aI b1.2<|aI @hl<|@hlf
 refine VI.sz 4 ?_
 simp only[ds]
 first|refine VI.callGt zG (λhc=>zI) (λhc=>f66_ok (Pr:=λl=>l.length<=4) (h.c.grow ri g1) hs.1 (λX y l _ gx hy=>f67_fv hy)) (λhc=>zI) (λH2 g2=>?_)|refine VI.callGf zG (λhc=>zI) (λhc=>f66_ok (Pr:=λl=>l.length<=4) (h.c.grow ri g1) hs.1 (λX y l _ gx hy=>f67_fv hy)) (λhc=>zI) (λH2 g2=>?_)
 refine VI.l0 ?_
 refine zS ?_
 refine V.ret (V.rets rfl (Lv.retG (by simp +contextual (disch:=first|omega|simp only[nx];omega) only[D1,cells_alloc_at,cells_alloc_ne,cells_set_at,cells_set_ne,yres,yres1,yresL,qA,qB,qC,D5,hF,hA,↓reduceIte,qD,qE];rfl) ?_ ?_))
 ·exact g1.trans g2
 ·congr 1
  rw[decide_eq_decide]
  unfold fits
  constructor
  ·intro hh;exact⟨by omega,by omega,hh.2⟩
  ·rintro⟨q1,q2,q3⟩;exact⟨⟨by omega,by omega⟩,q3⟩
structure RowF (X : Heap) (p q : Nat) (c f : Value) (T : Tb) (lo hi : Int) : Prop where
 t : Bx X p [I T.b,c,f] 33
 r : Bx X q [.func (.func 59) ⟨[.agg ⟨A2 lo hi⟩]⟩ ⟨[]⟩] 100
 v : TV X c f T
theorem RowF.grow {A B : Heap} (g : Grow A B) {p q : Nat} {c f : Value} {T : Tb} {lo hi : Int} (h : RowF A p q c f T lo hi) : RowF B p q c f T lo hi:=⟨h.t.grow g,h.r.grow g,h.v.grow g⟩
theorem f69_ok {H : Heap} {c f : Value} {T : Tb} (lo hi : Int) (h : TV H c f T) : F Try.prog 69 ⟨[.agg ⟨[I T.b,c,f]⟩,.agg ⟨A2 lo hi⟩]⟩ H (λw X=>Grow H X/\∃ p q,w=.func (.func 81) ⟨[]⟩ ⟨[PT p,PT q]⟩/\RowF X p q c f T lo hi):=by
 refine F.entryL rfl dg69 do69 de69 rfl (by kernel_rfl) ?_
 simp only[sets]
 refine V.re [(0,.agg ⟨[I T.b,c,f]⟩),(1,.agg ⟨A2 lo hi⟩)] (N:=9) zE zY ?_
 intro t hF hA
 simp only[Kn,and_true] at hA
 refine zS ?_
 refine V.l0 ?_
 refine V.heap (λX=>Grow H X/\Bx X H.next [I T.b,c,f] 33/\Bx X (H.next+1) (A2 lo hi) 59) ⟨?_,?_,?_⟩ ?_
 ·exact zW
 ·exact zB
 ·exact zB
 rintro H1 ⟨g1,b1,c1⟩
 refine zS ?_
 have zf:=c1.2
 refine V.lz ?_
 refine V.heap (λX=>Grow H1 X/\Bx X H1.next [.func (.func 59) ⟨[.agg ⟨A2 lo hi⟩]⟩ ⟨[]⟩] 100) ⟨?_,?_⟩ ?_
 ·exact zW
 ·exact zB
 rintro H2 ⟨g2,d2⟩
 refine zS ?_
 refine V.l0 ?_
 refine zS ?_
 refine V.ret (V.rets rfl (Lv.retF (by simp +contextual (disch:=first|omega|simp only[nx];omega) only[D1,cells_alloc_at,cells_alloc_ne,cells_set_at,cells_set_ne,yres,yres1,yresL,qA,qB,qC,D5,hF,hA,↓reduceIte,qD,qE];rfl) ?_))
 exact⟨g1.trans g2,_,_,rfl,b1.grow g2,d2,h.grow (g1.trans g2)⟩
theorem f81_ok {X : Heap} {p q : Nat} {c f y : Value} {T : Tb} {lo hi : Int} {l : List Int} (h : RowF X p q c f T lo hi) (hy : RI X y l) (hn : l.length<=1048576) : Gives Try.prog 81 [y,PT p,PT q] X (.bool (decide (rowOk (cols T) lo hi l))):=by
 have hl:=hy.len
 refine F.entryL rfl dg81 do81 de81 rfl (by kernel_rfl) ?_
 simp only[sets]
 refine V.re [(0,y),(1,PT p),(2,PT q)] (N:=15) zE zY ?_
 intro t hF hA
 simp only[Kn,and_true] at hA
 refine zS ?_
 refine V.l0 ?_
 refine zS ?_
 refine V.run ?_
 have zf:=aI @hl<|h.t.2
 refine VI.sz 3 ?_
 simp only[ds]
 refine VI.callA rfl (f68_ok h.v) zA (λH2 g2=>?_)
 have h2:=h.grow g2
 have zf:=h2.r.2
 refine VI.sz 4 ?_
 simp only[ds]
 first|refine VI.callGt zG (λhc=>zI) (λhc=>f61_ok lo hi ⟨ri.grow g2 hy⟩ hn) (λhc=>zI) (λH3 g3=>?_)|refine VI.callGf zG (λhc=>zI) (λhc=>f61_ok lo hi ⟨ri.grow g2 hy⟩ hn) (λhc=>zI) (λH3 g3=>?_)
 refine VI.l0 ?_
 refine zS ?_
 refine V.ret (V.rets rfl (Lv.retG (by simp +contextual (disch:=first|omega|simp only[nx];omega) only[D1,cells_alloc_at,cells_alloc_ne,cells_set_at,cells_set_ne,yres,yres1,yresL,qA,qB,qC,D5,hF,hA,↓reduceIte,qD,qE];rfl) ?_ ?_))
 ·exact g2.trans g3
 ·congr 1
  rw[decide_eq_decide]
  unfold rowOk
  constructor
  ·rintro⟨a,b⟩;exact⟨by omega,b⟩
  ·rintro⟨a,b⟩;exact⟨by omega,b⟩
theorem f81_fv {X : Heap} {p q : Nat} {c f y : Value} {T : Tb} {lo hi : Int} {l : List Int} (h : RowF X p q c f T lo hi) (hy : RI X y l) (hn : l.length<=1048576) : FV Try.prog (.func (.func 81) ⟨[]⟩ ⟨[PT p,PT q]⟩) [y] X (λv X'=>v=.bool (decide (rowOk (cols T) lo hi l))/\Grow X X'):=f81_ok h hy hn
theorem f71_ok {H : Heap} {c f : Value} {T : Tb} (h : TV H c f T) (x : R3) : Gives Try.prog 71 [.agg ⟨[I T.b,c,f]⟩,.agg ⟨r3 x⟩] H (.bool (decide (fixOk T x))):=by
 obtain⟨x,y,z⟩:=x
 have hl : ∀ X,ylen 0 X c=some (I T.C.length):=h.c.len
 refine F.entryL rfl dg71 do71 de71 rfl (by kernel_rfl) ?_
 simp only[sets]
 refine V.re [(0,.agg ⟨[I T.b,c,f]⟩),(1,.agg ⟨[I x,I y,I z]⟩)] (N:=34) zE zY ?_
 intro t hF hA
 simp only[Kn,and_true] at hA
 refine zS ?_
 refine V.l0 ?_
 refine V.heap (λX=>Grow H X/\Bx X H.next [I T.b,c,f] 33/\Bx X (H.next+1) [I x,I y,I z] 83) ⟨?_,?_,?_⟩ ?_
 ·exact zW
 ·exact zB
 ·exact zB
 rintro H1 ⟨g1,b1,c1⟩
 have h1:=h.grow g1
 refine zS ?_
 refine V.draw ?_
 have zf:=aI b1.2<|aI c1.2<|@hl
 refine VD.nz 9 ?_
 simp only[ds]
 have zf:=aI b1.2<|aI c1.2<|@hl
 refine VD.nz 9 ?_
 simp only[ds]
 have zf:=aI b1.2<|aI c1.2<|@hl
 refine VD.nz 2 ?_
 simp only[ds]
 first|refine VD.callGt zG (λhc=>zI) (λhc=>f68_ok h1) (λhc=>zI) (λH2 g2=>?_)|refine VD.callGf zG (λhc=>zI) (λhc=>f68_ok h1) (λhc=>zI) (λH2 g2=>?_)
 have b2:=b1.grow g2
 have c2:=c1.grow g2
 refine VD.n0 3 ?_
 simp only[ds]
 first|refine VD.callGt zG (λhc=>zI) (λhc=>f60_ok _) (λhc=>zI) (λH3 g3=>?_)|refine VD.callGf zG (λhc=>zI) (λhc=>f60_ok _) (λhc=>zI) (λH3 g3=>?_)
 have c3:=c2.grow g3
 have zf:=c3.2
 refine VD.nz 2 ?_
 simp only[ds]
 first|refine VD.callGt zG (λhc=>zI) (λhc=>f59_ok 0 10100 z _) (λhc=>zI) (λH4 g4=>?_)|refine VD.callGf zG (λhc=>zI) (λhc=>f59_ok 0 10100 z _) (λhc=>zI) (λH4 g4=>?_)
 have c4:=c3.grow g4
 refine VD.d0 ?_ ?_ rfl ?_
 ·have m2:=g2.1
  have m3:=g3.1
  have m4:=g4.1
  exact zM
 ·simp only[dcAll,dcOk,wantD,List.cons_append,List.nil_append,true_and,and_true]
  exact⟨λhw q hq=>by simp only[wantD,D5,hF,hA,↓reduceIte,qD,qE,beq_iff_eq,decide_eq_false_iff_not,decide_eq_true_eq] at hw;simp only[List.mem_cons,List.not_mem_nil,or_false] at hq;(repeat (rcases hq with rfl|hq;exact⟨_,_,_,rfl,(by simp +contextual (disch:=first|omega|simp only[nx];omega) only[D4,qF,qG,qA,qB,qC,D5,hF,hA,↓reduceIte,qD,qE,if_true,not_false_eq_true,not_true_eq_false,hw,c1.2,c2.2,c3.2,c4.2];with_reducible rfl),λp hp=>by cases hp;simp only[D5,hF,hA,↓reduceIte,qD,qE,hw,if_true,not_false_eq_true];first|exact vEq_An|(simp[vEq,vEq0,all2];done)|assumption⟩));(try (subst hq;exact⟨_,_,_,rfl,(by simp +contextual (disch:=first|omega|simp only[nx];omega) only[D4,qF,qG,qA,qB,qC,D5,hF,hA,↓reduceIte,qD,qE,if_true,not_false_eq_true,not_true_eq_false,hw,c1.2,c2.2,c3.2,c4.2];with_reducible rfl),λp hp=>by cases hp;simp only[D5,hF,hA,↓reduceIte,qD,qE,hw,if_true,not_false_eq_true];first|exact vEq_An|(simp[vEq,vEq0,all2];done)|assumption⟩)),λhw q hq=>by simp only[wantD,D5,hF,hA,↓reduceIte,qD,qE,beq_iff_eq,decide_eq_false_iff_not,decide_eq_true_eq] at hw;simp only[List.mem_cons,List.not_mem_nil,or_false] at hq;(repeat (rcases hq with rfl|hq;exact⟨_,_,_,rfl,(by simp +contextual (disch:=first|omega|simp only[nx];omega) only[D4,qF,qG,qA,qB,qC,D5,hF,hA,↓reduceIte,qD,qE,if_true,not_false_eq_true,not_true_eq_false,hw,c1.2,c2.2,c3.2,c4.2];with_reducible rfl),λp hp=>by cases hp;simp only[D5,hF,hA,↓reduceIte,qD,qE,hw,if_true,not_false_eq_true];first|exact vEq_An|(simp[vEq,vEq0,all2];done)|assumption⟩));(try (subst hq;exact⟨_,_,_,rfl,(by simp +contextual (disch:=first|omega|simp only[nx];omega) only[D4,qF,qG,qA,qB,qC,D5,hF,hA,↓reduceIte,qD,qE,if_true,not_false_eq_true,not_true_eq_false,hw,c1.2,c2.2,c3.2,c4.2];with_reducible rfl),λp hp=>by cases hp;simp only[D5,hF,hA,↓reduceIte,qD,qE,hw,if_true,not_false_eq_true];first|exact vEq_An|(simp[vEq,vEq0,all2];done)|assumption⟩))⟩
 refine zS ?_
 refine V.ret (V.rets rfl (Lv.retG (by simp +contextual (disch:=first|omega|simp only[nx];omega) only[D1,cells_alloc_at,cells_alloc_ne,cells_set_at,cells_set_ne,yres,yres1,yresL,qA,qB,qC,D5,hF,hA,↓reduceIte,qD,qE];rfl) ?_ ?_))
 ·exact ((g1.trans g2).trans g3).trans g4
 ·congr 1
  rw[decide_eq_decide]
  unfold fixOk
  dsimp only
  constructor<;>intro hh<;>omega
theorem f71_fv {X : Heap} {c f : Value} {T : Tb} (h : TV X c f T) (x : R3) : FV Try.prog (.func (.func 71) ⟨[.agg ⟨[I T.b,c,f]⟩]⟩ ⟨[]⟩) [.agg ⟨r3 x⟩] X (λv X'=>v=.bool (decide (fixOk T x))/\Grow X X'):=f71_ok h x
end Go.Xe.TRX
end
