/- What the functions of the layer round come to: neighbours. Conditions: none. -/
import Derived.Test.YtimnlnfpblomnaaTSK
noncomputable section
namespace Go.Xe.TRX
open Go Go.Xe Go.Proofs
open Nat renaming reduceLeDiff ->qA, reduceSub ->qB, reduceAdd ->qC, reduceEqDiff ->qD, reduceLT ->qE
open Int renaming reduceNegSucc ->qF, reduceEq ->qG
open Go.Xe.V renaming seq ->sA, block ->sB, scope ->sC, skip ->sD, close ->sE
open Go.Xe renaming pth ->P
open Go.Xe.Rnd
set_option maxRecDepth 100000
set_option maxHeartbeats 3200000
set_option linter.unusedSimpArgs false
def d82 : FCode:=(.seq (.run (.go (.box 33 (tm 0)) (P 2)::
.go (.move (.con (.int .i64 (.ofNat 0)))) (P 4)::
[])) (.seq (.run (.go (.move (tm 1)) (P 5)::
.go (.move (tm 1)) (P 6)::
.go (.fieldAddr 0 (tm 2)) (P 7)::
.go (.load1 (tm 7)) (P 8)::
.go (.bin .rem 3 (tm 6) (tm 8)) (P 9)::
.go (.bin .sub 3 (tm 5) (tm 9)) (P 10)::
.go (.move (tm 10)) (P 4)::
[])) .ret))
theorem de82 : @compF Try.prog (Gl.none Try.prog) Try.f82 2=.mk d82 (mkTT 11) [(P 0),(P 1)] [.tmp (P 4)]:=by kernel_rfl
theorem dg82 : Try.prog.funcs[82]?=some Try.f82:=Try.func82
theorem do82 : okF Try.prog Try.f82=true:=by kernel_rfl
def d83 : FCode:=(.seq (.run (.go (.box 33 (tm 0)) (P 2)::
.go (.move (.con (.int .i64 (.ofNat 0)))) (P 4)::
[])) (.seq (.run (.go (.loadN 3 (tm 2)) (P 5)::
.go (.move (tm 1)) (P 6)::
.go (.fieldAddr 0 (tm 2)) (P 7)::
.go (.load1 (tm 7)) (P 8)::
.go (.bin .add 3 (tm 6) (tm 8)) (P 9)::
.go (.bin .sub 3 (tm 9) (.con (.int .i64 (.ofNat 1)))) (P 10)::
.go (.call (.con (.func (.func 82) ⟨[]⟩ ⟨[]⟩)) [(tm 5),(tm 10)]) (P 11)::
.go (.move (tm 11)) (P 4)::
[])) .ret))
theorem de83 : @compF Try.prog (Gl.none Try.prog) Try.f83 2=.mk d83 (mkTT 12) [(P 0),(P 1)] [.tmp (P 4)]:=by kernel_rfl
theorem dg83 : Try.prog.funcs[83]?=some Try.f83:=Try.func83
theorem do83 : okF Try.prog Try.f83=true:=by kernel_rfl
def d93 : FCode:=(.seq (.run (.go (.move (.con (.slice none 0 0))) (P 2)::
[])) (.seq (.seq (.run (.go (.move (tm 0)) (P 6)::
.go (.len 0 (tm 6)) (P 7)::
.go (.bin .lss 3 (tm 7) (.con (.int .i64 (.ofNat 2)))) (P 8)::
[])) (.cond (tm 8) (.seq (.run (.go (.move (tm 0)) (P 9)::
.go (.move (tm 9)) (P 2)::
[])) .ret) .skip)) (.seq (.seq (.run (.go (.move (.con (.int .i64 (.ofNat 1)))) (P 3)::
[])) (.block 0 (.loop (.seq (.seq (.run (.go (.move (tm 3)) (P 10)::
.go (.move (tm 0)) (P 11)::
.go (.len 0 (tm 11)) (P 12)::
.go (.bin .lss 3 (tm 10) (tm 12)) (P 13)::
[])) (.cond (tm 13) .skip (.exit 0))) (.seq (.block 1 (.seq (.draw 10 (.go (.move (tm 0)) (P 16)::
.go (.move (tm 3)) (P 17)::
.go (.indexAddr none 1 (tm 16) (tm 17)) (P 18)::
.go (.load1 (tm 18)) (P 19)::
.go (.move (tm 0)) (P 20)::
.go (.move (tm 3)) (P 21)::
.go (.bin .sub 3 (tm 21) (.con (.int .i64 (.ofNat 1)))) (P 22)::
.go (.indexAddr none 1 (tm 20) (tm 22)) (P 23)::
.go (.load1 (tm 23)) (P 24)::
.go (.bin .eql 3 (tm 19) (tm 24)) (P 25)::
[]) [.ok,.ok,.ok,.ok,.ok,.ok,.ok,.ok,.ok,.ok]) (.cond (tm 25) (.seq (.run (.go (.move (tm 0)) (P 26)::
.go (.move (tm 3)) (P 27)::
.go (.slice 3 1 (tm 26) (some (tm 27)) none) (P 28)::
.go (.move (tm 28)) (P 4)::
[])) (.seq (.seq (.run (.go (.move (.con (.int .i64 (.ofNat 1)))) (P 5)::
[])) (.block 2 (.loop (.seq (.seq (.run (.go (.move (tm 5)) (P 29)::
.go (.move (tm 4)) (P 30)::
.go (.len 0 (tm 30)) (P 31)::
.go (.bin .lss 3 (tm 29) (tm 31)) (P 32)::
[])) (.cond (tm 32) .skip (.exit 2))) (.seq (.block 3 (.seq (.draw 10 (.go (.move (tm 4)) (P 35)::
.go (.move (tm 5)) (P 36)::
.go (.indexAddr none 1 (tm 35) (tm 36)) (P 37)::
.go (.load1 (tm 37)) (P 38)::
.go (.move (tm 4)) (P 39)::
.go (.move (tm 5)) (P 40)::
.go (.bin .sub 3 (tm 40) (.con (.int .i64 (.ofNat 1)))) (P 41)::
.go (.indexAddr none 1 (tm 39) (tm 41)) (P 42)::
.go (.load1 (tm 42)) (P 43)::
.go (.bin .neq 3 (tm 38) (tm 43)) (P 44)::
[]) [.ok,.ok,.ok,.ok,.ok,.ok,.ok,.ok,.ok,.ok]) (.cond (tm 44) (.seq (.run (.go (.move (tm 0)) (P 45)::
.go (.move (tm 3)) (P 46)::
.go (.move (tm 4)) (P 47)::
.go (.move (tm 5)) (P 48)::
.go (.indexAddr none 1 (tm 47) (tm 48)) (P 49)::
.go (.load1 (tm 49)) (P 50)::
.go (.indexAddr none 1 (tm 45) (tm 46)) (P 51)::
.un (.store 1 (tm 51) (tm 50))::
[])) (.run (.go (.move (tm 3)) (P 52)::
.go (.bin .add 3 (tm 52) (.con (.int .i64 (.ofNat 1)))) (P 53)::
.go (.move (tm 53)) (P 3)::
[]))) .skip))) (.run (.go (.move (tm 5)) (P 33)::
.go (.bin .add 3 (tm 33) (.con (.int .i64 (.ofNat 1)))) (P 34)::
.go (.move (tm 34)) (P 5)::
[]))))))) (.seq (.run (.go (.move (tm 0)) (P 54)::
.go (.move (tm 3)) (P 55)::
.go (.slice 3 1 (tm 54) (some (tm 55)) none) (P 56)::
.un (.clear 1 [(.int .i64 (.ofNat 0))] (tm 56))::
[])) (.seq (.run (.go (.move (tm 0)) (P 57)::
.go (.move (tm 3)) (P 58)::
.go (.slice 3 1 (tm 57) none (some (tm 58))) (P 59)::
.go (.move (tm 59)) (P 2)::
[])) .ret)))) .skip))) (.run (.go (.move (tm 3)) (P 14)::
.go (.bin .add 3 (tm 14) (.con (.int .i64 (.ofNat 1)))) (P 15)::
.go (.move (tm 15)) (P 3)::
[]))))))) (.seq (.run (.go (.move (tm 0)) (P 60)::
.go (.move (tm 60)) (P 2)::
[])) .ret))))
theorem de93 : @compF Try.prog (Gl.none Try.prog) Try.f93 1=.mk d93 (mkTT 61) [(P 0)] [.tmp (P 2)]:=by kernel_rfl
theorem dg93 : Try.prog.funcs[93]?=some Try.f93:=Try.func93
theorem do93 : okF Try.prog Try.f93=true:=by kernel_rfl
def d85 : FCode:=(.seq (.run (.go (.box 89 (tm 0)) (P 2)::
.go (.move (.con (.slice none 0 0))) (P 4)::
[])) (.seq (.run (.go (.move (.con (.slice none 0 0))) (P 5)::
[])) (.seq (.seq (.run (.go (.fieldAddr 3 (tm 2)) (P 8)::
.go (.load1 (tm 8)) (P 9)::
.go (.len 0 (tm 9)) (P 10)::
.go (.move (.con (.int .i64 (.ofNat 0)))) (P 11)::
[])) (.block 0 (.loop (.seq (.run (.go (.bin .lss 3 (tm 11) (tm 10)) (P 12)::
[])) (.seq (.cond (tm 12) .skip (.exit 0)) (.seq (.block 1 (.seq (.run (.go (.indexAddr none 1 (tm 9) (tm 11)) (P 13)::
.go (.loadN 1 (tm 13)) (P 14)::
.go (.alloc 121 [.nilFunc]) (P 7)::
.un (.store 1 (tm 7) (tm 14))::
[])) (.run (.go (.move (tm 5)) (P 15)::
.go (.fieldAddr 0 (tm 7)) (P 16)::
.go (.load1 (tm 16)) (P 17)::
.go (.fieldAddr 0 (tm 2)) (P 18)::
.go (.loadN 3 (tm 18)) (P 19)::
.go (.move (tm 1)) (P 20)::
.go (.call (tm 17) [(tm 19),(tm 20)]) (P 21)::
.go (.buildSlice 3 1 [(.int .i64 (.ofNat 0))] [(0,1,(tm 21))]) (P 22)::
.go (.append 3 1 8 (tm 15) (tm 22)) (P 23)::
.go (.move (tm 23)) (P 5)::
[])))) (.run (.go (.bin .add 3 (tm 11) (.con (.int .i64 (.ofNat 1)))) (P 24)::
.go (.move (tm 24)) (P 11)::
[])))))))) (.seq (.run (.go (.move (tm 5)) (P 25)::
.go (.call (.con (.func (.func 93) ⟨[]⟩ ⟨[]⟩)) [tm 25]) (P 26)::
.go (.move (tm 26)) (P 4)::
[])) .ret))))
theorem de85 : @compF Try.prog (Gl.none Try.prog) Try.f85 2=.mk d85 (mkTT 27) [(P 0),(P 1)] [.tmp (P 4)]:=by kernel_rfl
theorem dg85 : Try.prog.funcs[85]?=some Try.f85:=Try.func85
theorem do85 : okF Try.prog Try.f85=true:=by kernel_rfl
def d75 : FCode:=(.seq (.run (.go (.box 89 (tm 0)) (P 3)::
.go (.move (.con (.bool false))) (P 6)::
[])) (.seq (.run (.go (.loadN 8 (tm 3)) (P 7)::
.go (.move (tm 2)) (P 8)::
.go (.call (.con (.func (.func 85) ⟨[]⟩ ⟨[]⟩)) [(tm 7),(tm 8)]) (P 9)::
.go (.move (tm 1)) (P 10)::
.go (.call (.con (.func (.func 84) ⟨[]⟩ ⟨[]⟩)) [(tm 9),(tm 10)]) (P 11)::
.go (.move (tm 11)) (P 6)::
[])) .ret))
theorem de75 : @compF Try.prog (Gl.none Try.prog) Try.f75 3=.mk d75 (mkTT 12) [(P 0),(P 1),(P 2)] [.tmp (P 6)]:=by kernel_rfl
theorem dg75 : Try.prog.funcs[75]?=some Try.f75:=Try.func75
theorem do75 : okF Try.prog Try.f75=true:=by kernel_rfl
theorem om1 (f : FA->Value) (x : FA) : Option.map f (some x)=some (f x):=rfl
theorem om0 (f : FA->Value) : Option.map f none=none:=rfl
theorem tmb {a b : Int} (ha : 0<=a) (hb : 0<b) : 0<=a.tmod b/\a.tmod b<b:=by
 rw[Int.tmod_eq_emod_of_nonneg ha]
 exact⟨Int.emod_nonneg _ (by omega),Int.emod_lt_of_pos _ hb⟩
def lo (b n : Int) : Int:=n-n.tmod b
def hi (b n : Int) : Int:=lo b (n+b-1)
theorem lo_bd {b n : Int} (hb : 2<=b/\b<=100) (hn : 0<=n/\n<=1000000) : 0<=n.tmod b/\n.tmod b<b/\0<=lo b n/\lo b n<=n:=by
 have h1:=tmb (a:=n) (b:=b) hn.1 (by omega)
 have h2 : n.tmod b<=n:=by
  rw[Int.tmod_eq_emod_of_nonneg hn.1]
  have q1:=Int.emod_add_mul_ediv n b
  have q2 : 0<=b*(n/b):=Int.mul_nonneg (by omega) (Int.ediv_nonneg hn.1 (by omega))
  omega
 unfold lo;omega
theorem f82_ok {H : Heap} {b n : Int} {c f : Value} (hb : 2<=b/\b<=100) (hn : 0<=n/\n<=1000000) : Gives Try.prog 82 [.agg ⟨[I b,c,f]⟩,I n] H (I (lo b n)):=by
 have hb0 : ¬ b=0:=by omega
 obtain⟨h1,h2,h3,h4⟩:=lo_bd hb hn
 refine F.entryL rfl dg82 do82 de82 rfl (by kernel_rfl) ?_
 simp only[sets]
 refine V.re [(0,.agg ⟨[I b,c,f]⟩),(1,I n)] (N:=11) zE zY ?_
 intro t hF hA
 simp only[Kn,and_true] at hA
 refine zS ?_
 refine V.l0 ?_
 refine V.heap (λX=>Grow H X/\Bx X H.next [I b,c,f] 33) ⟨?_,?_⟩ ?_
 ·exact zW
 ·exact zB
 rintro H1 ⟨g1,b1⟩
 refine zS ?_
 have zf:=aI b1.2<|@hb0
 refine V.lz ?_
 refine zS ?_
 refine V.ret (V.rets rfl (Lv.retG (by simp +contextual (disch:=first|omega|simp only[nx];omega) only[D1,cells_alloc_at,cells_alloc_ne,cells_set_at,cells_set_ne,yres,yres1,yresL,qA,qB,qC,D5,hF,hA,↓reduceIte,qD,qE];rfl) ?_ ?_))
 ·exact g1
 ·rfl
theorem f83_ok {H : Heap} {b n : Int} {c f : Value} (hb : 2<=b/\b<=100) (hn : 0<=n/\n<=900000) : Gives Try.prog 83 [.agg ⟨[I b,c,f]⟩,I n] H (I (hi b n)):=by
 refine F.entryL rfl dg83 do83 de83 rfl (by kernel_rfl) ?_
 simp only[sets]
 refine V.re [(0,.agg ⟨[I b,c,f]⟩),(1,I n)] (N:=12) zE zY ?_
 intro t hF hA
 simp only[Kn,and_true] at hA
 refine zS ?_
 refine V.l0 ?_
 refine V.heap (λX=>Grow H X/\Bx X H.next [I b,c,f] 33) ⟨?_,?_⟩ ?_
 ·exact zW
 ·exact zB
 rintro H1 ⟨g1,b1⟩
 refine zS ?_
 refine V.run ?_
 have zf:=b1.2
 refine VI.sz 6 ?_
 simp only[ds]
 refine VI.callA rfl (f82_ok (n:=n+b-1) hb (by omega)) zA (λH2 g2=>?_)
 refine VI.l0 ?_
 refine zS ?_
 refine V.ret (V.rets rfl (Lv.retG (by simp +contextual (disch:=first|omega|simp only[nx];omega) only[D1,cells_alloc_at,cells_alloc_ne,cells_set_at,cells_set_ne,yres,yres1,yresL,qA,qB,qC,D5,hF,hA,↓reduceIte,qD,qE];rfl) ?_ ?_))
 ·exact g1.trans g2
 ·rfl
abbrev fn82 : Value:=.func (.func 82) ⟨[]⟩ ⟨[]⟩
abbrev fn83 : Value:=.func (.func 83) ⟨[]⟩ ⟨[]⟩
abbrev Q4 (d : Nat->Int) : List Value:=[I (d 0),I (d 1),I (d 2),I (d 3)]
structure BV (H : Heap) (c f s : Value) (T : Tb) : Prop where
 t : TV H c f T
 s : Sw 1 H s [[fn82],[fn83]]
theorem BV.grow {A B : Heap} (g : Grow A B) {c f s : Value} {T : Tb} (h : BV A c f s T) : BV B c f s T:=⟨h.t.grow g,h.s.grow g⟩
abbrev bl (b : Int) (c f s : Value) (d : Nat->Int) : List Value:=[I b,c,f,s,I (d 0),I (d 1),I (d 2),I (d 3)]
def cp (a b : Int) : List Int:=if a=b then [a] else [a,b]
theorem f93_own {n0 : Nat} {col : Nat->Nat} {c : Nat} {H : Heap} {v : Value} {a b : Int} (h : OL n0 col c H v [a,b]) : F Try.prog 93 ⟨[v]⟩ H (λw X=>Keep n0 H X/\LS X w (cp a b)/\∃ i n k,n0<=i/\w=.slice (some ⟨i,0,none⟩) n k):=by
 have hl:=h.ls.len
 rcases h with⟨_,h,_⟩|⟨i,h1,h2,h3,rfl,h5⟩
 ·simp at h
 have e2 : ([a,b] : List Int).length=2:=rfl
 have eL : Li [a,b]=[I a,I b]:=rfl
 rw[e2] at hl ⊢
 rw[eL] at h5
 have ls : LS H (.slice (some ⟨i,0,none⟩) 2 2) [a,b]:=⟨.at h2 h5 (Nat.le_refl _) rfl (by simp) (λk x hx=>by simpa [Li] using hx)⟩
 have i0 : yindexAddr none 1 (.slice (some ⟨i,0,none⟩) 2 2) (I 0)=some (.pointer (some ⟨i,0,none⟩)):=rfl
 have i1 : yindexAddr none 1 (.slice (some ⟨i,0,none⟩) 2 2) (I 1)=some (.pointer (some ⟨i,1,none⟩)):=rfl
 refine F.entryL rfl dg93 do93 de93 rfl (by kernel_rfl) ?_
 simp only[sets]
 refine V.re [(0,.slice (some ⟨i,0,none⟩) 2 2)] (N:=61) zE zY ?_
 intro t hF hA
 simp only[Kn,and_true] at hA
 refine zS ?_
 refine V.l0 ?_
 refine zS ?_
 have zf:=@hl
 refine V.lz ?_
 refine zS ?_
 refine V.condF zA ?_
 refine zS ?_
 refine V.l0 ?_
 refine zS ?_
 refine V.loop (λz t m X=>∃ (k : Nat),(k=1\/(k=2/\¬ b=a))/\z=2-k/\m=[]/\X=H/\Full 61 t/\Kn [(0,.slice (some ⟨i,0,none⟩) 2 2),(3,I k)] t) 1 ?_ ?_
 ·exact⟨1,.inl rfl,rfl,rfl,rfl,zF,zK⟩
 clear hF hA
 rintro z t m X ⟨k,hk,rfl,rfl,rfl,hF,hA⟩
 simp only[Kn,and_true] at hA
 refine zS ?_
 have zf:=@hl
 refine V.lz ?_
 refine zS ?_
 refine V.condP zP (λhlt=>?_) (λhlt=>?_)
 ·obtain rfl : k=1:=by omega
  have hA3 : gt (pth 3) t=I 1:=hA.2
  have hA0:=hA.1
  clear hA
  have hA : gt (pth 0) t=.slice (some ⟨i,0,none⟩) 2 2/\gt (pth 3) t=I 1:=⟨hA0,hA3⟩
  refine zS ?_
  have e11 : (1 : Int)-1=0:=by decide
  have zf:=aI @i0<|aI @i1<|aI @h5<|@e11
  refine V.dz ?_ ?_ rfl ?_
  ·exact zM
  ·simp only[dcAll,dcOk,wantD,List.cons_append,List.nil_append,true_and,and_true]
  refine zS ?_
  refine V.condP zP (λhba=>?_) (λhba=>?_)
  ·have y1 : yslice Try.prog 3 1 X (.slice (some ⟨i,0,none⟩) 2 2) (some (I 1)) none=some (.slice (some ⟨i,1,none⟩) 1 1):=by
    simp only[yslice,h5,xbound]
    rw[if_pos (by simp),if_pos ⟨by decide,by decide⟩]
    rfl
   have hl1 : ∀ Y,ylen 0 Y (.slice (some ⟨i,1,none⟩) 1 1)=some (I 1):=λ_=>rfl
   have yc : yclear 1 [I 0] X (.slice (some ⟨i,1,none⟩) 1 1)=some (X.set i (.cells ⟨[I a,I 0]⟩ 3 true)):=by
    simp[yclear,h5,zeros,setCells]
   obtain⟨Y,hY⟩ : ∃ Y,Y=X.set i (.cells ⟨[I a,I 0]⟩ 3 true):=⟨_,rfl⟩
   have hYc : Y.cellsAt i=some (⟨[I a,I 0]⟩,3,true):=by rw[hY];exact cells_set _ _ _ _ _
   have y2 : yslice Try.prog 3 1 Y (.slice (some ⟨i,0,none⟩) 2 2) none (some (I 1))=some (.slice (some ⟨i,0,none⟩) 1 2):=by
    simp only[yslice,hYc,xbound]
    rw[if_pos (by simp),if_pos ⟨by decide,by decide⟩]
    rfl
   have y3:=y1
   rw[<- hY] at yc
   refine zS ?_
   have zf:=aI @y1<|aI @om1<|@om0
   refine V.lz ?_
   refine zS ?_
   refine V.l0 ?_
   refine zS ?_
   refine V.loop (λz t m Z=>z=0/\m=[]/\Z=X/\Full 61 t/\Kn [(0,.slice (some ⟨i,0,none⟩) 2 2),(3,I 1),(4,.slice (some ⟨i,1,none⟩) 1 1),(5,I 1)] t) 0 ?_ ?_
   ·exact⟨rfl,rfl,rfl,zF,zK⟩
   clear hF hA hA0 hA3
   rintro z t m Z ⟨rfl,rfl,hZ,hF,hA⟩
   obtain rfl : X=Z:=hZ.symm
   simp only[Kn,and_true] at hA
   refine zS ?_
   have zf:=@hl1
   refine V.lz ?_
   refine zS ?_
   refine V.condP zP (λh11=>?_) (λh11=>?_)
   ·omega
   refine V.exit ?_
   refine zX ?_
   refine V.nil (Or.inr ⟨by simp,?_⟩)
   refine zX ?_
   refine zS ?_
   have zf:=aI @y1<|aI @yc<|aI @om1<|@om0
   refine V.lz ?_
   refine zS ?_
   have zf:=aI @y2<|aI @om1<|@om0
   refine V.lz ?_
   refine zS ?_
   refine V.ret (V.rets rfl (Or.inr ⟨by simp,V.rets rfl (Lv.retF (by simp +contextual (disch:=first|omega|simp only[nx];omega) only[D1,cells_alloc_at,cells_alloc_ne,cells_set_at,cells_set_ne,yres,yres1,yresL,qA,qB,qC,D5,hF,hA,↓reduceIte,qD,qE];rfl) ?_)⟩))
   refine⟨⟨by rw[hY];exact Nat.le_refl _,λj hj=>by rw[hY,Heap.get_set,if_neg (by omega)]⟩,⟨?_⟩,i,1,2,h1,rfl⟩
   unfold cp
   rw[if_pos hba.symm]
   exact .at (by rw[hY];exact h2) hYc (by decide) rfl (by simp) (λk x hx=>by
    cases k with
    | zero=>simpa [Li] using hx
    | succ k=>simp[Li] at hx)
  ·refine zS ?_
   refine V.l0 ?_
   refine V.nil (Or.inl ⟨rfl,0,by omega,?_⟩)
   exact⟨2,.inr ⟨rfl,hba⟩,rfl,rfl,rfl,zF,zK⟩
 ·obtain⟨rfl,hba⟩ : k=2/\¬ b=a:=by omega
  refine V.exit ?_
  refine zX ?_
  refine V.nil (Or.inr ⟨by simp,?_⟩)
  refine zX ?_
  refine zS ?_
  refine V.l0 ?_
  refine zS ?_
  refine V.ret (V.rets rfl (Lv.retF (by simp +contextual (disch:=first|omega|simp only[nx];omega) only[D1,cells_alloc_at,cells_alloc_ne,cells_set_at,cells_set_ne,yres,yres1,yresL,qA,qB,qC,D5,hF,hA,↓reduceIte,qD,qE];rfl) ?_))
  refine⟨⟨Nat.le_refl _,λ_ _=>rfl⟩,?_,i,2,2,h1,rfl⟩
  unfold cp
  rw[if_neg (λe=>hba e.symm)]
  exact ls
def nbv (b n : Int) (k : Nat) : Int:=if k=0 then lo b n else hi b n
def nbs (b n : Int) : List Int:=cp (lo b n) (hi b n)
theorem nbs_mem {b n x : Int} : x∈nbs b n↔x=lo b n\/x=hi b n:=by
 unfold nbs cp
 split
 ·rename_i h;rw[List.mem_singleton,<- h];exact⟨.inl,λh=>h.elim id id⟩
 ·simp
theorem f85_own {H : Heap} {b n : Int} {c f s : Value} {T : Tb} {d : Nat->Int} (h : BV H c f s T) (hb : 2<=b/\b<=100) (hn : 0<=n/\n<=900000) : F Try.prog 85 ⟨[.agg ⟨bl b c f s d⟩,I n]⟩ H (λw X=>Grow H X/\LS X w (nbs b n)/\∃ i n k,H.next<=i/\w=.slice (some ⟨i,0,none⟩) n k):=by
 obtain⟨ps,ns,cs,es⟩:=h.s.isS
 have hls : ∀ X,ylen 0 X s=some (I 2):=λX=>by
  have:=h.s.len
  rw[es] at this ⊢
  exact this
 refine F.entryL rfl dg85 do85 de85 rfl (by kernel_rfl) ?_
 simp only[sets]
 refine V.re [(0,.agg ⟨bl b c f s d⟩),(1,I n)] (N:=27) zE zY ?_
 intro t hF hA
 simp only[Kn,and_true] at hA
 refine zS ?_
 refine V.l0 ?_
 refine V.heap (λX=>Grow H X/\Bx X H.next (bl b c f s d) 89) ⟨?_,?_⟩ ?_
 ·exact zW
 ·exact zB
 rintro H1 ⟨g1,b1⟩
 have hn1:=b1.1
 refine zS ?_
 refine V.l0 ?_
 refine zS ?_
 have zf:=aI b1.2<|@hls
 refine V.lz ?_
 refine zS ?_
 refine V.loop (λz t m X=>∃ (k : Nat) (col : Nat->Nat) (v : Value),k<=2/\z=2-k/\m=[]/\Grow H1 X/\OL H1.next col 0 X v ((List.range k).map (nbv b n))/\Full 27 t/\Kn [(1,I n),(2,PT H.next),(5,v),(9,s),(10,I 2),(11,I k)] t) 2 ?_ ?_
 ·exact⟨0,λ_=>0,.slice none 0 0,by omega,by omega,rfl,.refl _,.nil,zF,zK⟩
 clear hF hA
 rintro z t m X ⟨k,col,v,hk,rfl,rfl,hg,ov,hF,hA⟩
 simp only[Kn,and_true] at hA
 have bX:=b1.grow hg
 have gX:=g1.trans hg
 refine zS ?_
 refine V.l0 ?_
 refine zS ?_
 refine V.condP zP (λhlt=>?_) (λhlt=>?_)
 ·have hk' : k<2:=by omega
  obtain⟨p,hp,hx⟩ : ∃ p,yindexAddr none 1 s (I k)=some p/\∀ H',Grow H H'->yloadN 1 H' p=some (.agg ⟨[if k=0 then fn82 else fn83]⟩):=by
   have : ([[fn82],[fn83]] : List (List Value))[k]?=some [if k=0 then fn82 else fn83]:=by
    rcases (show k=0\/k=1 by omega) with rfl|rfl<;>rfl
   exact h.s.get (by decide) this rfl
  have hx1:=hx X gX
  have key : ∀ Y,FV Try.prog (if k=0 then fn82 else fn83) [.agg ⟨[I b,c,f]⟩,I n] Y (λv' X'=>v'=I (nbv b n k)/\Grow Y X'):=by
   intro Y
   unfold nbv
   by_cases e : k=0
   ·rw[if_pos e,if_pos e];exact f82_ok hb (by omega)
   ·rw[if_neg e,if_neg e];exact f83_ok hb hn
  obtain⟨fv,hfv⟩ : ∃ fv,fv=(if k=0 then fn82 else fn83):=⟨_,rfl⟩
  rw[<- hfv] at hx1 key
  have okf : ok1 fv=true:=by rw[hfv];split<;>rfl
  refine zS ?_
  have zf:=aI @hp<|aI @hx1<|@okf
  refine V.lz ?_
  refine V.heap (λY=>Grow X Y/\Bx Y X.next [fv] 121) ⟨?_,?_⟩ ?_
  ·exact zW
  ·exact zB
  rintro Y ⟨gy,by1⟩
  have bY:=bX.grow gy
  have ovY:=Oc.grow ov gy
  refine zS ?_
  refine V.run ?_
  have zf:=aI by1.2<|bY.2
  refine VI.sz 6 ?_
  simp only[ds]
  refine VI.callV (y:=fv) zA (by simp only[List.map_cons,List.map_nil,D6,D5,hF,hA,↓reduceIte,qD,qE];exact key Y) (λv' Z hv=>?_)
  obtain⟨rfl,gz⟩:=hv
  have ovZ:=Oc.grow ovY gz
  have hnX:=hg.1
  have hnY:=gy.1
  have hnZ:=gz.1
  obtain⟨u,W,a1,col1,a2,a3,a4,a5⟩:=OL.push ovZ (by omega) (by rw[List.length_map,List.length_range];omega) (nbv b n k)
  have er : (List.range k).map (nbv b n)++[nbv b n k]=(List.range (k+1)).map (nbv b n):=by rw[List.range_succ,List.map_append];rfl
  rw[er] at a2
  have zf:=@a1
  refine VI.lz ?_
  refine zS ?_
  refine V.l0 ?_
  refine V.nil (Or.inl ⟨rfl,2-(k+1),by omega,?_⟩)
  exact⟨k+1,col1,u,hk',rfl,rfl,a4.grow ((hg.trans gy).trans gz) (Nat.le_refl _),a2,zF,zK⟩
 ·obtain rfl : k=2:=by omega
  have er : (List.range 2).map (nbv b n)=[lo b n,hi b n]:=rfl
  rw[er] at ov
  refine V.exit ?_
  refine zX ?_
  refine V.nil (Or.inr ⟨by simp,?_⟩)
  refine zX ?_
  refine zS ?_
  refine V.run ?_
  refine VI.s0 1 ?_
  simp only[ds]
  refine VI.callR zA (f93_own ov) zA (λw Y ⟨ky,ly,i3,n3,k3,hi3,e3⟩=>?_)
  refine VI.l0 ?_
  refine zS ?_
  refine V.ret (V.rets rfl (Lv.retF (by simp +contextual (disch:=first|omega|simp only[nx];omega) only[D1,cells_alloc_at,cells_alloc_ne,cells_set_at,cells_set_ne,yres,yres1,yresL,qA,qB,qC,D5,hF,hA,↓reduceIte,qD,qE];rfl) ?_))
  exact⟨(ky.grow hg (Nat.le_refl _)) |> λq=>g1.trans q,ly,i3,n3,k3,Nat.le_trans g1.1 hi3,e3⟩
theorem f85_ok {H : Heap} {b n : Int} {c f s : Value} {T : Tb} {d : Nat->Int} (h : BV H c f s T) (hb : 2<=b/\b<=100) (hn : 0<=n/\n<=900000) : F Try.prog 85 ⟨[.agg ⟨bl b c f s d⟩,I n]⟩ H (λw X=>Grow H X/\LS X w (nbs b n)):=
 (f85_own h hb hn).mono λ_ _ h=>⟨h.1,h.2.1⟩
theorem f75_ok {H : Heap} {b n : Int} {c f s : Value} {T : Tb} {d : Nat->Int} (r : Int) (h : BV H c f s T) (hb : 2<=b/\b<=100) (hn : 0<=n/\n<=900000) : Gives Try.prog 75 [.agg ⟨bl b c f s d⟩,I r,I n] H (.bool (decide (r=lo b n\/r=hi b n))):=by
 refine F.entryL rfl dg75 do75 de75 rfl (by kernel_rfl) ?_
 simp only[sets]
 refine V.re [(0,.agg ⟨bl b c f s d⟩),(1,I r),(2,I n)] (N:=12) zE zY ?_
 intro t hF hA
 simp only[Kn,and_true] at hA
 refine zS ?_
 refine V.l0 ?_
 refine V.heap (λX=>Grow H X/\Bx X H.next (bl b c f s d) 89) ⟨?_,?_⟩ ?_
 ·exact zW
 ·exact zB
 rintro H1 ⟨g1,b1⟩
 refine zS ?_
 refine V.run ?_
 have zf:=b1.2
 refine VI.sz 2 ?_
 simp only[ds]
 refine VI.callR zA (f85_ok (h.grow g1) hb hn) zA (λw X ⟨gx,lw⟩=>?_)
 refine VI.s0 1 ?_
 simp only[ds]
 refine VI.callA rfl (f84_ok r lw (by unfold nbs cp;split<;>simp)) zA (λY gy=>?_)
 refine VI.l0 ?_
 refine zS ?_
 refine V.ret (V.rets rfl (Lv.retG (by simp +contextual (disch:=first|omega|simp only[nx];omega) only[D1,cells_alloc_at,cells_alloc_ne,cells_set_at,cells_set_ne,yres,yres1,yresL,qA,qB,qC,D5,hF,hA,↓reduceIte,qD,qE];rfl) ?_ ?_))
 ·exact (g1.trans gx).trans gy
 ·congr 1
  rw[decide_eq_decide]
  exact nbs_mem
end Go.Xe.TRX
end
