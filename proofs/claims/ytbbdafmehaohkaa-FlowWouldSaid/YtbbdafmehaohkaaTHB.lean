/- What the functions of the layer flow come to: what is carried to a cell. Conditions: none. -/
import Derived.Test.YtbbdafmehaohkaaTHA
-- MOD TF
namespace Go.Xe.TFX
open Go Go.Xe Go.Proofs
open Nat renaming reduceLeDiff → qA, reduceSub → qB, reduceAdd → qC, reduceEqDiff → qD, reduceLT → qE
open Int renaming reduceNegSucc → qF, reduceEq → qG
open Go.Xe.V renaming seq → sA, block → sB, scope → sC, skip → sD, close → sE
open Go.Xe renaming pth → P
open Go.Xe.Flw
set_option maxRecDepth 100000
set_option maxHeartbeats 3200000
set_option linter.unusedSimpArgs false
noncomputable def d137 : FCode:=(.seq (.run (.go (.box 135 (tm 0)) (P 3)::
.go (.box 74 (tm 1)) (P 4)::
.go (.alloc 69 [(.int .i64 (.ofNat 0)),(.int .i64 (.ofNat 0))]) (P 6)::
[])) (.seq (.draw 24 (.go (.fieldAddr 20 (tm 3)) (P 7)::
.go (.fieldAddr 0 (tm 7)) (P 8)::
.go (.load1 (tm 8)) (P 9)::
.go (.loadN 22 (tm 3)) (P 10)::
.go (.loadN 2 (tm 4)) (P 11)::
.go (.call (.con (.func (.func 138) ⟨[]⟩ ⟨[]⟩)) [(tm 10),(tm 11)]) (P 12)::
.go (.move (tm 2)) (P 13)::
.go (.loadN 2 (tm 4)) (P 14)::
.go (.lookup 74 (.agg ⟨[(.int .i64 (.ofNat 0)),(.int .i64 (.ofNat 0))]⟩) (tm 13) (tm 14) false) (P 15)::
.go (.field1 0 (tm 15)) (P 16)::
.go (.call (tm 9) [(tm 12),(tm 16)]) (P 17)::
.go (.fieldAddr 20 (tm 3)) (P 18)::
.go (.fieldAddr 1 (tm 18)) (P 19)::
.go (.load1 (tm 19)) (P 20)::
.go (.loadN 22 (tm 3)) (P 21)::
.go (.loadN 2 (tm 4)) (P 22)::
.go (.call (.con (.func (.func 138) ⟨[]⟩ ⟨[]⟩)) [(tm 21),(tm 22)]) (P 23)::
.go (.move (tm 2)) (P 24)::
.go (.loadN 2 (tm 4)) (P 25)::
.go (.lookup 74 (.agg ⟨[(.int .i64 (.ofNat 0)),(.int .i64 (.ofNat 0))]⟩) (tm 24) (tm 25) false) (P 26)::
.go (.field1 1 (tm 26)) (P 27)::
.go (.call (tm 20) [(tm 23),(tm 27)]) (P 28)::
.go (.build [(.int .i64 (.ofNat 0)),(.int .i64 (.ofNat 0))] [(0,1,(tm 17)),(1,1,(tm 28))]) (P 29)::
.un (.store 2 (tm 6) (tm 29))::
[]) [.ok,.ok,.rd none (.load1 (tm 8)) (some (P 9)) [6],.ok,.ok,.ok,.ok,.rd none (.loadN 2 (tm 4)) (some (P 14)) [0],.rd none (.lookup 74 (.agg ⟨[(.int .i64 (.ofNat 0)),(.int .i64 (.ofNat 0))]⟩) (tm 13) (tm 14) false) (some (P 15)) [0],.ok,.ok,.ok,.ok,.rd none (.load1 (tm 19)) (some (P 20)) [0,6,17],.rd none (.loadN 22 (tm 3)) (some (P 21)) [0,6],.rd none (.loadN 2 (tm 4)) (some (P 22)) [0,6],.ok,.ok,.rd none (.loadN 2 (tm 4)) (some (P 25)) [0,6,11],.rd none (.lookup 74 (.agg ⟨[(.int .i64 (.ofNat 0)),(.int .i64 (.ofNat 0))]⟩) (tm 24) (tm 25) false) (some (P 26)) [0,6,11],.ok,.ok,.ok,.ok]) .ret))
theorem de137 : @compF Try.prog (Gl.none Try.prog) Try.f137 3=.mk d137 (mkTT 30) [(P 0),(P 1),(P 2)] [.many (P 6) 2]:=by kernel_rfl
theorem dg137 : Try.prog.funcs[137]?=some Try.f137:=Try.func137
theorem do137 : okF Try.prog Try.f137=true:=by kernel_rfl
noncomputable def d117 : FCode:=(.seq (.run (.go (.box 135 (tm 0)) (P 2)::
.go (.box 74 (tm 1)) (P 3)::
.go (.move (.con (.slice none 0 0))) (P 4)::
[])) (.seq (.seq (.run (.go (.fieldAddr 0 (tm 3)) (P 6)::
.go (.load1 (tm 6)) (P 7)::
.go (.bin .eql 3 (tm 7) (.con (.int .i64 (.ofNat 0)))) (P 8)::
[])) (.cond (tm 8) (.seq (.run (.go (.move (.con (.slice none 0 0))) (P 4)::
[])) .ret) .skip)) (.seq (.run (.go (.fieldAddr 0 (tm 3)) (P 9)::
.go (.load1 (tm 9)) (P 10)::
.go (.bin .sub 3 (tm 10) (.con (.int .i64 (.ofNat 1)))) (P 11)::
.go (.fieldAddr 1 (tm 3)) (P 12)::
.go (.load1 (tm 12)) (P 13)::
.go (.bin .sub 3 (tm 13) (.con (.int .i64 (.ofNat 1)))) (P 14)::
.go (.build [(.int .i64 (.ofNat 0)),(.int .i64 (.ofNat 0))] [(0,1,(tm 11)),(1,1,(tm 14))]) (P 15)::
.go (.buildSlice 74 1 [(.int .i64 (.ofNat 0)),(.int .i64 (.ofNat 0))] [(0,2,(tm 15))]) (P 16)::
.go (.move (tm 16)) (P 5)::
[])) (.seq (.seq (.draw 7 (.go (.fieldAddr 1 (tm 3)) (P 17)::
.go (.load1 (tm 17)) (P 18)::
.go (.fieldAddr 0 (tm 2)) (P 19)::
.go (.loadN 4 (tm 19)) (P 20)::
.go (.call (.con (.func (.func 101) ⟨[]⟩ ⟨[]⟩)) [tm 20]) (P 21)::
.go (.bin .sub 3 (tm 21) (.con (.int .i64 (.ofNat 1)))) (P 22)::
.go (.bin .eql 3 (tm 18) (tm 22)) (P 23)::
[]) [.ok,.rd none (.load1 (tm 17)) (some (P 18)) [5],.ok,.ok,.ok,.ok,.ok]) (.cond (tm 23) (.run (.go (.move (tm 5)) (P 24)::
.go (.fieldAddr 0 (tm 3)) (P 25)::
.go (.load1 (tm 25)) (P 26)::
.go (.bin .sub 3 (tm 26) (.con (.int .i64 (.ofNat 1)))) (P 27)::
.go (.fieldAddr 1 (tm 3)) (P 28)::
.go (.load1 (tm 28)) (P 29)::
.go (.build [(.int .i64 (.ofNat 0)),(.int .i64 (.ofNat 0))] [(0,1,(tm 27)),(1,1,(tm 29))]) (P 30)::
.go (.buildSlice 74 1 [(.int .i64 (.ofNat 0)),(.int .i64 (.ofNat 0))] [(0,2,(tm 30))]) (P 31)::
.go (.append 74 2 16 (tm 24) (tm 31)) (P 32)::
.go (.move (tm 32)) (P 5)::
[])) .skip)) (.seq (.run (.go (.move (tm 5)) (P 33)::
.go (.move (tm 33)) (P 4)::
[])) .ret)))))
theorem de117 : @compF Try.prog (Gl.none Try.prog) Try.f117 2=.mk d117 (mkTT 34) [(P 0),(P 1)] [.tmp (P 4)]:=by kernel_rfl
theorem dg117 : Try.prog.funcs[117]?=some Try.f117:=Try.func117
theorem do117 : okF Try.prog Try.f117=true:=by kernel_rfl
noncomputable def d125 : FCode:=(.seq (.run (.go (.box 135 (tm 0)) (P 3)::
.go (.box 74 (tm 1)) (P 4)::
.go (.alloc 69 [(.int .i64 (.ofNat 0)),(.int .i64 (.ofNat 0))]) (P 6)::
[])) (.seq (.seq (.run (.go (.fieldAddr 0 (tm 4)) (P 11)::
.go (.load1 (tm 11)) (P 12)::
.go (.bin .eql 3 (tm 12) (.con (.int .i64 (.ofNat 0)))) (P 13)::
[])) (.cond (tm 13) (.seq (.run (.go (.call (.con (.func (.func 85) ⟨[]⟩ ⟨[]⟩)) []) (P 14)::
.un (.store 2 (tm 6) (tm 14))::
[])) .ret) .skip)) (.seq (.run (.go (.fieldAddr 0 (tm 3)) (P 15)::
.go (.fieldAddr 3 (tm 15)) (P 16)::
.go (.load1 (tm 16)) (P 17)::
.go (.fieldAddr 1 (tm 4)) (P 18)::
.go (.load1 (tm 18)) (P 19)::
.go (.indexAddr none 2 (tm 17) (tm 19)) (P 20)::
.go (.loadN 2 (tm 20)) (P 21)::
.go (.alloc 69 [(.int .i64 (.ofNat 0)),(.int .i64 (.ofNat 0))]) (P 7)::
.un (.store 2 (tm 7) (tm 21))::
[])) (.seq (.seq (.run (.go (.loadN 22 (tm 3)) (P 22)::
.go (.loadN 2 (tm 4)) (P 23)::
.go (.call (.con (.func (.func 117) ⟨[]⟩ ⟨[]⟩)) [(tm 22),(tm 23)]) (P 24)::
.go (.len 0 (tm 24)) (P 25)::
.go (.move (.con (.int .i64 (.ofNat 0)))) (P 26)::
[])) (.block 0 (.loop (.seq (.run (.go (.bin .lss 3 (tm 26) (tm 25)) (P 27)::
[])) (.seq (.cond (tm 27) .skip (.exit 0)) (.seq (.block 1 (.seq (.run (.go (.indexAddr none 2 (tm 24) (tm 26)) (P 28)::
.go (.loadN 2 (tm 28)) (P 29)::
.go (.alloc 74 [(.int .i64 (.ofNat 0)),(.int .i64 (.ofNat 0))]) (P 9)::
.un (.store 2 (tm 9) (tm 29))::
[])) (.seq (.run (.go (.loadN 22 (tm 3)) (P 30)::
.go (.loadN 2 (tm 9)) (P 31)::
.go (.move (tm 2)) (P 32)::
.go (.call (.con (.func (.func 137) ⟨[]⟩ ⟨[]⟩)) [(tm 30),(tm 31),(tm 32)]) (P 33)::
.go (.alloc 69 [(.int .i64 (.ofNat 0)),(.int .i64 (.ofNat 0))]) (P 10)::
.un (.store 2 (tm 10) (tm 33))::
[])) (.seq (.run (.go (.fieldAddr 0 (tm 7)) (P 34)::
.go (.load1 (tm 34)) (P 35)::
.go (.fieldAddr 0 (tm 10)) (P 36)::
.go (.load1 (tm 36)) (P 37)::
.go (.bin .add 3 (tm 35) (tm 37)) (P 38)::
.go (.fieldAddr 0 (tm 7)) (P 39)::
.un (.store 1 (tm 39) (tm 38))::
[])) (.run (.go (.fieldAddr 1 (tm 7)) (P 40)::
.go (.load1 (tm 40)) (P 41)::
.go (.fieldAddr 1 (tm 10)) (P 42)::
.go (.load1 (tm 42)) (P 43)::
.go (.bin .add 3 (tm 41) (tm 43)) (P 44)::
.go (.fieldAddr 1 (tm 7)) (P 45)::
.un (.store 1 (tm 45) (tm 44))::
[])))))) (.run (.go (.bin .add 3 (tm 26) (.con (.int .i64 (.ofNat 1)))) (P 46)::
.go (.move (tm 46)) (P 26)::
[])))))))) (.seq (.run (.go (.loadN 2 (tm 7)) (P 47)::
.un (.store 2 (tm 6) (tm 47))::
[])) .ret)))))
theorem de125 : @compF Try.prog (Gl.none Try.prog) Try.f125 3=.mk d125 (mkTT 48) [(P 0),(P 1),(P 2)] [.many (P 6) 2]:=by kernel_rfl
theorem dg125 : Try.prog.funcs[125]?=some Try.f125:=Try.func125
theorem do125 : okF Try.prog Try.f125=true:=by kernel_rfl
theorem vEq_LG {c b r n : Value} {u : Nat→Bool} (hc : ∃ p m k,c=.slice p m k) (hb : ∃ p m k,b=.slice p m k) (hr : ∃ p m k,r=.slice p m k) (hn : ∃ p m k,n=.slice p m k) : vEq 3 (.agg ⟨LG c b r n u⟩) (.agg ⟨LG c b r n u⟩)=true:=by
 obtain⟨_,_,_,rfl⟩:=hc
 obtain⟨_,_,_,rfl⟩:=hb
 obtain⟨_,_,_,rfl⟩:=hr
 obtain⟨_,_,_,rfl⟩:=hn
 simp[vEq,vEq0,all2,LG,An,List.range_succ]
def sv (q r : R2) : R2:=(few q r.1,mst q r.2)
theorem f137_ok {H : Heap} {c b r n : Value} {u : Nat→Bool} {T : Tb} {k i : Nat} {x y : Int} {f : Int×Int→Option R2} {z : R2} (ek : y+1=(k : Int)) (hxy : okK (x,y)) (h : TV H c b r n T) (hk : k<T.Rt.length) (hl : T.Rt.length≤1048576) (hm : SZ H i f) (hz : f (x,y)=some z) (hq : isRate T.Rt[k]) (z1 : 0≤z.1∧z.1≤1000000) (z2 : 0≤z.2∧z.2≤1000000) :
  Gives Try.prog 137 [.agg ⟨LG c b r n u⟩,.agg ⟨A2 x y⟩,.map (some i)] H (.agg ⟨r2 (sv T.Rt[k] z)⟩):=by
 obtain⟨zl,zh⟩:=z
 have hlk:=fun (X : Heap) (g : Grow H X)=>(hm.grow g).look hxy
 rw[hz] at hlk
 simp only[Option.getD_some] at hlk
 have li:=hm.lt
 refine F.entryL rfl dg137 do137 de137 rfl (by kernel_rfl) ?_
 simp only[sets]
 refine V.re [(0,.agg ⟨LG c b r n u⟩),(1,.agg ⟨A2 x y⟩),(2,.map (some i))] (N:=30) zE zY ?_
 intro t hF hA
 simp only[Kn,and_true] at hA
 refine zS ?_
 refine V.l0 ?_
 refine V.heap (fun X=>Grow H X∧Bx X H.next (LG c b r n u) 135∧Bx X (H.next+1) (A2 x y) 74∧Bx X (H.next+2) (A2 0 0) 69) ⟨?_,?_,?_,?_⟩ ?_
 ·exact zW
 ·exact zB
 ·exact zB
 ·exact zB
 rintro H1 ⟨g1,b1,c1,d1⟩
 refine zS ?_
 refine V.draw ?_
 have zf:=And.intro b1.2<|And.intro c1.2<|And.intro @LG_20<|And.intro @LG_t22<|@LG_len
 refine VD.nz 5 ?_
 simp only[ds]
 refine VD.callA zA (f138_ok (x:=x) ek (h.grow g1) hk hl) zA (fun H2 g2=>?_)
 have b2:=b1.grow g2
 have c2:=c1.grow g2
 have g12:=g1.trans g2
 have k2:=hlk H2 g12
 have zf:=And.intro c2.2<|@k2
 refine VD.nz 4 ?_
 simp only[ds]
 refine VD.callA zA (f120_ok hq z1.1 z1.2 H2) zA (fun H3 g3=>?_)
 have b3:=b2.grow g3
 have c3:=c2.grow g3
 have g13:=g12.trans g3
 have zf:=And.intro b3.2<|And.intro c3.2<|And.intro @LG_21<|And.intro @LG_t22<|@LG_len
 refine VD.nz 5 ?_
 simp only[ds]
 refine VD.callA zA (f138_ok (x:=x) ek (h.grow g13) hk hl) zA (fun H4 g4=>?_)
 have b4:=b3.grow g4
 have c4:=c3.grow g4
 have g14:=g13.trans g4
 have k4:=hlk H4 g14
 have zf:=And.intro c4.2<|@k4
 refine VD.nz 4 ?_
 simp only[ds]
 refine VD.callA zA (f121_ok hq z2.1 z2.2 H4) zA (fun H5 g5=>?_)
 have b5:=b4.grow g5
 have c5:=c4.grow g5
 have g15:=g14.trans g5
 have d5:=(((d1.grow g2).grow g3).grow g4).grow g5
 have ld5:=d5.1
 have k1:=hlk H1 g1
 have k3:=hlk H3 g13
 have k5:=hlk H5 g15
 have zf:=d5.2
 refine VD.dz ?_ ?_ rfl ?_
 ·have m2:=g2.1
  have m3:=g3.1
  have m4:=g4.1
  have m5:=g5.1
  exact zM
 ·simp only[dcAll,dcOk,wantD,List.cons_append,List.nil_append,true_and,and_true]
  have vL:=vEq_LG (u:=u) h.c.isS (rp.sl h.b) (rp.sl h.r) (rp.sl h.n)
  have n1:=d1.1
  have zf:=And.intro b1.2<|And.intro b2.2<|And.intro b3.2<|And.intro b4.2<|And.intro b5.2<|And.intro @LG_20<|And.intro c1.2<|And.intro c2.2<|And.intro c3.2<|And.intro c4.2<|And.intro c5.2<|And.intro @k1<|And.intro @k2<|And.intro @k3<|And.intro @k4<|And.intro @k5<|And.intro @LG_21<|And.intro @LG_t22<|@LG_len
  exact⟨zR,zR,zR,zR,zR,zR,zR,zR⟩
 refine zS ?_
 have n1:=d1.1
 refine V.ret (V.rets rfl (Lv.retG (by simp +contextual (disch:=first|omega|simp only[nx];omega) only[D1,cells_alloc_at,cells_alloc_ne,cells_set_at,cells_set_ne,yres,yres1,yresL,qA,qB,qC,D5,hF,hA,↓reduceIte,qD,qE,cells_set];rfl) ?_ ?_))
 ·exact zW
 ·rfl
def src (x y : Int) (G : Nat) : List (Int×Int):=if x=0 then [] else if y=(G : Int)-1 then [(x-1,y-1),(x-1,y)] else [(x-1,y-1)]
def c2 (z : Int×Int) : List Value:=A2 z.1 z.2
theorem c2_len (L : List (Int×Int)) : ∀ x∈L.map c2,x.length=2:=by
 intro x hx
 obtain⟨r,_,rfl⟩:=List.mem_map.1 hx
 rfl
theorem f117_ok {H : Heap} {c b r n : Value} {u : Nat→Bool} {T : Tb} {x y : Int} (hxy : okK (x,y)) (h : TV H c b r n T) (hG : grp T≤1048576) :
  F Try.prog 117 ⟨[.agg ⟨LG c b r n u⟩,.agg ⟨A2 x y⟩]⟩ H (fun w X=>Grow H X∧OwW 2 H X 74 w ((src x y (grp T)).map c2)):=by
 obtain⟨⟨x1,x2⟩,y1,y2⟩:=hxy
 simp only at x1 x2 y1 y2
 refine F.entryL rfl dg117 do117 de117 rfl (by kernel_rfl) ?_
 simp only[sets]
 refine V.re [(0,.agg ⟨LG c b r n u⟩),(1,.agg ⟨A2 x y⟩)] (N:=34) zE zY ?_
 intro t hF hA
 simp only[Kn,and_true] at hA
 refine zS ?_
 refine V.l0 ?_
 refine V.heap (fun X=>Grow H X∧Bx X H.next (LG c b r n u) 135∧Bx X (H.next+1) (A2 x y) 74) ⟨?_,?_,?_⟩ ?_
 ·exact zW
 ·exact zB
 ·exact zB
 rintro H1 ⟨g1,b1,c1⟩
 refine zS ?_
 have zf:=c1.2
 refine V.lz ?_
 refine zS ?_
 refine V.condP zP (fun hx0=>?_) (fun hx0=>?_)
 ·refine zS ?_
  refine V.l0 ?_
  refine zS ?_
  refine V.ret (V.rets rfl (Lv.retF (by simp +contextual (disch:=first|omega|simp only[nx];omega) only[D1,cells_alloc_at,cells_alloc_ne,cells_set_at,cells_set_ne,yres,yres1,yresL,qA,qB,qC,D5,hF,hA,↓reduceIte,qD,qE];rfl) ?_))
  refine⟨g1,?_⟩
  unfold src
  rw[if_pos hx0]
  exact .nil
 ·refine zS ?_
  have zf:=c1.2
  refine V.lz ?_
  refine V.heap (fun X=>Grow H1 X∧OwW 2 H X 74 (.slice (some ⟨H1.next,0,none⟩) 1 1) [A2 (x-1) (y-1)]) ⟨?_,?_⟩ ?_
  ·exact zW
  ·exact .inr ⟨H1.next,g1.1,Nat.lt_succ_self _,rfl,cells_alloc _ _ _ _⟩
  rintro H2 ⟨g2,o2⟩
  have b2:=b1.grow g2
  have c2':=c1.grow g2
  have g12:=g1.trans g2
  refine zS ?_
  refine V.draw ?_
  have zf:=And.intro b2.2<|And.intro c2'.2<|And.intro @LG_t4<|@LG_len
  refine VD.nz 4 ?_
  simp only[ds]
  refine VD.callA zA (f101_ok (h.grow g12)) zA (fun H3 g3=>?_)
  have c3:=c2'.grow g3
  have o3:=o2.keep g3
  have g13:=g12.trans g3
  refine VD.d0 ?_ ?_ rfl ?_
  ·have m3:=g3.1
   exact zM
  ·simp only[dcAll,dcOk,wantD,List.cons_append,List.nil_append,true_and,and_true]
   have zf:=And.intro c2'.2<|c3.2
   exact zR
  refine zS ?_
  refine V.condP zP (fun hy=>?_) (fun hy=>?_)
  ·obtain⟨w,X,k1,k2,k3,k4,k5,k6⟩:=OwW.push (x:=A2 (x-1) y) (e:=74) (bytes:=16) (by decide) g13 o3 (by simp) rfl rfl (by simp only[List.length_cons,List.length_nil];omega) (by simp only[List.length_cons,List.length_nil];omega)
   refine zS ?_
   have zf:=And.intro c3.2<|@k1
   refine V.lz ?_
   refine zS ?_
   refine V.l0 ?_
   refine zS ?_
   refine V.ret (V.rets rfl (Lv.retF (by simp +contextual (disch:=first|omega|simp only[nx];omega) only[D1,cells_alloc_at,cells_alloc_ne,cells_set_at,cells_set_ne,yres,yres1,yresL,qA,qB,qC,D5,hF,hA,↓reduceIte,qD,qE];rfl) ?_))
   refine⟨k3,?_⟩
   unfold src
   rw[if_neg hx0,if_pos hy]
   exact k2
  ·refine zS ?_
   refine V.l0 ?_
   refine zS ?_
   refine V.ret (V.rets rfl (Lv.retF (by simp +contextual (disch:=first|omega|simp only[nx];omega) only[D1,cells_alloc_at,cells_alloc_ne,cells_set_at,cells_set_ne,yres,yres1,yresL,qA,qB,qC,D5,hF,hA,↓reduceIte,qD,qE];rfl) ?_))
   refine⟨g13,?_⟩
   unfold src
   rw[if_neg hx0,if_neg hy]
   exact o3
structure Src (T : Tb) (f : Int×Int→Option R2) (z : Int×Int) (v q : R2) : Prop where
 ok : okK z
 f : f z=some v
 lo : 0≤v.1∧v.1≤1000000
 hi : 0≤v.2∧v.2≤1000000
 rate : ∃ k : Nat,z.2+1=(k : Int)∧∃ hk : k<T.Rt.length,T.Rt[k]=q
 isR : isRate q
def add2 (a b : R2) : R2:=(a.1+b.1,a.2+b.2)
def tt (ps : List (R2×R2)) (t : R2) : R2:=ps.foldl (fun t p=>add2 t (sv p.1 p.2)) t
theorem tt_bd {ps : List (R2×R2)} : ∀ {t : R2} {m : Int},(∀ p∈ps,isRate p.1∧(0≤p.2.1∧p.2.1≤1000000)∧0≤p.2.2∧p.2.2≤1000000)→(-m≤t.1∧t.1≤m)→(-m≤t.2∧t.2≤m)→(-(m+1000000*ps.length)≤(tt ps t).1∧(tt ps t).1≤m+1000000*ps.length)∧-(m+1000000*ps.length)≤(tt ps t).2∧(tt ps t).2≤m+1000000*ps.length:=by
 induction ps with
 | nil=>intro t m _ h1 h2;simp only[tt,List.foldl_nil,List.length_nil];omega
 | cons p ps ih=>
  intro t m hp h1 h2
  obtain⟨q1,q2,q3⟩:=hp p (by simp)
  have e1:=few_nn q1 q2.1
  have e2:=few_mst q1 q2.1
  have e3:=mst_le q1 q2.1
  have e4:=few_nn q1 q3.1
  have e5:=few_mst q1 q3.1
  have e6:=mst_le q1 q3.1
  have:=ih (t:=add2 t (sv p.1 p.2)) (m:=m+1000000) (fun z hz=>hp z (by simp[hz])) (by simp only[add2,sv];omega) (by simp only[add2,sv];omega)
  have e : tt (p::ps) t=tt ps (add2 t (sv p.1 p.2)):=rfl
  rw[e]
  simp only[List.length_cons]
  omega
def car (N : R2) (x : Int) (ps : List (R2×R2)) : R2:=if x=0 then (0,500) else tt ps N
theorem f125_ok {H : Heap} {c b r n : Value} {u : Nat→Bool} {T : Tb} {x : Int} {y i : Nat} {f : Int×Int→Option R2} {ps : List (R2×R2)} (hxy : okK (x,y)) (h : TV H c b r n T) (hs : sh T) (hG : grp T≤1048576) (hy : y<T.N.length) (hN : -50≤T.N[y].1∧T.N[y].1≤50∧-50≤T.N[y].2∧T.N[y].2≤50) (hm : SZ H i f)
  (hp : ps.length=(src x y (grp T)).length) (hsr : ∀ j (h1 : j<(src x y (grp T)).length) (h2 : j<ps.length),Src T f (src x y (grp T))[j] ps[j].2 ps[j].1) :
  Gives Try.prog 125 [.agg ⟨LG c b r n u⟩,.agg ⟨A2 x y⟩,.map (some i)] H (.agg ⟨r2 (car T.N[y] x ps)⟩):=by
 obtain⟨s1,s2,s3,s4,s5⟩:=hs
 have li:=hm.lt
 obtain⟨ni,no,hnp,hnx⟩:=h.n.at hy
 refine F.entryL rfl dg125 do125 de125 rfl (by kernel_rfl) ?_
 simp only[sets]
 refine V.re [(0,.agg ⟨LG c b r n u⟩),(1,.agg ⟨A2 x y⟩),(2,.map (some i))] (N:=48) zE zY ?_
 intro t hF hA
 simp only[Kn,and_true] at hA
 refine zS ?_
 refine V.l0 ?_
 refine V.heap (fun X=>Grow H X∧Bx X H.next (LG c b r n u) 135∧Bx X (H.next+1) (A2 x y) 74∧Bx X (H.next+2) (A2 0 0) 69) ⟨?_,?_,?_,?_⟩ ?_
 ·exact zW
 ·exact zB
 ·exact zB
 ·exact zB
 rintro H1 ⟨g1,b1,c1,d1⟩
 have n1:=d1.1
 refine zS ?_
 have zf:=c1.2
 refine V.lz ?_
 refine zS ?_
 refine V.condP zP (fun hx0=>?_) (fun hx0=>?_)
 ·refine zS ?_
  refine V.run ?_
  refine VI.callA rfl (f85_ok H1) zA (fun H2 g2=>?_)
  have d2:=d1.grow g2
  have ld2:=d2.1
  have zf:=d2.2
  refine VI.lz ?_
  refine zS ?_
  refine V.ret (V.rets rfl (Lv.retG (by simp +contextual (disch:=first|omega|simp only[nx];omega) only[D1,cells_alloc_at,cells_alloc_ne,cells_set_at,cells_set_ne,yres,yres1,yresL,qA,qB,qC,D5,hF,hA,↓reduceIte,qD,qE,cells_set];rfl) ?_ ?_))
  ·have:=g1.trans g2
   exact zW
  ·unfold car
   rw[if_pos hx0]
 obtain⟨hn1,_,_⟩:=hnx H1 g1
 refine zS ?_
 have zf:=And.intro b1.2<|And.intro c1.2<|And.intro @LG_3<|And.intro @hnp<|@hn1
 refine V.lz ?_
 refine V.heap (fun X=>Grow H1 X∧Bx X H1.next (A2 T.N[y].1 T.N[y].2) 69) ⟨?_,?_⟩ ?_
 ·exact zW
 ·exact zB
 rintro H2 ⟨g2,e2⟩
 have b2:=b1.grow g2
 have c2':=c1.grow g2
 have d2:=d1.grow g2
 have g12:=g1.trans g2
 refine zS ?_
 refine V.run ?_
 have zf:=And.intro b2.2<|And.intro c2'.2<|And.intro @LG_t22<|@LG_len
 refine VI.sz 2 ?_
 simp only[ds]
 refine VI.callR zA (f117_ok hxy (h.grow g12) hG) zA (fun w H3 ⟨g3,o3⟩=>?_)
 have e3:=e2.grow g3
 have g13:=g12.trans g3
 have hsw:=o3.sw (c2_len _)
 have hlw : ∀ X,ylen 0 X w=some (I (src x y (grp T)).length):=fun X=>by have:=o3.len X;rw[List.length_map] at this;exact this
 have hL2 : (src x y (grp T)).length≤2:=by
  unfold src
  split
  ·simp
  ·split<;>simp
 generalize src x y (grp T)=L at *
 have le1 : H1.next<H2.next:=e2.1
 have hps : ∀ j (hj : j<ps.length),isRate ps[j].1∧(0≤ps[j].2.1∧ps[j].2.1≤1000000)∧0≤ps[j].2.2∧ps[j].2.2≤1000000:=fun j hj=>by
  have:=hsr j (by omega) hj
  exact⟨this.isR,this.lo,this.hi⟩
 have zf:=@hlw
 refine VI.lz ?_
 refine zS ?_
 refine V.loop (fun z t m Z=>∃ (k : Nat),k≤L.length∧z=L.length-k∧m=[]∧Grow H1 Z∧GrowX H1.next H3 Z∧Bx Z H1.next (A2 (tt (ps.take k) T.N[y]).1 (tt (ps.take k) T.N[y]).2) 69∧Full 48 t∧Kn [(2,.map (some i)),(3,.pointer (some ⟨H.next,0,none⟩)),(4,.pointer (some ⟨H.next+1,0,none⟩)),(6,.pointer (some ⟨H.next+2,0,none⟩)),(7,.pointer (some ⟨H1.next,0,none⟩)),(24,w),(25,I L.length),(26,I k)] t) L.length ?_ ?_
 ·exact⟨0,by omega,by omega,rfl,g2.trans g3,(Grow.refl H3).x _,e3,zF,zK⟩
 clear hF hA
 rintro z t m Z ⟨k,hk,rfl,rfl,hg,hgx,ez,hF,hA⟩
 simp only[Kn,and_true] at hA
 have bz:=b1.grow hg
 have cz:=c1.grow hg
 have dz:=d1.grow hg
 have gZ:=g1.trans hg
 have lez:=ez.1
 have hbd:=tt_bd (ps:=ps.take k) (t:=T.N[y]) (m:=50) (fun p hp=>by
  obtain⟨j,hj,rfl⟩:=List.mem_iff_getElem.1 (List.mem_of_mem_take hp)
  exact hps j hj) (by omega) (by omega)
 have hkl : (ps.take k).length≤2:=by rw[List.length_take];omega
 refine zS ?_
 refine V.l0 ?_
 refine zS ?_
 refine V.condP zP (fun hlt=>?_) (fun hlt=>?_)
 ·have hlt' : k<L.length:=by omega
  have hkp : k<ps.length:=by omega
  obtain⟨so1,so2,so3,so4,⟨kr,kr1,kr2,kr3⟩,so6⟩:=hsr k hlt' hkp
  have swZ : Sw 2 Z w (L.map c2):=hsw.loc hgx.1 (fun j hj=>hgx.2 j (hsw.ltN hj) (by have:=o3.from j hj;omega))
  obtain⟨wi,wo,hw1,hw2⟩:=swZ.at2 (by decide) (k:=k) (x:=c2 L[k]) (by simp[hlt'])
  have hwk:=hw1 .i64
  have hwl : yloadN 2 Z (.pointer (some ⟨wi,wo,none⟩))=some (.agg ⟨A2 L[k].1 L[k].2⟩):=(hw2 Z (.refl _)).1
  have hq:=so6
  rw[← kr3] at hq
  have bs:=hps k hkp
  have sv1:=few_nn bs.1 bs.2.1.1
  have sv2:=few_mst bs.1 bs.2.1.1
  have sv3:=mst_le bs.1 bs.2.1.1
  have sv4:=few_nn bs.1 bs.2.2.1
  have sv5:=few_mst bs.1 bs.2.2.1
  have sv6:=mst_le bs.1 bs.2.2.1
  have ett : tt (ps.take (k+1)) T.N[y]=add2 (tt (ps.take k) T.N[y]) (sv ps[k].1 ps[k].2):=by
   rw[tk1 hkp];simp only[tt,List.foldl_append,List.foldl_cons,List.foldl_nil]
  generalize tt (ps.take k) T.N[y]=tk at *
  obtain⟨ta,tb⟩:=tk
  simp only at hbd ez
  refine zS ?_
  have zf:=And.intro @hwk<|@hwl
  refine V.lz ?_
  refine V.heap (fun Y=>Grow Z Y∧Bx Y Z.next (A2 L[k].1 L[k].2) 74) ⟨?_,?_⟩ ?_
  ·exact zW
  ·exact zB
  rintro Z1 ⟨gz1,fz⟩
  have bz1:=bz.grow gz1
  have gZ1:=gZ.trans gz1
  have ez1:=ez.grow gz1
  refine zS ?_
  refine V.run ?_
  have zf:=And.intro bz1.2<|And.intro fz.2<|And.intro @LG_t22<|@LG_len
  refine VI.sz 3 ?_
  simp only[ds]
  refine VI.callA rfl (f137_ok (x:=L[k].1) (y:=L[k].2) (z:=ps[k].2) kr1 so1 (h.grow gZ1) kr2 s4 (hm.grow gZ1) so2 hq so3 so4) zA (fun Z2 gz2=>?_)
  rw[kr3]
  have ez2:=ez1.grow gz2
  generalize hsv : sv ps[k].1 ps[k].2=sk at *
  obtain⟨sa,sb⟩:=sk
  have hsa : few ps[k].1 ps[k].2.1=sa:=by have:=congrArg Prod.fst hsv;exact this
  have hsb : mst ps[k].1 ps[k].2.2=sb:=by have:=congrArg Prod.snd hsv;exact this
  have gZZ2 : Grow Z Z2:=gz1.trans gz2
  have lz2:=gZZ2.1
  refine VI.l0 ?_
  refine V.heap (fun Y=>Grow Z2 Y∧Bx Y Z2.next (A2 sa sb) 69) ⟨?_,?_⟩ ?_
  ·exact zW
  ·exact zB
  rintro Z3 ⟨gz3,pz⟩
  have ez3:=ez2.grow gz3
  have gZZ3 : Grow Z Z3:=gZZ2.trans gz3
  have lz3:=ez3.1
  have lp3:=pz.1
  refine zS ?_
  have zf:=And.intro ez3.2<|pz.2
  refine V.lz ?_
  refine V.heap (fun Y=>Y.next=Z3.next∧Bx Y H1.next (A2 (ta+sa) tb) 69∧Bx Y Z2.next (A2 sa sb) 69∧∀ j,j≠H1.next→Y.get j=Z3.get j) ⟨?_,?_,?_,?_⟩ ?_
  ·simp only[nx]
  ·exact zB
  ·exact zB
  ·intro j hj
   rw[Heap.get_set,if_neg hj]
  rintro Z4 ⟨n4,e4,p4,t4⟩
  refine zS ?_
  have zf:=And.intro e4.2<|p4.2
  refine V.lz ?_
  refine V.heap (fun Y=>Y.next=Z3.next∧Bx Y H1.next (A2 (ta+sa) (tb+sb)) 69∧∀ j,j≠H1.next→Y.get j=Z3.get j) ⟨?_,?_,?_⟩ ?_
  ·simp only[nx];exact n4
  ·have:=e4.1
   exact zB
  ·intro j hj
   rw[Heap.get_set,if_neg hj,t4 j hj]
  rintro Z5 ⟨n5,e5,t5⟩
  refine zS ?_
  refine V.l0 ?_
  refine V.nil (Or.inl ⟨rfl,L.length-(k+1),by omega,?_⟩)
  refine⟨k+1,by omega,rfl,rfl,⟨by rw[n5];exact Nat.le_trans hg.1 gZZ3.1,fun j hj=>?_⟩,⟨by rw[n5];exact Nat.le_trans hgx.1 gZZ3.1,fun j hj hne=>?_⟩,?_,zF,zK⟩
  ·rw[t5 j (by omega),gZZ3.2 j (by have:=hg.1;omega)]
   exact hg.2 j hj
  ·rw[t5 j hne,gZZ3.2 j (by have:=hgx.1;omega)]
   exact hgx.2 j hj hne
  ·rw[ett]
   exact e5
 ·have ekl : k=L.length:=by omega
  have etk : ps.take k=ps:=List.take_of_length_le (by omega)
  rw[etk] at ez
  have ldz:=dz.1
  refine V.exit ?_
  refine zX ?_
  refine V.nil (Or.inr ⟨by simp,?_⟩)
  refine zX ?_
  refine zS ?_
  have zf:=And.intro ez.2<|dz.2
  refine V.lz ?_
  refine zS ?_
  refine V.ret (V.rets rfl (Lv.retG (by simp +contextual (disch:=first|omega|simp only[nx];omega) only[D1,cells_alloc_at,cells_alloc_ne,cells_set_at,cells_set_ne,yres,yres1,yresL,qA,qB,qC,D5,hF,hA,↓reduceIte,qD,qE,cells_set];rfl) ?_ ?_))
  ·exact zW
  ·unfold car
   rw[if_neg hx0]
end Go.Xe.TFX
