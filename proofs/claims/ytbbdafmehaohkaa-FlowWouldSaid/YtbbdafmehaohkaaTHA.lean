/- What the functions of the layer flow come to: the ledger. Conditions: none. -/
import Derived.Test.YtbbdafmehaohkaaZx
-- MOD TF
namespace Go.Xe.TFX
open Go Go.Xe Go.Proofs
open Nat renaming reduceLeDiff → qA, reduceSub → qB, reduceAdd → qC, reduceEqDiff → qD, reduceLT → qE
open Int renaming reduceNegSucc → qF, reduceEq → qG
open Go.Xe.V renaming seq → sA, block → sB, scope → sC, skip → sD, close → sE
open Go.Xe renaming pth → P
open Go.Xe.Flw
set_option maxRecDepth 100000
set_option maxHeartbeats 3200000
set_option linter.unusedSimpArgs false
noncomputable def d120 : FCode:=(.seq (.run (.go (.box 69 (tm 0)) (P 2)::
.go (.move (.con (.int .i64 (.ofNat 0)))) (P 4)::
[])) (.seq (.run (.go (.move (tm 1)) (P 5)::
.go (.loadN 2 (tm 2)) (P 6)::
.go (.move (tm 1)) (P 7)::
.go (.call (.con (.func (.func 133) ⟨[]⟩ ⟨[]⟩)) [(tm 6),(tm 7)]) (P 8)::
.go (.field1 1 (tm 8)) (P 9)::
.go (.bin .sub 3 (tm 5) (tm 9)) (P 10)::
.go (.move (tm 10)) (P 4)::
[])) .ret))
theorem de120 : @compF Try.prog (Gl.none Try.prog) Try.f120 2=.mk d120 (mkTT 11) [(P 0),(P 1)] [.tmp (P 4)]:=by kernel_rfl
theorem dg120 : Try.prog.funcs[120]?=some Try.f120:=Try.func120
theorem do120 : okF Try.prog Try.f120=true:=by kernel_rfl
noncomputable def d121 : FCode:=(.seq (.run (.go (.box 69 (tm 0)) (P 2)::
.go (.move (.con (.int .i64 (.ofNat 0)))) (P 4)::
[])) (.seq (.run (.go (.move (tm 1)) (P 5)::
.go (.loadN 2 (tm 2)) (P 6)::
.go (.move (tm 1)) (P 7)::
.go (.call (.con (.func (.func 133) ⟨[]⟩ ⟨[]⟩)) [(tm 6),(tm 7)]) (P 8)::
.go (.field1 0 (tm 8)) (P 9)::
.go (.bin .sub 3 (tm 5) (tm 9)) (P 10)::
.go (.move (tm 10)) (P 4)::
[])) .ret))
theorem de121 : @compF Try.prog (Gl.none Try.prog) Try.f121 2=.mk d121 (mkTT 11) [(P 0),(P 1)] [.tmp (P 4)]:=by kernel_rfl
theorem dg121 : Try.prog.funcs[121]?=some Try.f121:=Try.func121
theorem do121 : okF Try.prog Try.f121=true:=by kernel_rfl
noncomputable def d124 : FCode:=(.seq (.run (.go (.box 69 (tm 0)) (P 2)::
.go (.box 69 (tm 1)) (P 3)::
.go (.alloc 69 [(.int .i64 (.ofNat 0)),(.int .i64 (.ofNat 0))]) (P 4)::
[])) (.seq (.run (.go (.fieldAddr 0 (tm 2)) (P 5)::
.go (.load1 (tm 5)) (P 6)::
.go (.fieldAddr 0 (tm 3)) (P 7)::
.go (.load1 (tm 7)) (P 8)::
.go (.mm true [(tm 6),(tm 8)]) (P 9)::
.go (.fieldAddr 1 (tm 2)) (P 10)::
.go (.load1 (tm 10)) (P 11)::
.go (.fieldAddr 1 (tm 3)) (P 12)::
.go (.load1 (tm 12)) (P 13)::
.go (.mm false [(tm 11),(tm 13)]) (P 14)::
.go (.build [(.int .i64 (.ofNat 0)),(.int .i64 (.ofNat 0))] [(0,1,(tm 9)),(1,1,(tm 14))]) (P 15)::
.un (.store 2 (tm 4) (tm 15))::
[])) .ret))
theorem de124 : @compF Try.prog (Gl.none Try.prog) Try.f124 2=.mk d124 (mkTT 16) [(P 0),(P 1)] [.many (P 4) 2]:=by kernel_rfl
theorem dg124 : Try.prog.funcs[124]?=some Try.f124:=Try.func124
theorem do124 : okF Try.prog Try.f124=true:=by kernel_rfl
noncomputable def d126 : FCode:=(.seq (.run (.go (.alloc 69 [(.int .i64 (.ofNat 0)),(.int .i64 (.ofNat 0))]) (P 0)::
[])) (.seq (.run (.go (.build [(.int .i64 (.ofNat 0)),(.int .i64 (.ofNat 0))] [(0,1,(.con (.int .i64 (.ofNat 0)))),(1,1,(.con (.int .i64 (.ofNat 9223372036854775807))))]) (P 1)::
.un (.store 2 (tm 0) (tm 1))::
[])) .ret))
theorem de126 : @compF Try.prog (Gl.none Try.prog) Try.f126 0=.mk d126 (mkTT 2) [] [.many (P 0) 2]:=by kernel_rfl
theorem dg126 : Try.prog.funcs[126]?=some Try.f126:=Try.func126
theorem do126 : okF Try.prog Try.f126=true:=by kernel_rfl
noncomputable def d127 : FCode:=(.seq (.run (.go (.box 69 (tm 0)) (P 1)::
.go (.move (.con (.bool false))) (P 2)::
[])) (.seq (.run (.go (.fieldAddr 0 (tm 1)) (P 3)::
.go (.load1 (tm 3)) (P 4)::
.go (.fieldAddr 1 (tm 1)) (P 5)::
.go (.load1 (tm 5)) (P 6)::
.go (.bin .gtr 3 (tm 4) (tm 6)) (P 7)::
.go (.move (tm 7)) (P 2)::
[])) .ret))
theorem de127 : @compF Try.prog (Gl.none Try.prog) Try.f127 1=.mk d127 (mkTT 8) [(P 0)] [.tmp (P 2)]:=by kernel_rfl
theorem dg127 : Try.prog.funcs[127]?=some Try.f127:=Try.func127
theorem do127 : okF Try.prog Try.f127=true:=by kernel_rfl
noncomputable def d75 : FCode:=(.seq (.run (.go (.box 38 (tm 0)) (P 1)::
.go (.alloc 135 [(.slice none 0 0),(.slice none 0 0),(.slice none 0 0),(.slice none 0 0),(.bool false),(.bool false),(.bool false),(.bool false),(.bool false),(.bool false),(.bool false),(.bool false),(.bool false),(.bool false),(.bool false),(.bool false),(.bool false),(.bool false),(.bool false),(.bool false),.nilFunc,.nilFunc]) (P 2)::
[])) (.seq (.run (.go (.loadN 4 (tm 1)) (P 3)::
.go (.build [.nilFunc,.nilFunc] [(0,1,(.con (.func (.func 120) ⟨[]⟩ ⟨[]⟩))),(1,1,(.con (.func (.func 121) ⟨[]⟩ ⟨[]⟩)))]) (P 4)::
.go (.build [(.slice none 0 0),(.slice none 0 0),(.slice none 0 0),(.slice none 0 0),(.bool false),(.bool false),(.bool false),(.bool false),(.bool false),(.bool false),(.bool false),(.bool false),(.bool false),(.bool false),(.bool false),(.bool false),(.bool false),(.bool false),(.bool false),(.bool false),.nilFunc,.nilFunc] [(0,4,(tm 3)),(20,2,(tm 4))]) (P 5)::
.un (.store 22 (tm 2) (tm 5))::
[])) .ret))
theorem de75 : @compF Try.prog (Gl.none Try.prog) Try.f75 1=.mk d75 (mkTT 6) [(P 0)] [.many (P 2) 22]:=by kernel_rfl
theorem dg75 : Try.prog.funcs[75]?=some Try.f75:=Try.func75
theorem do75 : okF Try.prog Try.f75=true:=by kernel_rfl
noncomputable def d138 : FCode:=(.seq (.run (.go (.box 135 (tm 0)) (P 2)::
.go (.box 74 (tm 1)) (P 3)::
.go (.alloc 69 [(.int .i64 (.ofNat 0)),(.int .i64 (.ofNat 0))]) (P 4)::
[])) (.seq (.run (.go (.fieldAddr 0 (tm 2)) (P 5)::
.go (.fieldAddr 2 (tm 5)) (P 6)::
.go (.load1 (tm 6)) (P 7)::
.go (.fieldAddr 1 (tm 3)) (P 8)::
.go (.load1 (tm 8)) (P 9)::
.go (.bin .add 3 (tm 9) (.con (.int .i64 (.ofNat 1)))) (P 10)::
.go (.indexAddr none 2 (tm 7) (tm 10)) (P 11)::
.go (.loadN 2 (tm 11)) (P 12)::
.un (.store 2 (tm 4) (tm 12))::
[])) .ret))
theorem de138 : @compF Try.prog (Gl.none Try.prog) Try.f138 2=.mk d138 (mkTT 13) [(P 0),(P 1)] [.many (P 4) 2]:=by kernel_rfl
theorem dg138 : Try.prog.funcs[138]?=some Try.f138:=Try.func138
theorem do138 : okF Try.prog Try.f138=true:=by kernel_rfl
noncomputable def d144 : FCode:=(.seq (.run (.go (.box 135 (tm 0)) (P 2)::
.go (.box 74 (tm 1)) (P 3)::
.go (.alloc 69 [(.int .i64 (.ofNat 0)),(.int .i64 (.ofNat 0))]) (P 4)::
[])) (.seq (.seq (.draw 8 (.go (.fieldAddr 0 (tm 3)) (P 5)::
.go (.load1 (tm 5)) (P 6)::
.go (.fieldAddr 1 (tm 3)) (P 7)::
.go (.load1 (tm 7)) (P 8)::
.go (.fieldAddr 4 (tm 2)) (P 9)::
.go (.indexAddr (some 4) 4 (tm 9) (tm 6)) (P 10)::
.go (.indexAddr (some 4) 1 (tm 10) (tm 8)) (P 11)::
.go (.load1 (tm 11)) (P 12)::
[]) [.ok,.ok,.ok,.ok,.ok,.ok,.ok,.ok]) (.cond (tm 12) (.seq (.run (.go (.call (.con (.func (.func 126) ⟨[]⟩ ⟨[]⟩)) []) (P 13)::
.un (.store 2 (tm 4) (tm 13))::
[])) .ret) .skip)) (.seq (.draw 12 (.go (.fieldAddr 0 (tm 2)) (P 14)::
.go (.fieldAddr 0 (tm 14)) (P 15)::
.go (.load1 (tm 15)) (P 16)::
.go (.fieldAddr 0 (tm 3)) (P 17)::
.go (.load1 (tm 17)) (P 18)::
.go (.indexAddr none 1 (tm 16) (tm 18)) (P 19)::
.go (.load1 (tm 19)) (P 20)::
.go (.fieldAddr 1 (tm 3)) (P 21)::
.go (.load1 (tm 21)) (P 22)::
.go (.indexAddr none 2 (tm 20) (tm 22)) (P 23)::
.go (.loadN 2 (tm 23)) (P 24)::
.un (.store 2 (tm 4) (tm 24))::
[]) [.ok,.ok,.ok,.ok,.ok,.ok,.ok,.ok,.ok,.ok,.ok,.ok]) .ret)))
theorem de144 : @compF Try.prog (Gl.none Try.prog) Try.f144 2=.mk d144 (mkTT 25) [(P 0),(P 1)] [.many (P 4) 2]:=by kernel_rfl
theorem dg144 : Try.prog.funcs[144]?=some Try.f144:=Try.func144
theorem do144 : okF Try.prog Try.f144=true:=by kernel_rfl
def LG (c b r n : Value) (u : Nat→Bool) : List Value:=[c,b,r,n]++An 16 (fun i=>.bool (u i))++[.func (.func 120) ⟨[]⟩ ⟨[]⟩,.func (.func 121) ⟨[]⟩ ⟨[]⟩]
section
variable {c b r n : Value} {u : Nat→Bool}
theorem LG_len : (LG c b r n u).length=22:=rfl
theorem LG_0 : (LG c b r n u)[0]?=some c:=rfl
theorem LG_1 : (LG c b r n u)[1]?=some b:=rfl
theorem LG_2 : (LG c b r n u)[2]?=some r:=rfl
theorem LG_3 : (LG c b r n u)[3]?=some n:=rfl
theorem LG_20 : (LG c b r n u)[20]?=some (.func (.func 120) ⟨[]⟩ ⟨[]⟩):=rfl
theorem LG_21 : (LG c b r n u)[21]?=some (.func (.func 121) ⟨[]⟩ ⟨[]⟩):=rfl
theorem LG_t4 : (LG c b r n u).take 4=[c,b,r,n]:=rfl
theorem LG_t22 : (LG c b r n u).take 22=LG c b r n u:=rfl
theorem LG_u {k g : Nat} (hk : k<4) (hg : g<4) : (LG c b r n u)[4+k*4+g]?=some (.bool (u (k*4+g))):=by
 unfold LG
 rw[List.append_assoc,List.getElem?_append_right (by simp;omega),List.getElem?_append_left (by simp[An];omega)]
 have e : 4+k*4+g-[c,b,r,n].length=k*4+g:=by simp;omega
 rw[e,An_get (by omega)]
end
theorem few_w {r : R2} {x : Int} (hr : isRate r) (h0 : 0≤x) (h1 : x≤1000000) : W (x-(dd x r).2)=few r x∧W (x-(dd x r).1)=mst r x:=by
 obtain⟨a,b,c⟩:=hr
 have m1:=Int.mul_nonneg h0 a
 have m2:=Int.mul_nonneg h0 (Int.le_trans a b)
 have m3 : x*r.2≤1000000*1000:=Int.mul_le_mul h1 c (Int.le_trans a b) (by omega)
 have m4 : x*r.1≤1000000*1000:=Int.mul_le_mul h1 (Int.le_trans b c) a (by omega)
 have e1 : W (x*r.1)=x*r.1:=wrap_i64 (by omega) (by omega)
 have e2 : W (x*r.2)=x*r.2:=wrap_i64 (by omega) (by omega)
 have e3 : W (x*r.2+999)=x*r.2+999:=wrap_i64 (by omega) (by omega)
 have t1 : (x*r.1).tdiv 1000=x*r.1/1000:=Int.tdiv_eq_ediv_of_nonneg m1
 have t2 : (x*r.2+999).tdiv 1000=(x*r.2+999)/1000:=Int.tdiv_eq_ediv_of_nonneg (by omega)
 unfold dd few mst
 simp only[e1,e2,e3,t1,t2]
 generalize x*r.1=p at *
 generalize x*r.2=q at *
 have w1 : W (p/1000)=p/1000:=wrap_i64 (by omega) (by omega)
 have w2 : W ((q+999)/1000)=(q+999)/1000:=wrap_i64 (by omega) (by omega)
 rw[w1,w2]
 exact⟨wrap_i64 (by omega) (by omega),wrap_i64 (by omega) (by omega)⟩
theorem f120_ok {r : R2} {x : Int} (hr : isRate r) (h0 : 0≤x) (h1 : x≤1000000) (H : Heap) : Gives Try.prog 120 [.agg ⟨r2 r⟩,I x] H (I (few r x)):=by
 have e:=(few_w hr h0 h1).1
 obtain⟨a,b⟩:=r
 refine F.entryL rfl dg120 do120 de120 rfl (by kernel_rfl) ?_
 simp only[sets]
 refine V.re [(0,.agg ⟨A2 a b⟩),(1,I x)] (N:=11) zE zY ?_
 intro t hF hA
 simp only[Kn,and_true] at hA
 refine zS ?_
 refine V.l0 ?_
 refine V.heap (fun X=>Grow H X∧Bx X H.next (A2 a b) 69) ⟨?_,?_⟩ ?_
 ·exact zW
 ·exact zB
 rintro H1 ⟨g1,b1⟩
 refine zS ?_
 refine V.run ?_
 have zf:=b1.2
 refine VI.sz 3 ?_
 simp only[ds]
 refine VI.callA rfl (f133_ok x (a,b) _) zA (fun H2 g2=>?_)
 have zf:=@e
 refine VI.lz ?_
 refine zS ?_
 refine V.ret (V.rets rfl (Lv.retG (by simp +contextual (disch:=first|omega|simp only[nx];omega) only[D1,cells_alloc_at,cells_alloc_ne,cells_set_at,cells_set_ne,yres,yres1,yresL,qA,qB,qC,D5,hF,hA,↓reduceIte,qD,qE];rfl) ?_ ?_))
 ·exact g1.trans g2
 ·rw[← e]
theorem f121_ok {r : R2} {x : Int} (hr : isRate r) (h0 : 0≤x) (h1 : x≤1000000) (H : Heap) : Gives Try.prog 121 [.agg ⟨r2 r⟩,I x] H (I (mst r x)):=by
 have e:=(few_w hr h0 h1).2
 obtain⟨a,b⟩:=r
 refine F.entryL rfl dg121 do121 de121 rfl (by kernel_rfl) ?_
 simp only[sets]
 refine V.re [(0,.agg ⟨A2 a b⟩),(1,I x)] (N:=11) zE zY ?_
 intro t hF hA
 simp only[Kn,and_true] at hA
 refine zS ?_
 refine V.l0 ?_
 refine V.heap (fun X=>Grow H X∧Bx X H.next (A2 a b) 69) ⟨?_,?_⟩ ?_
 ·exact zW
 ·exact zB
 rintro H1 ⟨g1,b1⟩
 refine zS ?_
 refine V.run ?_
 have zf:=b1.2
 refine VI.sz 3 ?_
 simp only[ds]
 refine VI.callA rfl (f133_ok x (a,b) _) zA (fun H2 g2=>?_)
 have zf:=@e
 refine VI.lz ?_
 refine zS ?_
 refine V.ret (V.rets rfl (Lv.retG (by simp +contextual (disch:=first|omega|simp only[nx];omega) only[D1,cells_alloc_at,cells_alloc_ne,cells_set_at,cells_set_ne,yres,yres1,yresL,qA,qB,qC,D5,hF,hA,↓reduceIte,qD,qE];rfl) ?_ ?_))
 ·exact g1.trans g2
 ·rw[← e]
def com (a b : R2) : R2:=(max a.1 b.1,min a.2 b.2)
theorem f124_ok (p q : R2) (H : Heap) : Gives Try.prog 124 [.agg ⟨r2 p⟩,.agg ⟨r2 q⟩] H (.agg ⟨r2 (com p q)⟩):=by
 obtain⟨a,b⟩:=p
 obtain⟨x,y⟩:=q
 have e1 : (if x > a then x else a)=max a x:=by split<;>omega
 have e2 : (if y<b then y else b)=min b y:=by split<;>omega
 refine F.entryL rfl dg124 do124 de124 rfl (by kernel_rfl) ?_
 simp only[sets]
 refine V.re [(0,.agg ⟨A2 a b⟩),(1,.agg ⟨A2 x y⟩)] (N:=16) zE zY ?_
 intro t hF hA
 simp only[Kn,and_true] at hA
 refine zS ?_
 refine V.l0 ?_
 refine zS ?_
 refine V.l0 ?_
 refine zS ?_
 refine V.ret (V.rets rfl (Lv.retG (by simp +contextual (disch:=first|omega|simp only[nx];omega) only[D1,cells_alloc_at,cells_alloc_ne,cells_set_at,cells_set_ne,yres,yres1,yresL,qA,qB,qC,D5,hF,hA,↓reduceIte,qD,qE];rfl) ?_ ?_))
 ·exact zW
 ·show Value.agg ⟨[I (if x > a then x else a),I (if y<b then y else b)]⟩=_
  rw[e1,e2]
  rfl
theorem f126_ok (H : Heap) : Gives Try.prog 126 [] H (.agg ⟨A2 0 9223372036854775807⟩):=by
 refine F.entryL rfl dg126 do126 de126 rfl (by kernel_rfl) ?_
 simp only[sets]
 refine V.re [] (N:=2) zE zY ?_
 intro t hF hA
 refine zS ?_
 refine V.l0 ?_
 refine zS ?_
 refine V.l0 ?_
 refine zS ?_
 refine V.ret (V.rets rfl (Lv.retG (by simp +contextual (disch:=first|omega|simp only[nx];omega) only[D1,cells_alloc_at,cells_alloc_ne,cells_set_at,cells_set_ne,yres,yres1,yresL,qA,qB,qC,D5,hF,hA,↓reduceIte,qD,qE];rfl) ?_ ?_))
 ·exact zW
 ·rfl
theorem f127_ok (p : R2) (H : Heap) : Gives Try.prog 127 [.agg ⟨r2 p⟩] H (.bool (decide (p.2<p.1))):=by
 obtain⟨a,b⟩:=p
 refine F.entryL rfl dg127 do127 de127 rfl (by kernel_rfl) ?_
 simp only[sets]
 refine V.re [(0,.agg ⟨A2 a b⟩)] (N:=8) zE zY ?_
 intro t hF hA
 simp only[Kn,and_true] at hA
 refine zS ?_
 refine V.l0 ?_
 refine zS ?_
 refine V.l0 ?_
 refine zS ?_
 refine V.ret (V.rets rfl (Lv.retG (by simp +contextual (disch:=first|omega|simp only[nx];omega) only[D1,cells_alloc_at,cells_alloc_ne,cells_set_at,cells_set_ne,yres,yres1,yresL,qA,qB,qC,D5,hF,hA,↓reduceIte,qD,qE];rfl) ?_ ?_))
 ·exact zW
 ·rfl
theorem f75_ok {H : Heap} {c b r n : Value} {T : Tb} (h : TV H c b r n T) : Gives Try.prog 75 [.agg ⟨[c,b,r,n]⟩] H (.agg ⟨LG c b r n fun _=>false⟩):=by
 obtain⟨p1,q1,_,_⟩:=sl1 h.c.isS
 obtain⟨p2,q2,_,_⟩:=sl1 (rp.sl h.b)
 obtain⟨p3,q3,_,_⟩:=sl1 (rp.sl h.r)
 obtain⟨p4,q4,_,_⟩:=sl1 (rp.sl h.n)
 refine F.entryL rfl dg75 do75 de75 rfl (by kernel_rfl) ?_
 simp only[sets]
 refine V.re [(0,.agg ⟨[c,b,r,n]⟩)] (N:=6) zE zY ?_
 intro t hF hA
 simp only[Kn,and_true] at hA
 refine zS ?_
 refine V.l0 ?_
 refine V.heap (fun X=>Grow H X∧Bx X H.next [c,b,r,n] 38∧Bx X (H.next+1) ([.slice none 0 0,.slice none 0 0,.slice none 0 0,.slice none 0 0]++[.bool false,.bool false,.bool false,.bool false,.bool false,.bool false,.bool false,.bool false,.bool false,.bool false,.bool false,.bool false,.bool false,.bool false,.bool false,.bool false]++[.nilFunc,.nilFunc]) 135) ⟨?_,?_,?_⟩ ?_
 ·exact zW
 ·exact zB
 ·exact zB
 rintro H1 ⟨g1,b1,c1⟩
 simp only[List.cons_append,List.nil_append] at c1
 have lc:=c1.1
 refine zS ?_
 have zf:=And.intro b1.2<|And.intro c1.2<|And.intro @p1<|And.intro @p2<|And.intro @p3<|@p4
 refine V.lz ?_
 refine zS ?_
 refine V.ret (V.rets rfl (Lv.retG (by simp +contextual (disch:=first|omega|simp only[nx];omega) only[D1,cells_alloc_at,cells_alloc_ne,cells_set_at,cells_set_ne,yres,yres1,yresL,qA,qB,qC,D5,hF,hA,↓reduceIte,qD,qE,cells_set];rfl) ?_ ?_))
 ·exact zW
 ·rfl
def kc (x : Int×Int) : Value:=.agg ⟨A2 x.1 x.2⟩
def okK (x : Int×Int) : Prop:=(-10≤x.1∧x.1≤10)∧-10≤x.2∧x.2≤10
theorem kl_int {n : Int} (h : (Lit.int .i64 n).wf=true) (k : Nat) : Try.prog.keyLits (k+1) 3 [I n]=some [.int .i64 n]:=by
 unfold Program.keyLits
 simp only[Try.underlying3]
 rw[if_pos ⟨trivial,h⟩]
theorem wf_k {x : Int} (h1 : -1000≤x) (h2 : x≤1000) : (Lit.int .i64 x).wf=true:=by
 simp only[Lit.wf,Bool.and_eq_true,decide_eq_true_eq]
 show (-9223372036854775808 : Int)≤x∧x≤9223372036854775807
 omega
theorem kc_key {x : Int×Int} (h : okK x) : (keyOf Try.prog 74 (kc x)).isSome=true:=by
 obtain⟨a,b⟩:=x
 obtain⟨⟨h1,h2⟩,h3,h4⟩:=h
 simp only at h1 h2 h3 h4
 have ha:=wf_k (x:=a) (by omega) (by omega)
 have hb:=wf_k (x:=b) (by omega) (by omega)
 have c3 : Try.prog.cellsOf 3=1:=by kernel_rfl
 have c48 : Try.prog.cellsOf 74=2:=by kernel_rfl
 have h5 : (Program.keyType Try.prog 74 && (Value.agg ⟨[I a,I b]⟩).formed Try.prog 74)=true:=by kernel_rfl
 obtain⟨n,hn⟩ : ∃ n,Try.prog.types.size+1=n+2:=⟨Try.prog.types.size-1,by have : 2≤Try.prog.types.size:=Nat.le_of_ble_eq_true (by kernel_rfl);omega⟩
 unfold keyOf kc
 simp only[Try.underlying74]
 rw[if_pos h5,hn]
 unfold Program.keyLits
 simp only[Try.underlying74,c48]
 have e : (Value.agg ⟨[I a,I b]⟩).cells.toList=[I a,I b]:=rfl
 rw[e,if_pos ⟨rfl,by simp⟩]
 simp[c3,kl_int ha,kl_int hb]
theorem kc_ok : KeyOk Try.prog 74 kc okK where
 keyed:=by kernel_rfl
 keyish _:=rfl
 keyOf _ h:=kc_key h
 eq a b:=by
  obtain⟨a1,a2⟩:=a
  obtain⟨b1,b2⟩:=b
  simp[kc,valEq,cellsEq,cellEq]
def SZ (H : Heap) (i : Nat) (f : Int×Int→Option R2) : Prop:=MpF H i 74 kc (fun x=>(f x).map fun r=>.agg ⟨r2 r⟩)
theorem SZ.lt {H : Heap} {i : Nat} {f : Int×Int→Option R2} (h : SZ H i f) : i<H.next:=MpF.lt h
theorem SZ.grow {A B : Heap} (g : Grow A B) {i : Nat} {f : Int×Int→Option R2} (h : SZ A i f) : SZ B i f:=MpF.grow g h
theorem SZ.look {H : Heap} {i : Nat} {f : Int×Int→Option R2} (h : SZ H i f) {x y : Int} (hx : okK (x,y)) : ylookup Try.prog 74 (.agg ⟨[I 0,I 0]⟩) H (.map (some i)) (.agg ⟨[I x,I y]⟩) false=some (.agg ⟨A2 ((f (x,y)).getD (0,0)).1 ((f (x,y)).getD (0,0)).2⟩):=by
 have:=MpF.look kc_ok h hx (.agg ⟨[I 0,I 0]⟩)
 have e : kc (x,y)=.agg ⟨[I x,I y]⟩:=rfl
 rw[e] at this
 rw[this]
 cases f (x,y)<;>rfl
theorem SZ.upd {H : Heap} {i : Nat} {f : Int×Int→Option R2} (h : SZ H i f) {x y : Int} (hx : okK (x,y)) (a b : Int) :
  ∃ o,ymapUpdate Try.prog 74 H (.map (some i)) (.agg ⟨[I x,I y]⟩) (.agg ⟨[I a,I b]⟩)=some (H.set i o)∧SZ (H.set i o) i (fun z=>if z=(x,y) then some (a,b) else f z):=by
 obtain⟨o,h1,h2⟩:=MpF.upd kc_ok h hx (.agg ⟨[I a,I b]⟩)
 refine⟨o,h1,?_⟩
 obtain⟨es,k1,k2,k3⟩:=h2
 refine⟨es,k1,k2,fun z=>?_⟩
 rw[k3 z]
 simp only
 split<;>rfl
theorem f138_ok {H : Heap} {c b r n : Value} {u : Nat→Bool} {T : Tb} {k : Nat} {x y : Int} (ek : y+1=(k : Int)) (h : TV H c b r n T) (hk : k<T.Rt.length) (hl : T.Rt.length≤1048576) : Gives Try.prog 138 [.agg ⟨LG c b r n u⟩,.agg ⟨A2 x y⟩] H (.agg ⟨r2 T.Rt[k]⟩):=by
 obtain⟨i,o,hp,hx⟩:=h.r.at hk
 refine F.entryL rfl dg138 do138 de138 rfl (by kernel_rfl) ?_
 simp only[sets]
 refine V.re [(0,.agg ⟨LG c b r n u⟩),(1,.agg ⟨A2 x y⟩)] (N:=13) zE zY ?_
 intro t hF hA
 simp only[Kn,and_true] at hA
 refine zS ?_
 refine V.l0 ?_
 refine V.heap (fun X=>Grow H X∧Bx X H.next (LG c b r n u) 135∧Bx X (H.next+1) (A2 x y) 74∧Bx X (H.next+2) (A2 0 0) 69) ⟨?_,?_,?_,?_⟩ ?_
 ·exact zW
 ·exact zB
 ·exact zB
 ·exact zB
 rintro H1 ⟨g1,b1,c1,d1⟩
 obtain⟨hx1,_,_⟩:=hx _ g1
 refine zS ?_
 have zf:=And.intro b1.2<|And.intro c1.2<|And.intro d1.2<|And.intro @LG_2<|And.intro @ek<|And.intro @hp<|@hx1
 refine V.lz ?_
 refine zS ?_
 refine V.ret (V.rets rfl (Lv.retG (by simp +contextual (disch:=first|omega|simp only[nx];omega) only[D1,cells_alloc_at,cells_alloc_ne,cells_set_at,cells_set_ne,yres,yres1,yresL,qA,qB,qC,D5,hF,hA,↓reduceIte,qD,qE,cells_set];rfl) ?_ ?_))
 ·exact zW
 ·rfl
theorem f144_ok {H : Heap} {c b r n : Value} {u : Nat→Bool} {T : Tb} {k g : Nat} (h : TV H c b r n T) (hk : k<T.C.length) (hg : g<(T.C[k]).length) (hk4 : k<4) (hg4 : g<4) : Gives Try.prog 144 [.agg ⟨LG c b r n u⟩,.agg ⟨A2 k g⟩] H (.agg ⟨r2 (if u (k*4+g) then (0,9223372036854775807) else (T.C[k])[g])⟩):=by
 obtain⟨p,x,hp,hx⟩:=h.c.at rp hk
 have hpk:=hp .i64
 have hu:=LG_u (c:=c) (b:=b) (r:=r) (n:=n) (u:=u) hk4 hg4
 have hi1:=fun i=>idx_arr4 (len:=4) (o:=4) (i:=i) (k:=k) (kd:=.i64) hk4
 have hi2:=fun i=>idx_arr (len:=4) (o:=4+k*4) (i:=i) (k:=g) (kd:=.i64) hg4
 refine F.entryL rfl dg144 do144 de144 rfl (by kernel_rfl) ?_
 simp only[sets]
 refine V.re [(0,.agg ⟨LG c b r n u⟩),(1,.agg ⟨A2 k g⟩)] (N:=25) zE zY ?_
 intro t hF hA
 simp only[Kn,and_true] at hA
 refine zS ?_
 refine V.l0 ?_
 refine V.heap (fun X=>Grow H X∧Bx X H.next (LG c b r n u) 135∧Bx X (H.next+1) (A2 k g) 74∧Bx X (H.next+2) (A2 0 0) 69) ⟨?_,?_,?_,?_⟩ ?_
 ·exact zW
 ·exact zB
 ·exact zB
 ·exact zB
 rintro H1 ⟨g1,b1,c1,d1⟩
 obtain⟨hx1,hx2⟩:=hx _ g1
 obtain⟨i,o,hp2,hxx⟩:=hx2.at hg
 obtain⟨hx3,_,_⟩:=hxx H1 (.refl _)
 refine zS ?_
 have zf:=And.intro b1.2<|And.intro c1.2<|And.intro @hi1<|And.intro @hi2<|@hu
 refine V.dz ?_ ?_ rfl ?_
 ·exact zM
 ·simp only[dcAll,dcOk,wantD,List.cons_append,List.nil_append,true_and,and_true]
 refine zS ?_
 refine V.condB zP (fun hb=>?_) (fun hb=>?_)
 ·refine zS ?_
  refine V.run ?_
  refine VI.callA rfl (f126_ok H1) zA (fun H2 g2=>?_)
  have d2:=d1.grow g2
  have ld:=d2.1
  have n1:=d1.1
  have zf:=d2.2
  refine VI.lz ?_
  refine zS ?_
  refine V.ret (V.rets rfl (Lv.retG (by simp +contextual (disch:=first|omega|simp only[nx];omega) only[D1,cells_alloc_at,cells_alloc_ne,cells_set_at,cells_set_ne,yres,yres1,yresL,qA,qB,qC,D5,hF,hA,↓reduceIte,qD,qE,cells_set];rfl) ?_ ?_))
  ·have:=g1.trans g2
   exact zW
  ·rw[hb];rfl
 ·have n1:=d1.1
  refine zS ?_
  have zf:=And.intro b1.2<|And.intro c1.2<|And.intro d1.2<|And.intro @LG_0<|And.intro @hpk<|And.intro @hx1<|And.intro @hp2<|@hx3
  refine V.dz ?_ ?_ rfl ?_
  ·exact zM
  ·simp only[dcAll,dcOk,wantD,List.cons_append,List.nil_append,true_and,and_true]
  refine zS ?_
  refine V.ret (V.rets rfl (Lv.retG (by simp +contextual (disch:=first|omega|simp only[nx];omega) only[D1,cells_alloc_at,cells_alloc_ne,cells_set_at,cells_set_ne,yres,yres1,yresL,qA,qB,qC,D5,hF,hA,↓reduceIte,qD,qE,cells_set];rfl) ?_ ?_))
  ·exact zW
  ·rw[hb];rfl
end Go.Xe.TFX
