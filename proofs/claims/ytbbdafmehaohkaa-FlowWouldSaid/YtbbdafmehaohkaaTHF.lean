/- What the functions of the layer flow come to: sizes that are entered. Conditions: none. -/
import Derived.Test.YtbbdafmehaohkaaTHB
import Derived.Test.YtbbdafmehaohkaaZq
-- MOD TF
namespace Go.Xe.TFX
open Go Go.Xe Go.Proofs
open Nat renaming reduceLeDiff → qA, reduceSub → qB, reduceAdd → qC, reduceEqDiff → qD, reduceLT → qE
open Int renaming reduceNegSucc → qF, reduceEq → qG
open Go.Xe.V renaming seq → sA, block → sB, scope → sC, skip → sD, close → sE
open Go.Xe renaming pth → P
open Go.Xe.Flw
set_option maxRecDepth 100000
set_option maxHeartbeats 3200000
set_option linter.unusedSimpArgs false
noncomputable def d134 : FCode:=(.seq (.run (.go (.box 135 (tm 0)) (P 1)::
.go (.move (.con (.map none))) (P 2)::
[])) (.seq (.run (.go (.makeMap 74) (P 6)::
.go (.move (tm 6)) (P 3)::
[])) (.seq (.seq (.run (.go (.fieldAddr 0 (tm 1)) (P 7)::
.go (.fieldAddr 1 (tm 7)) (P 8)::
.go (.load1 (tm 8)) (P 9)::
.go (.len 0 (tm 9)) (P 10)::
.go (.move (.con (.int .i64 (.ofNat 0)))) (P 11)::
[])) (.block 0 (.loop (.seq (.run (.go (.bin .lss 3 (tm 11) (tm 10)) (P 12)::
[])) (.seq (.cond (tm 12) .skip (.exit 0)) (.seq (.block 1 (.seq (.run (.go (.move (tm 11)) (P 13)::
.go (.indexAddr none 2 (tm 9) (tm 11)) (P 14)::
.go (.loadN 2 (tm 14)) (P 15)::
.go (.alloc 69 [(.int .i64 (.ofNat 0)),(.int .i64 (.ofNat 0))]) (P 5)::
.go (.move (tm 13)) (P 4)::
.un (.store 2 (tm 5) (tm 15))::
[])) (.run (.go (.move (tm 3)) (P 16)::
.go (.move (tm 4)) (P 17)::
.go (.build [(.int .i64 (.ofNat 0)),(.int .i64 (.ofNat 0))] [(0,1,(tm 17)),(1,1,(.con (.int .i64 (.negSucc 0))))]) (P 18)::
.go (.loadN 2 (tm 5)) (P 19)::
.un (.mapUpdate 74 (tm 16) (tm 18) (tm 19))::
[])))) (.run (.go (.bin .add 3 (tm 11) (.con (.int .i64 (.ofNat 1)))) (P 20)::
.go (.move (tm 20)) (P 11)::
[])))))))) (.seq (.run (.go (.move (tm 3)) (P 21)::
.go (.move (tm 21)) (P 2)::
[])) .ret))))
theorem de134 : @compF Try.prog (Gl.none Try.prog) Try.f134 1=.mk d134 (mkTT 22) [(P 0)] [.tmp (P 2)]:=by kernel_rfl
theorem dg134 : Try.prog.funcs[134]?=some Try.f134:=Try.func134
theorem do134 : okF Try.prog Try.f134=true:=by kernel_rfl
noncomputable def d135 : FCode:=(.seq (.run (.go (.box 135 (tm 0)) (P 3)::
.go (.box 74 (tm 1)) (P 4)::
.go (.move (.con (.bool false))) (P 6)::
[])) (.seq (.draw 11 (.go (.move (tm 2)) (P 7)::
.go (.loadN 2 (tm 4)) (P 8)::
.go (.loadN 22 (tm 3)) (P 9)::
.go (.loadN 2 (tm 4)) (P 10)::
.go (.move (tm 2)) (P 11)::
.go (.call (.con (.func (.func 125) ⟨[]⟩ ⟨[]⟩)) [(tm 9),(tm 10),(tm 11)]) (P 12)::
.go (.loadN 22 (tm 3)) (P 13)::
.go (.loadN 2 (tm 4)) (P 14)::
.go (.call (.con (.func (.func 144) ⟨[]⟩ ⟨[]⟩)) [(tm 13),(tm 14)]) (P 15)::
.go (.call (.con (.func (.func 124) ⟨[]⟩ ⟨[]⟩)) [(tm 12),(tm 15)]) (P 16)::
.un (.mapUpdate 74 (tm 7) (tm 8) (tm 16))::
[]) [.ok,.rd none (.loadN 2 (tm 4)) (some (P 8)) [6,9,10],.ok,.ok,.ok,.ok,.rd none (.loadN 22 (tm 3)) (some (P 13)) [0],.rd none (.loadN 2 (tm 4)) (some (P 14)) [0],.ok,.ok,.ok]) (.seq (.run (.go (.move (tm 2)) (P 17)::
.go (.loadN 2 (tm 4)) (P 18)::
.go (.lookup 74 (.agg ⟨[(.int .i64 (.ofNat 0)),(.int .i64 (.ofNat 0))]⟩) (tm 17) (tm 18) false) (P 19)::
.go (.call (.con (.func (.func 127) ⟨[]⟩ ⟨[]⟩)) [tm 19]) (P 20)::
.go (.un .not (tm 20)) (P 21)::
.go (.move (tm 21)) (P 6)::
[])) .ret)))
theorem de135 : @compF Try.prog (Gl.none Try.prog) Try.f135 3=.mk d135 (mkTT 22) [(P 0),(P 1),(P 2)] [.tmp (P 6)]:=by kernel_rfl
theorem dg135 : Try.prog.funcs[135]?=some Try.f135:=Try.func135
theorem do135 : okF Try.prog Try.f135=true:=by kernel_rfl
def bf (B : List R2) (z : Int×Int) : Option R2:=if z.2=-1∧0≤z.1 then B[z.1.toNat]? else none
theorem bf_s {B : List R2} {k : Nat} (h : k<B.length) : bf (B.take (k+1))=fun z=>if z=((k : Int),(-1 : Int)) then some B[k] else bf (B.take k) z:=by
 funext z
 obtain⟨a,b⟩:=z
 unfold bf
 simp only[Prod.mk.injEq]
 by_cases h1 : b=-1∧0≤a
 ·rw[if_pos h1]
  by_cases h2 : a=k
  ·rw[if_pos ⟨h2,h1.1⟩,h2]
   simp[h]
  ·rw[if_neg (fun c=>h2 c.1),if_pos h1,List.getElem?_take,List.getElem?_take]
   by_cases h3 : a.toNat<k
   ·rw[if_pos h3,if_pos (by omega)]
   ·rw[if_neg h3,if_neg (by omega)]
 ·rw[if_neg h1,if_neg h1,if_neg (fun c=>h1 ⟨c.2,by omega⟩)]
theorem SZ.new (A : Heap) : SZ (A.alloc (.map 74 #[] 0)) A.next (bf []):=by
 have:=MpF.new A 74 kc
 obtain⟨es,h1,h2,h3⟩:=this
 refine⟨es,h1,h2,fun z=>?_⟩
 rw[h3 z]
 simp only
 unfold bf
 split<;>simp
theorem f134_ok {H : Heap} {c b r n : Value} {u : Nat→Bool} {T : Tb} (h : TV H c b r n T) (hB : T.B.length≤10) : F Try.prog 134 ⟨[.agg ⟨LG c b r n u⟩]⟩ H (fun w X=>Grow H X∧∃ m,w=.map (some m)∧H.next≤m∧SZ X m (bf T.B)):=by
 have hl:=h.b.len
 refine F.entryL rfl dg134 do134 de134 rfl (by kernel_rfl) ?_
 simp only[sets]
 refine V.re [(0,.agg ⟨LG c b r n u⟩)] (N:=22) zE zY ?_
 intro t hF hA
 simp only[Kn,and_true] at hA
 refine zS ?_
 refine V.l0 ?_
 refine V.heap (fun X=>Grow H X∧Bx X H.next (LG c b r n u) 135) ⟨?_,?_⟩ ?_
 ·exact zW
 ·exact zB
 rintro H1 ⟨g1,b1⟩
 have s0:=SZ.new H1
 refine zS ?_
 refine V.l0 ?_
 refine V.heap (fun X=>Grow H1 X∧SZ X H1.next (bf [])) ⟨?_,?_⟩ ?_
 ·exact zW
 ·exact s0
 rintro H2 ⟨g2,m2⟩
 have b2:=b1.grow g2
 refine zS ?_
 have zf:=And.intro b2.2<|And.intro @LG_1<|@hl
 refine V.lz ?_
 refine zS ?_
 refine V.loop (fun z t m X=>∃ (k : Nat),k≤T.B.length∧z=T.B.length-k∧m=[]∧Grow H1 X∧SZ X H1.next (bf (T.B.take k))∧Full 22 t∧Kn [(3,.map (some H1.next)),(9,b),(10,I T.B.length),(11,I k)] t) T.B.length ?_ ?_
 ·exact⟨0,by omega,by omega,rfl,g2,by rw[List.take_zero];exact m2,zF,zK⟩
 clear hF hA
 rintro z t m X ⟨k,hk,rfl,rfl,hg,hm,hF,hA⟩
 simp only[Kn,and_true] at hA
 refine zS ?_
 refine V.l0 ?_
 refine zS ?_
 refine V.condP zP (fun hlt=>?_) (fun hlt=>?_)
 ·have hlt' : k<T.B.length:=by omega
  obtain⟨i,o,hp,hx⟩:=h.b.at hlt'
  obtain⟨hx1,_,_⟩:=hx X (g1.trans hg)
  refine zS ?_
  have zf:=And.intro @hp<|@hx1
  refine V.lz ?_
  refine V.heap (fun Y=>Grow X Y∧Bx Y X.next (A2 T.B[k].1 T.B[k].2) 69) ⟨?_,?_⟩ ?_
  ·exact zW
  ·exact zB
  rintro X1 ⟨gx,fx⟩
  obtain⟨ob,u1,u2⟩:=(hm.grow gx).upd (x:=(k : Int)) (y:=-1) ⟨by simp only;omega,by simp only;omega⟩ T.B[k].1 T.B[k].2
  have hgX:=hg.trans gx
  refine zS ?_
  have zf:=And.intro fx.2<|@u1
  refine V.lz ?_
  refine zS ?_
  refine V.l0 ?_
  refine V.nil (Or.inl ⟨rfl,T.B.length-(k+1),by omega,?_⟩)
  refine⟨k+1,by omega,rfl,rfl,hgX.set (Nat.le_refl _) _,?_,zF,zK⟩
  rw[bf_s hlt']
  exact u2
 ·refine V.exit ?_
  refine zX ?_
  refine V.nil (Or.inr ⟨by simp,?_⟩)
  refine zX ?_
  have e : T.B.take k=T.B:=List.take_of_length_le (by omega)
  rw[e] at hm
  refine zS ?_
  refine V.l0 ?_
  refine zS ?_
  refine V.ret (V.rets rfl (Lv.retF (by simp +contextual (disch:=first|omega|simp only[nx];omega) only[D1,cells_alloc_at,cells_alloc_ne,cells_set_at,cells_set_ne,yres,yres1,yresL,qA,qB,qC,D5,hF,hA,↓reduceIte,qD,qE];rfl) ?_))
  exact⟨g1.trans hg,_,rfl,g1.1,hm⟩
theorem f135_ok {H : Heap} {c b r n : Value} {u : Nat→Bool} {T : Tb} {k g i : Nat} {f : Int×Int→Option R2} {ps : List (R2×R2)} (h : TV H c b r n T) (hs : sh T) (hG : grp T≤1048576) (hk : k<T.C.length) (hg : g<(T.C[k]).length) (hk4 : k<4) (hg4 : g<4) (hy : g<T.N.length) (hN : -50≤T.N[g].1∧T.N[g].1≤50∧-50≤T.N[g].2∧T.N[g].2≤50) (hm : SZ H i f)
  (hp : ps.length=(src k g (grp T)).length) (hsr : ∀ j (h1 : j<(src k g (grp T)).length) (h2 : j<ps.length),Src T f (src k g (grp T))[j] ps[j].2 ps[j].1) :
  F Try.prog 135 ⟨[.agg ⟨LG c b r n u⟩,.agg ⟨A2 k g⟩,.map (some i)]⟩ H (fun w X=>∃ v : R2,v=com (car T.N[g] k ps) (if u (k*4+g) then (0,9223372036854775807) else (T.C[k])[g])∧w=.bool (decide (¬ v.2<v.1))∧GrowX i H X∧SZ X i (fun z=>if z=((k : Int),(g : Int)) then some v else f z)):=by
 have li:=hm.lt
 have hxy : okK ((k : Int),(g : Int)):=⟨by simp only;omega,by simp only;omega⟩
 have vL:=vEq_LG (u:=u) h.c.isS (rp.sl h.b) (rp.sl h.r) (rp.sl h.n)
 refine F.entryL rfl dg135 do135 de135 rfl (by kernel_rfl) ?_
 simp only[sets]
 refine V.re [(0,.agg ⟨LG c b r n u⟩),(1,.agg ⟨A2 k g⟩),(2,.map (some i))] (N:=22) zE zY ?_
 intro t hF hA
 simp only[Kn,and_true] at hA
 refine zS ?_
 refine V.l0 ?_
 refine V.heap (fun X=>Grow H X∧Bx X H.next (LG c b r n u) 135∧Bx X (H.next+1) (A2 k g) 74) ⟨?_,?_,?_⟩ ?_
 ·exact zW
 ·exact zB
 ·exact zB
 rintro H1 ⟨g1,b1,c1⟩
 refine zS ?_
 refine V.draw ?_
 have zf:=And.intro b1.2<|And.intro c1.2<|And.intro @LG_t22<|@LG_len
 refine VD.nz 5 ?_
 simp only[ds]
 refine VD.callA zA (f125_ok (x:=k) (y:=g) hxy (h.grow g1) hs hG hy hN (hm.grow g1) hp hsr) zA (fun H2 g2=>?_)
 have b2:=b1.grow g2
 have c2':=c1.grow g2
 have g12:=g1.trans g2
 have zf:=And.intro b2.2<|And.intro c2'.2<|And.intro @LG_t22<|@LG_len
 refine VD.nz 2 ?_
 simp only[ds]
 refine VD.callA zA (f144_ok (h.grow g12) hk hg hk4 hg4) zA (fun H3 g3=>?_)
 have b3:=b2.grow g3
 have c3:=c2'.grow g3
 have g13:=g12.trans g3
 refine VD.callA zA (f124_ok (car T.N[g] k ps) (if u (k*4+g) then (0,9223372036854775807) else (T.C[k])[g]) H3) zA (fun H4 g4=>?_)
 have b4:=b3.grow g4
 have c4:=c3.grow g4
 have g14:=g13.trans g4
 generalize hv : com (car T.N[g] k ps) (if u (k*4+g) then (0,9223372036854775807) else (T.C[k])[g])=v
 obtain⟨va,vb⟩:=v
 obtain⟨ob,u1,u2⟩:=(hm.grow g14).upd hxy va vb
 have lc4:=c4.1
 have zf:=@u1
 refine VD.dz ?_ ?_ rfl ?_
 ·have m2:=g2.1
  have m3:=g3.1
  have m4:=g4.1
  exact zM
 ·simp only[dcAll,dcOk,wantD,List.cons_append,List.nil_append,true_and,and_true]
  have zf:=And.intro c1.2<|And.intro c2'.2<|And.intro c3.2<|And.intro c4.2<|And.intro b1.2<|And.intro b2.2<|And.intro b3.2<|And.intro b4.2<|And.intro @LG_t22<|@LG_len
  exact⟨zR,zR,zR⟩
 have gx : GrowX i H (H4.set i ob):=(g14.x i).set ob
 refine V.heap (fun X=>GrowX i H X∧Bx X (H.next+1) (A2 k g) 74∧SZ X i (fun z=>if z=((k : Int),(g : Int)) then some (va,vb) else f z)) ⟨gx,c4.set (by omega) _,u2⟩ ?_
 rintro H5 ⟨gx5,c5,m5⟩
 have hlk:=m5.look hxy
 simp only[if_true,Option.getD_some] at hlk
 refine zS ?_
 refine V.run ?_
 have zf:=And.intro c5.2<|@hlk
 refine VI.sz 3 ?_
 simp only[ds]
 refine VI.callA rfl (f127_ok (va,vb) H5) zA (fun H6 g6=>?_)
 refine VI.l0 ?_
 refine zS ?_
 refine V.ret (V.rets rfl (Lv.retF (by simp +contextual (disch:=first|omega|simp only[nx];omega) only[D1,cells_alloc_at,cells_alloc_ne,cells_set_at,cells_set_ne,yres,yres1,yresL,qA,qB,qC,D5,hF,hA,↓reduceIte,qD,qE];rfl) ?_))
 refine⟨(va,vb),rfl,?_,gx5.trans (g6.x i),m5.grow g6⟩
 rfl
end Go.Xe.TFX
/- What the functions of the layer flow come to: the cells one by one. Conditions: none. -/
-- MOD TF
namespace Go.Xe.TFX
open Go Go.Xe Go.Proofs
open Nat renaming reduceLeDiff → qA, reduceSub → qB, reduceAdd → qC, reduceEqDiff → qD, reduceLT → qE
open Int renaming reduceNegSucc → qF, reduceEq → qG
open Go.Xe.V renaming seq → sA, block → sB, scope → sC, skip → sD, close → sE
open Go.Xe renaming pth → P
open Go.Xe.Flw
set_option maxRecDepth 100000
set_option maxHeartbeats 3200000
set_option linter.unusedSimpArgs false
noncomputable def d119 : FCode:=(.seq (.run (.go (.fieldAddr 0 (tm 1)) (P 5)::
.go (.fieldAddr 0 (tm 5)) (P 6)::
.go (.load1 (tm 6)) (P 7)::
.go (.len 0 (tm 7)) (P 8)::
.go (.move (.con (.int .i64 (.ofNat 0)))) (P 9)::
[])) (.block 0 (.loop (.seq (.run (.go (.bin .lss 3 (tm 9) (tm 8)) (P 10)::
[])) (.seq (.cond (tm 10) .skip (.exit 0)) (.seq (.block 1 (.seq (.run (.go (.move (tm 9)) (P 11)::
.go (.move (tm 11)) (P 3)::
[])) (.seq (.run (.go (.fieldAddr 0 (tm 1)) (P 12)::
.go (.loadN 4 (tm 12)) (P 13)::
.go (.call (.con (.func (.func 101) ⟨[]⟩ ⟨[]⟩)) [tm 13]) (P 14)::
.go (.move (.con (.int .i64 (.ofNat 0)))) (P 15)::
[])) (.block 2 (.loop (.seq (.run (.go (.bin .lss 3 (tm 15) (tm 14)) (P 16)::
[])) (.seq (.cond (tm 16) .skip (.exit 2)) (.seq (.block 3 (.seq (.run (.go (.move (tm 15)) (P 17)::
.go (.move (tm 17)) (P 4)::
[])) (.seq (.run (.go (.move (tm 0)) (P 18)::
.go (.move (tm 3)) (P 19)::
.go (.move (tm 4)) (P 20)::
.go (.build [(.int .i64 (.ofNat 0)),(.int .i64 (.ofNat 0))] [(0,1,(tm 19)),(1,1,(tm 20))]) (P 21)::
.go (.call (tm 18) [tm 21]) (P 22)::
.go (.un .not (tm 22)) (P 23)::
[])) (.cond (tm 23) .ret .skip)))) (.run (.go (.bin .add 3 (tm 15) (.con (.int .i64 (.ofNat 1)))) (P 24)::
.go (.move (tm 24)) (P 15)::
[])))))))))) (.run (.go (.bin .add 3 (tm 9) (.con (.int .i64 (.ofNat 1)))) (P 25)::
.go (.move (tm 25)) (P 9)::
[]))))))))
theorem de119 : @compF Try.prog (Gl.none Try.prog) Try.f119 2=.mk d119 (mkTT 26) [(P 0),(P 1)] []:=by kernel_rfl
theorem dg119 : Try.prog.funcs[119]?=some Try.f119:=Try.func119
theorem do119 : okF Try.prog Try.f119=true:=by kernel_rfl
noncomputable def d74 : FCode:=(.seq (.run (.go (.box 135 (tm 0)) (P 1)::
.go (.move (.con .nilFunc)) (P 2)::
[])) (.seq (.run (.go (.makeFunc 119 [] [tm 1]) (P 3)::
.go (.move (tm 3)) (P 2)::
[])) .ret))
theorem de74 : @compF Try.prog (Gl.none Try.prog) Try.f74 1=.mk d74 (mkTT 4) [(P 0)] [.tmp (P 2)]:=by kernel_rfl
theorem dg74 : Try.prog.funcs[74]?=some Try.f74:=Try.func74
theorem do74 : okF Try.prog Try.f74=true:=by kernel_rfl
abbrev PT (i : Nat) : Value:=.pointer (some ⟨i,0,none⟩)
def cel (K G : Nat) : List (Nat×Nat):=(List.range (K*G)).map fun q=>(q/G,q%G)
theorem cel_len (K G : Nat) : (cel K G).length=K*G:=by simp[cel]
theorem cel_at {K G k g : Nat} (hg : g<G) (h : k*G+g<(cel K G).length) : (cel K G)[k*G+g]=(k,g):=by
 have hq : (k*G+g)/G=k:=by rw[Nat.mul_comm,Nat.mul_add_div (by omega),Nat.div_eq_of_lt hg,Nat.add_zero]
 have hr : (k*G+g)%G=g:=by rw[Nat.mul_comm,Nat.mul_add_mod,Nat.mod_eq_of_lt hg]
 simp[cel,hq,hr]
theorem cel_lt {K G k g : Nat} (hk : k<K) (hg : g<G) : k*G+g<K*G:=by
 have:=Nat.mul_le_mul_right G (show k+1≤K from hk)
 rw[Nat.add_mul] at this
 omega
def celL (K G : Nat) : List (List Value):=(cel K G).map fun q=>[.agg ⟨A2 q.1 q.2⟩]
theorem celL_len (K G : Nat) : (celL K G).length=K*G:=by rw[celL,List.length_map,cel_len]
theorem celL_at {K G k g : Nat} (hg : g<G) (h : k*G+g<(celL K G).length) : (celL K G)[k*G+g]=[.agg ⟨A2 k g⟩]:=by
 simp only[celL,List.getElem_map,cel_at hg]
def Din (p n : Nat) (i : Nat) : Prop:=i=p∨i<n
theorem f119_iter {A H0 : Heap} {c b r n : Value} {u : Nat→Bool} {T : Tb} {p : Nat} (h : TV A c b r n T) (hA : Grow A H0) (hb : Bx H0 p (LG c b r n u) 135) (hK : T.C.length≤1048576) (hG : grp T≤1048576) : Iter Try.prog 119 [] [PT p] (Din p A.next) H0 (celL T.C.length (grp T)):=by
 have hl:=h.c.len
 have hll:=celL_len T.C.length (grp T)
 intro y U I0 J H hH hD sI sJ hY h0
 obtain⟨_,hU,hp⟩:=hD p (.inl rfl)
 have bb : Bx H p (LG c b r n u) 135:=⟨Nat.lt_of_lt_of_le hb.1 hH,by have:=hb.2;unfold Heap.cellsAt at this ⊢;rw[hp];exact this⟩
 have gA : ∀ X,GrowS U H X→Grow A X:=fun X g=>⟨Nat.le_trans hA.1 (Nat.le_trans hH g.1),fun i hi=>by
  obtain⟨q1,q2,q3⟩:=hD i (.inr hi)
  rw[g.2 i (Nat.lt_of_lt_of_le q1 hH) q2,q3,hA.2 i hi]⟩
 rw[hll]
 show F Try.prog 119 ⟨[y,PT p]⟩ H _
 refine F.entryL rfl dg119 do119 de119 rfl (by kernel_rfl) ?_
 simp only[sets]
 refine V.re [(0,y),(1,PT p)] (N:=26) zE zY ?_
 intro t hF hA
 simp only[Kn,and_true] at hA
 refine zS ?_
 have zf:=And.intro bb.2<|And.intro @LG_0<|@hl
 refine V.lz ?_
 refine zS ?_
 refine V.loop (fun z t m X=>∃ (k : Nat),k≤T.C.length∧z=T.C.length-k∧m=[]∧GrowS U H X∧I0 (k*grp T) X∧Full 26 t∧Kn [(0,y),(1,PT p),(8,I T.C.length),(9,I k)] t) T.C.length ?_ ?_
 ·exact⟨0,by omega,by omega,rfl,.refl _,by rw[Nat.zero_mul];exact h0,zF,zK⟩
 clear hF hA
 rintro z t m X ⟨k,hk,rfl,rfl,hg,hI,hF,hA⟩
 simp only[Kn,and_true] at hA
 have bx:=bb.growS hg hU
 refine zS ?_
 refine V.l0 ?_
 refine zS ?_
 refine V.condP zP (fun hlt=>?_) (fun hlt=>?_)
 ·have hlt' : k<T.C.length:=by omega
  refine zS ?_
  refine V.l0 ?_
  refine zS ?_
  refine V.run ?_
  have zf:=And.intro bx.2<|And.intro @LG_t4<|@LG_len
  refine VI.sz 2 ?_
  simp only[ds]
  refine VI.callA rfl (f101_ok (h.grow (gA _ hg))) zA (fun H2 g2=>?_)
  have hI2:=sI _ _ _ hI hg g2
  have hg2:=hg.trans g2.s
  refine VI.l0 ?_
  refine zS ?_
  refine V.loop (fun z t m X=>∃ (g : Nat),g≤grp T∧z=grp T-g∧m=[]∧GrowS U H X∧I0 (k*grp T+g) X∧Full 26 t∧Kn [(0,y),(1,PT p),(3,I k),(8,I T.C.length),(9,I k),(14,I (grp T)),(15,I g)] t) (grp T) ?_ ?_
  ·exact⟨0,by omega,by omega,rfl,hg2,hI2,zF,zK⟩
  clear hF hA
  rintro z t m Y ⟨g,hgk,rfl,rfl,hgy,hIy,hF,hA⟩
  simp only[Kn,and_true] at hA
  refine zS ?_
  refine V.l0 ?_
  refine zS ?_
  refine V.condP zP (fun hlg=>?_) (fun hlg=>?_)
  ·have hlg' : g<grp T:=by omega
   have hq:=cel_lt hlt' hlg'
   have hy:=hY (k*grp T+g) (by rw[hll];exact hq) Y hIy hgy
   rw[celL_at hlg'] at hy
   refine zS ?_
   refine V.l0 ?_
   refine zS ?_
   refine V.run ?_
   refine VI.s0 4 ?_
   simp only[ds]
   refine VI.callV (y:=y) zA (by simp only[List.map_cons,List.map_nil,D6,D5,hF,hA,↓reduceIte,qD,qE];exact hy) (fun v X' hv=>?_)
   obtain⟨hg',hv⟩:=hv
   rcases hv with⟨rfl,hI'⟩|⟨rfl,hJ⟩
   ·refine VI.l0 ?_
    refine zS ?_
    refine V.condF zA ?_
    refine zS ?_
    refine V.l0 ?_
    refine V.nil (Or.inl ⟨rfl,grp T-(g+1),by omega,?_⟩)
    exact⟨g+1,hlg',rfl,rfl,hgy.trans hg',hI',zF,zK⟩
   ·refine VI.l0 ?_
    refine zS ?_
    refine V.condT zA ?_
    refine zS ?_
    refine V.ret (V.rets rfl (Or.inr ⟨by simp,V.rets rfl (Or.inr ⟨by simp,V.rets rfl (Lv.retF (by simp +contextual (disch:=first|omega|simp only[nx];omega) only[D1,cells_alloc_at,cells_alloc_ne,cells_set_at,cells_set_ne,yres,yres1,yresL,qA,qB,qC,D5,hF,hA,↓reduceIte,qD,qE];rfl) ?_)⟩)⟩))
    exact⟨hgy.trans hg',.inr hJ⟩
  ·obtain rfl : g=grp T:=by omega
   refine V.exit ?_
   refine zX ?_
   refine V.nil (Or.inr ⟨by simp,?_⟩)
   refine zX ?_
   refine zS ?_
   refine V.l0 ?_
   refine V.nil (Or.inl ⟨rfl,T.C.length-(k+1),by omega,?_⟩)
   refine⟨k+1,hlt',rfl,rfl,hgy,?_,zF,zK⟩
   rw[Nat.add_mul,Nat.one_mul]
   exact hIy
 ·obtain rfl : k=T.C.length:=by omega
  refine V.exit ?_
  refine zX ?_
  refine V.nil (Or.inr ⟨by simp,?_⟩)
  refine zX ?_
  refine zS ?_
  refine V.nil (Lv.normal (by simp only[yres,yresL,Option.map_some];rfl) ?_)
  exact⟨hg,.inl hI⟩
theorem f74_ok {H : Heap} {c b r n : Value} {u : Nat→Bool} : F Try.prog 74 ⟨[.agg ⟨LG c b r n u⟩]⟩ H (fun w X=>∃ p,w=.func (.func 119) ⟨[]⟩ ⟨[PT p]⟩∧H.next≤p∧Grow H X∧Bx X p (LG c b r n u) 135):=by
 refine F.entryL rfl dg74 do74 de74 rfl (by kernel_rfl) ?_
 simp only[sets]
 refine V.re [(0,.agg ⟨LG c b r n u⟩)] (N:=4) zE zY ?_
 intro t hF hA
 simp only[Kn,and_true] at hA
 refine zS ?_
 refine V.l0 ?_
 refine V.heap (fun X=>Grow H X∧Bx X H.next (LG c b r n u) 135) ⟨?_,?_⟩ ?_
 ·exact zW
 ·exact zB
 rintro H1 ⟨g1,b1⟩
 refine zS ?_
 refine V.l0 ?_
 refine zS ?_
 refine V.ret (V.rets rfl (Lv.retF (by simp +contextual (disch:=first|omega|simp only[nx];omega) only[D1,cells_alloc_at,cells_alloc_ne,cells_set_at,cells_set_ne,yres,yres1,yresL,qA,qB,qC,D5,hF,hA,↓reduceIte,qD,qE];rfl) ?_))
 exact⟨_,rfl,Nat.le_refl _,g1,b1⟩
end Go.Xe.TFX
/- What the functions of the layer flow come to: the sizes that each cell can have by those before. Conditions: none. -/
-- MOD TF
namespace Go.Xe.TFX
open Go Go.Xe Go.Proofs
open Nat renaming reduceLeDiff → qA, reduceSub → qB, reduceAdd → qC, reduceEqDiff → qD, reduceLT → qE
open Int renaming reduceNegSucc → qF, reduceEq → qG
open Go.Xe.V renaming seq → sA, block → sB, scope → sC, skip → sD, close → sE
open Go.Xe renaming pth → P
open Go.Xe.Flw
set_option maxRecDepth 100000
set_option maxHeartbeats 3200000
set_option linter.unusedSimpArgs false
abbrev Sf:=Int×Int→Option R2
def pso (T : Tb) (f : Sf) (x y : Int) : List (R2×R2):=(src x y (grp T)).map fun s=>(T.Rt.getD (s.2+1).toNat (0,0),(f s).getD (0,0))
def cns (T : Tb) (u : Nat→Bool) (k g : Nat) : R2:=if u (k*4+g) then (0,9223372036854775807) else (T.C.getD k []).getD g (0,0)
def cra (T : Tb) (f : Sf) (k g : Nat) : R2:=car (T.N.getD g (0,0)) k (pso T f k g)
def ent (T : Tb) (u : Nat→Bool) (f : Sf) (q : Nat×Nat) : R2:=com (cra T f q.1 q.2) (cns T u q.1 q.2)
def put (f : Sf) (q : Nat×Nat) (v : R2) : Sf:=fun z=>if z=((q.1 : Int),(q.2 : Int)) then some v else f z
def fwd (T : Tb) (u : Nat→Bool) (l : List (Nat×Nat)) (f : Sf) : Sf:=l.foldl (fun f q=>put f q (ent T u f q)) f
def fw (T : Tb) (u : Nat→Bool) (k : Nat) : Sf:=fwd T u ((cel T.C.length (grp T)).take k) (bf T.B)
def en (T : Tb) (u : Nat→Bool) (k : Nat) : R2:=ent T u (fw T u k) (k/grp T,k%grp T)
theorem fw_s {T : Tb} {u : Nat→Bool} {k : Nat} (hk : k<T.C.length*grp T) : fw T u (k+1)=put (fw T u k) (k/grp T,k%grp T) (en T u k):=by
 have h : k<(cel T.C.length (grp T)).length:=by rw[cel_len];exact hk
 have e : (cel T.C.length (grp T))[k]=(k/grp T,k%grp T):=by simp[cel]
 unfold fw fwd
 rw[List.take_succ_eq_append_getElem h,List.foldl_append,e]
 rfl
theorem gd {α : Type} {l : List α} {k : Nat} {d : α} (h : k<l.length) : l.getD k d=l[k]:=by rw[List.getD_eq_getElem?_getD,List.getElem?_eq_getElem h,Option.getD_some]
def bd (c : Nat) : Int:=600*3 ^ c
theorem bd_s (c : Nat) : bd (c+1)=3*bd c:=by unfold bd;rw[Int.pow_succ];omega
theorem bd_0 (c : Nat) : 600≤bd c:=by
 induction c with
 | zero=>decide
 | succ c ih=>rw[bd_s];omega
theorem bd_4 {c : Nat} (h : c<4) : bd c≤1000000:=by
 match c,h with
 | 0,_=>decide
 | 1,_=>decide
 | 2,_=>decide
 | 3,_=>decide
structure Fw (T : Tb) (k : Nat) (f : Sf) : Prop where
 b : ∀ c (h : c<T.B.length),f ((c : Int),-1)=some T.B[c]
 e : ∀ c g,c<T.C.length→g<grp T→c*grp T+g<k→∃ v,f ((c : Int),(g : Int))=some v∧0≤v.1∧v.1≤v.2∧v.2≤bd c
theorem Fw.zero (T : Tb) (u : Nat→Bool) : Fw T 0 (fw T u 0):=by
 refine⟨fun c h=>?_,fun c g _ _ h=>absurd h (Nat.not_lt_zero _)⟩
 have e : fw T u 0=bf T.B:=by unfold fw fwd;rw[List.take_zero];rfl
 rw[e]
 unfold bf
 rw[if_pos ⟨rfl,by simp⟩]
 simp[h]
theorem Fw.src {T : Tb} {f : Sf} {k c g : Nat} (hf : fit T) (hv : val T) (h : Fw T k f) (hc : c<T.C.length) (hg : g<grp T) (hk : c*grp T+g=k) (h4 : c<4) :
  ∀ j (h1 : j<(Go.Xe.TFX.src c g (grp T)).length) (h2 : j<(pso T f c g).length),Src T f (Go.Xe.TFX.src c g (grp T))[j] (pso T f c g)[j].2 (pso T f c g)[j].1∧(pso T f c g)[j].2.1≤(pso T f c g)[j].2.2∧(pso T f c g)[j].2.2≤bd (c-1):=by
 intro j h1 h2
 obtain⟨v1,v2,v3,v4,v5,v6,v7,v8⟩:=hv
 have hz : ∀ s∈Go.Xe.TFX.src c g (grp T),1≤c∧s.1=((c-1 : Nat) : Int)∧(s.2=(g : Int)-1∨s.2=(g : Int)):=by
  intro s hs
  unfold Go.Xe.TFX.src at hs
  split at hs
  ·simp at hs
  ·have : 1≤c:=by omega
   split at hs
   ·rcases List.mem_cons.1 hs with rfl|hs
    ·exact⟨this,by simp only;omega,.inl rfl⟩
    ·rw[List.mem_singleton.1 hs];exact⟨this,by simp only;omega,.inr rfl⟩
   ·rw[List.mem_singleton.1 hs];exact⟨this,by simp only;omega,.inl rfl⟩
 have e : (pso T f c g)[j]=(T.Rt.getD ((Go.Xe.TFX.src c g (grp T))[j].2+1).toNat (0,0),(f (Go.Xe.TFX.src c g (grp T))[j]).getD (0,0)):=by simp[pso]
 rw[e]
 obtain⟨z1,z2,z3⟩:=hz _ (List.getElem_mem h1)
 generalize (Go.Xe.TFX.src c g (grp T))[j]=s at *
 obtain⟨x,y⟩:=s
 simp only at z2 z3 ⊢
 subst z2
 have hm:=bd_4 (show c-1<4 by omega)
 have hm0:=bd_0 (c-1)
 have hval : ∃ v,f (((c-1 : Nat) : Int),y)=some v∧0≤v.1∧v.1≤v.2∧v.2≤bd (c-1):=by
  have hcB : c-1<T.B.length:=by omega
  by_cases hy : y=-1
  ·subst hy
   refine⟨_,h.b (c-1) hcB,?_⟩
   obtain⟨q1,q2,q3⟩:=v6 _ (List.getElem_mem hcB)
   exact⟨q1,q2,by omega⟩
  ·obtain⟨g',rfl⟩ : ∃ g' : Nat,y=(g' : Int):=⟨y.toNat,by omega⟩
   have e1:=Nat.add_mul (c-1) 1 (grp T)
   have e2 : c-1+1=c:=by omega
   rw[e2] at e1
   refine h.e (c-1) g' (by omega) (by omega) (by omega)
 have hrt : ∃ k : Nat,y+1=(k : Int)∧k<T.Rt.length:=⟨(y+1).toNat,by omega,by omega⟩
 obtain⟨k',hk1,hk2⟩:=hrt
 obtain⟨v,w1,w2,w3,w4⟩:=hval
 have ekk : (y+1).toNat=k':=by omega
 have hg4:=hf.2
 rw[w1,ekk,Option.getD_some,gd hk2]
 exact⟨⟨⟨by simp only;omega,by simp only;omega⟩,w1,by omega,by omega,⟨k',hk1,hk2,rfl⟩,v7 _ (List.getElem_mem hk2)⟩,w3,w4⟩
theorem pso_len (T : Tb) (f : Sf) (x y : Int) : (pso T f x y).length=(Go.Xe.TFX.src x y (grp T)).length:=by simp[pso]
theorem src_len (x y : Int) (G : Nat) : (Go.Xe.TFX.src x y G).length≤2:=by
 unfold Go.Xe.TFX.src
 split
 ·simp
 ·split<;>simp
theorem sv_bd {q v : R2} {m : Int} (hq : isRate q) (h0 : 0≤v.1) (h1 : v.1≤v.2) (h2 : v.2≤m) : (sv q v).2≤m:=by
 have:=mst_le hq (show (0 : Int)≤v.2 by omega)
 unfold sv
 simp only
 omega
theorem tt_up {ps : List (R2×R2)} {m : Int} : ∀ {t : R2},(∀ p∈ps,isRate p.1∧0≤p.2.1∧p.2.1≤p.2.2∧p.2.2≤m)→(tt ps t).2≤t.2+m*ps.length:=by
 induction ps with
 | nil=>intro t _;simp[tt]
 | cons p ps ih=>
  intro t hp
  obtain⟨q1,q2,q3,q4⟩:=hp p (by simp)
  have h1:=sv_bd q1 q2 q3 q4
  have:=ih (t:=add2 t (sv p.1 p.2)) (fun z hz=>hp z (by simp[hz]))
  have e : tt (p::ps) t=tt ps (add2 t (sv p.1 p.2)):=rfl
  rw[e]
  simp only[List.length_cons,add2] at this ⊢
  rw[Int.natCast_add,Int.mul_add]
  simp only[Int.natCast_one,Int.mul_one]
  omega
theorem Fw.step {T : Tb} {u : Nat→Bool} {k : Nat} (hf : fit T) (hv : val T) (h : Fw T k (fw T u k)) (hk : k<T.C.length*grp T) (hne : ¬ (en T u k).2<(en T u k).1) : Fw T (k+1) (fw T u (k+1)):=by
 have hG : 0<grp T:=by have:=hv.1;omega
 have hc : k/grp T<T.C.length:=(Nat.div_lt_iff_lt_mul hG).2 hk
 have hg : k%grp T<grp T:=Nat.mod_lt _ hG
 have hkk : k/grp T*grp T+k%grp T=k:=by rw[Nat.mul_comm];exact Nat.div_add_mod k (grp T)
 have h4 : k/grp T<4:=by have:=hf.1;omega
 have hs:=h.src hf hv hc hg hkk h4
 rw[fw_s hk]
 unfold en at hne
 unfold en
 generalize k/grp T=c at *
 generalize k%grp T=g at *
 generalize fw T u k=f at *
 obtain⟨v1,v2,v3,v4,v5,v6,v7,v8⟩:=hv
 refine⟨fun c' h'=>?_,fun c' g' hc' hg' hlt=>?_⟩
 ·unfold put
  rw[if_neg (by simp only[Prod.mk.injEq,not_and];omega)]
  exact h.b c' h'
 ·by_cases he : c'=c∧g'=g
  ·obtain⟨rfl,rfl⟩:=he
   refine⟨ent T u f (c',g'),by unfold put;rw[if_pos rfl],?_,by omega,?_⟩
   ·have h1 : 0≤(cns T u c' g').1:=by
     unfold cns
     split
     ·simp
     ·rw[gd hc]
      have hr:=v5 _ (List.getElem_mem hc)
      rw[gd (by omega)]
      exact (hr.2 _ (List.getElem_mem _)).1
    have : (cns T u c' g').1≤(ent T u f (c',g')).1:=Int.le_max_right _ _
    omega
   ·have h1 : (ent T u f (c',g')).2≤(cra T f c' g').2:=Int.min_le_left _ _
    have h2 : (cra T f c' g').2≤bd c':=by
     unfold cra car
     split
     ·have:=bd_0 c'
      simp only
      omega
     ·rename_i hne0
      have e1 : c'-1+1=c':=by omega
      have e2:=bd_s (c'-1)
      rw[e1] at e2
      have e3:=bd_0 (c'-1)
      have hn : g'<T.N.length:=by omega
      have:=tt_up (ps:=pso T f c' g') (m:=bd (c'-1)) (t:=T.N.getD g' (0,0)) (by
       intro p hp
       obtain⟨j,hj,rfl⟩:=List.mem_iff_getElem.1 hp
       obtain⟨s1,s2,s3⟩:=hs j (by rw[← pso_len];exact hj) hj
       exact⟨s1.isR,s1.lo.1,s2,s3⟩)
      rw[gd hn] at this ⊢
      have hw:=(v8 _ (List.getElem_mem hn)).2.2
      have hl : ((pso T f c' g').length : Int)≤2:=by rw[pso_len];have:=src_len c' g' (grp T);omega
      have hmul:=Int.mul_le_mul_of_nonneg_left hl (show (0 : Int)≤bd (c'-1) by omega)
      omega
    omega
  ·have hne' : c'*grp T+g'≠k:=by
    intro heq
    rw[← hkk] at heq
    apply he
    have d1 : (c'*grp T+g')/grp T=c':=by rw[Nat.mul_comm,Nat.mul_add_div hG,Nat.div_eq_of_lt hg',Nat.add_zero]
    have d2 : (c*grp T+g)/grp T=c:=by rw[Nat.mul_comm,Nat.mul_add_div hG,Nat.div_eq_of_lt hg,Nat.add_zero]
    rw[heq,d2] at d1
    subst d1
    exact⟨rfl,by omega⟩
   unfold put
   rw[if_neg (by simp only[Prod.mk.injEq];omega)]
   exact h.e c' g' hc' hg' (by omega)
end Go.Xe.TFX
