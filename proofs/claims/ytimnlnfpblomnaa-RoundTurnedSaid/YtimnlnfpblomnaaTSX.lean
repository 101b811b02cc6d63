/- What the functions of the layer round come to: what the search is made of. Conditions: none. -/
import Derived.Test.YtimnlnfpblomnaaTSW
-- MOD TR
namespace Go.Xe.TRX
open Go Go.Xe Go.Proofs
open Nat renaming reduceLeDiff → qA, reduceSub → qB, reduceAdd → qC, reduceEqDiff → qD, reduceLT → qE
open Int renaming reduceNegSucc → qF, reduceEq → qG
open Go.Xe.V renaming seq → sA, block → sB, scope → sC, skip → sD, close → sE
open Go.Xe renaming pth → P
open Go.Xe.Rnd
set_option maxRecDepth 100000
set_option maxHeartbeats 3200000
set_option linter.unusedSimpArgs false
noncomputable def d41 : FCode:=(.seq (.run (.go (.box 25 (tm 0)) (P 1)::
.go (.move (.con (.bool false))) (P 2)::
[])) (.seq (.run (.go (.loadN 3 (tm 1)) (P 3)::
.go (.call (.con (.func (.func 15) ⟨[]⟩ ⟨[]⟩)) [tm 3]) (P 4)::
.go (.move (tm 4)) (P 5)::
.gd (P 5) true (.loadN 3 (tm 1)) (P 6)::
.gd (P 5) true (.call (.con (.func (.func 23) ⟨[]⟩ ⟨[]⟩)) [tm 6]) (P 7)::
.gd (P 5) true (.bin .eql 29 (tm 7) (.con (.int .i64 (.ofNat 0)))) (P 8)::
.go (.pick (tm 5) (tm 8) (.con (.bool false))) (P 9)::
.go (.move (tm 9)) (P 2)::
[])) .ret))
theorem de41 : @compF Try.prog (Gl.none Try.prog) Try.f41 1=.mk d41 (mkTT 10) [(P 0)] [.tmp (P 2)]:=by kernel_rfl
theorem dg41 : Try.prog.funcs[41]?=some Try.f41:=Try.func41
theorem do41 : okF Try.prog Try.f41=true:=by kernel_rfl
noncomputable def d89 : FCode:=(.seq (.run (.go (.box 89 (tm 0)) (P 2)::
.go (.box 127 (tm 1)) (P 3)::
.go (.alloc 94 [(.int .i64 (.ofNat 0)),(.int .i64 (.ofNat 0)),(.slice none 0 0)]) (P 4)::
[])) (.seq (.seq (.run (.go (.loadN 8 (tm 2)) (P 5)::
.go (.fieldAddr 1 (tm 3)) (P 6)::
.go (.loadN 4 (tm 6)) (P 7)::
.go (.call (.con (.func (.func 77) ⟨[]⟩ ⟨[]⟩)) [(tm 5),(tm 7)]) (P 8)::
.go (.un .not (tm 8)) (P 9)::
[])) (.cond (tm 9) (.seq (.run (.go (.build [(.int .i64 (.ofNat 0)),(.int .i64 (.ofNat 0)),(.slice none 0 0)] []) (P 10)::
.un (.store 3 (tm 4) (tm 10))::
[])) .ret) .skip)) (.seq (.run (.go (.build [(.int .i64 (.ofNat 0)),(.int .i64 (.ofNat 0)),(.slice none 0 0)] [(0,1,(.con (.int .i64 (.ofNat 1))))]) (P 11)::
.un (.store 3 (tm 4) (tm 11))::
[])) .ret)))
theorem de89 : @compF Try.prog (Gl.none Try.prog) Try.f89 2=.mk d89 (mkTT 12) [(P 0),(P 1)] [.many (P 4) 3]:=by kernel_rfl
theorem dg89 : Try.prog.funcs[89]?=some Try.f89:=Try.func89
theorem do89 : okF Try.prog Try.f89=true:=by kernel_rfl
noncomputable def d96 : FCode:=(.seq (.run (.go (.move (.con (.slice none 0 0))) (P 2)::
[])) (.seq (.seq (.run (.go (.move (tm 0)) (P 3)::
.go (.bin .eql 41 (tm 3) (.con (.slice none 0 0))) (P 4)::
[])) (.cond (tm 4) (.seq (.run (.go (.move (.con (.slice none 0 0))) (P 2)::
[])) .ret) .skip)) (.seq (.run (.go (.buildSlice 3 0 [] []) (P 5)::
.go (.move (tm 0)) (P 6)::
.go (.append 3 1 8 (tm 5) (tm 6)) (P 7)::
.go (.move (tm 7)) (P 2)::
[])) .ret)))
theorem de96 : @compF Try.prog (Gl.none Try.prog) Try.f96 1=.mk d96 (mkTT 8) [(P 0)] [.tmp (P 2)]:=by kernel_rfl
theorem dg96 : Try.prog.funcs[96]?=some Try.f96:=Try.func96
theorem do96 : okF Try.prog Try.f96=true:=by kernel_rfl
noncomputable def d91 : FCode:=(.seq (.run (.go (.box 94 (tm 0)) (P 4)::
.go (.box 94 (tm 3)) (P 7)::
.go (.alloc 94 [(.int .i64 (.ofNat 0)),(.int .i64 (.ofNat 0)),(.slice none 0 0)]) (P 8)::
[])) (.seq (.seq (.run (.go (.move (tm 2)) (P 10)::
.go (.fieldAddr 1 (tm 7)) (P 11)::
.go (.load1 (tm 11)) (P 12)::
.go (.bin .add 3 (tm 10) (tm 12)) (P 13)::
.go (.move (tm 13)) (P 9)::
[])) (.seq (.run (.go (.fieldAddr 0 (tm 4)) (P 14)::
.go (.load1 (tm 14)) (P 15)::
.go (.bin .eql 3 (tm 15) (.con (.int .i64 (.ofNat 0)))) (P 16)::
.go (.move (tm 16)) (P 17)::
.gd (P 17) false (.move (tm 9)) (P 18)::
.gd (P 17) false (.fieldAddr 1 (tm 4)) (P 19)::
.gd (P 17) false (.load1 (tm 19)) (P 20)::
.gd (P 17) false (.bin .lss 3 (tm 18) (tm 20)) (P 21)::
.go (.pick (tm 17) (.con (.bool true)) (tm 21)) (P 22)::
[])) (.cond (tm 22) (.seq (.run (.go (.move (tm 9)) (P 23)::
.go (.fieldAddr 1 (tm 4)) (P 24)::
.un (.store 1 (tm 24) (tm 23))::
[])) (.run (.go (.move (tm 1)) (P 25)::
.go (.buildSlice 41 1 [(.slice none 0 0)] [(0,1,(tm 25))]) (P 26)::
.go (.fieldAddr 2 (tm 7)) (P 27)::
.go (.load1 (tm 27)) (P 28)::
.go (.append 41 1 24 (tm 26) (tm 28)) (P 29)::
.go (.fieldAddr 2 (tm 4)) (P 30)::
.un (.store 1 (tm 30) (tm 29))::
[]))) .skip))) (.seq (.run (.go (.fieldAddr 0 (tm 4)) (P 31)::
.go (.load1 (tm 31)) (P 32)::
.go (.fieldAddr 0 (tm 7)) (P 33)::
.go (.load1 (tm 33)) (P 34)::
.go (.bin .add 3 (tm 32) (tm 34)) (P 35)::
.go (.fieldAddr 0 (tm 4)) (P 36)::
.un (.store 1 (tm 36) (tm 35))::
[])) (.seq (.run (.go (.loadN 3 (tm 4)) (P 37)::
.un (.store 3 (tm 8) (tm 37))::
[])) .ret))))
theorem de91 : @compF Try.prog (Gl.none Try.prog) Try.f91 4=.mk d91 (mkTT 38) [(P 0),(P 1),(P 2),(P 3)] [.many (P 8) 3]:=by kernel_rfl
theorem dg91 : Try.prog.funcs[91]?=some Try.f91:=Try.func91
theorem do91 : okF Try.prog Try.f91=true:=by kernel_rfl
def snd (T : Tb) : Prop:=thin T∧flt T=0
instance (T : Tb) : Decidable (snd T):=by unfold snd;infer_instance
theorem f41_ok {H : Heap} {c f : Value} {T : Tb} (h : TV H c f T) : Gives Try.prog 41 [.agg ⟨[I T.b,c,f]⟩] H (.bool (decide (snd T))):=by
 have f15':=fun X (g : Grow H X)=>f15_ok (h.grow g)
 refine F.entryL rfl dg41 do41 de41 rfl (by kernel_rfl) ?_
 simp only[sets]
 refine V.re [(0,.agg ⟨[I T.b,c,f]⟩)] (N:=10) zE zY ?_
 intro t hF hA
 simp only[Kn,and_true] at hA
 refine zS ?_
 refine V.l0 ?_
 refine V.heap (fun X=>Grow H X∧Bx X H.next [I T.b,c,f] 25) ⟨?_,?_⟩ ?_
 ·exact zW
 ·exact zB
 rintro H1 ⟨g1,b1⟩
 refine zS ?_
 by_cases hth : thin T
 ·rw[decide_eq_true hth] at f15'
  have hs:=thin_sh hth
  refine V.run ?_
  have zf:=b1.2
  refine VI.sz 1 ?_
  simp only[ds]
  refine VI.callA rfl (f15' _ g1) zA (fun H2 g2=>?_)
  have b2:=b1.grow g2
  have zf:=b2.2
  refine VI.sz 2 ?_
  simp only[ds]
  refine VI.callAT zG rfl (f23_ok (h.grow (g1.trans g2)) hs) zA (fun H3 g3=>?_)
  refine VI.l0 ?_
  refine zS ?_
  refine V.ret (V.rets rfl (Lv.retG (by simp +contextual (disch:=first|omega|simp only[nx];omega) only[D1,cells_alloc_at,cells_alloc_ne,cells_set_at,cells_set_ne,yres,yres1,yresL,qA,qB,qC,D5,hF,hA,↓reduceIte,qD,qE];rfl) ?_ ?_))
  ·exact (g1.trans g2).trans g3
  ·congr 1
   rw[decide_eq_decide]
   exact⟨fun hh=>⟨hth,hh⟩,fun hh=>hh.2⟩
 ·rw[decide_eq_false hth] at f15'
  refine V.run ?_
  have zf:=b1.2
  refine VI.sz 1 ?_
  simp only[ds]
  refine VI.callA rfl (f15' _ g1) zA (fun H2 g2=>?_)
  have b2:=b1.grow g2
  have zf:=b2.2
  refine VI.sz 2 ?_
  simp only[ds]
  refine VI.gdF zG ?_
  refine VI.l0 ?_
  refine zS ?_
  refine V.ret (V.rets rfl (Lv.retG (by simp +contextual (disch:=first|omega|simp only[nx];omega) only[D1,cells_alloc_at,cells_alloc_ne,cells_set_at,cells_set_ne,yres,yres1,yresL,qA,qB,qC,D5,hF,hA,↓reduceIte,qD,qE];rfl) ?_ ?_))
  ·exact g1.trans g2
  ·exact congrArg _ (decide_eq_false (fun hh=>hth hh.1)).symm
theorem f89_ok {H : Heap} {c f s : Value} {T : Tb} {d g : Nat→Int} {r : Int} (h : BV H c f s T) (hb : 2≤T.b∧T.b≤100) (hd : ∀ i,0≤d i∧d i≤200000) (hg : ∀ i,0≤g i∧g i≤200000) : Gives Try.prog 89 [.agg ⟨bl T.b c f s d⟩,.agg ⟨I r::Q4 g⟩] H (.agg ⟨[I (if als T.b g d then 1 else 0),I 0,.slice none 0 0]⟩):=by
 obtain⟨pc,nc,cc,ec⟩:=h.t.c.isS
 obtain⟨pf,nf,cf,ef⟩:=h.t.f.isS
 obtain⟨ps,ns,cs,es⟩:=h.s.isS
 have vv : vEq 3 (.agg ⟨bl T.b c f s d⟩) (.agg ⟨bl T.b c f s d⟩)=true:=by rw[ec,ef,es];simp[vEq,vEq0,all2]
 refine F.entryL rfl dg89 do89 de89 rfl (by kernel_rfl) ?_
 simp only[sets]
 refine V.re [(0,.agg ⟨bl T.b c f s d⟩),(1,.agg ⟨I r::Q4 g⟩)] (N:=12) zE zY ?_
 intro t hF hA
 simp only[Kn,and_true] at hA
 refine zS ?_
 refine V.l0 ?_
 refine V.heap (fun X=>Grow H X∧Bx X H.next (bl T.b c f s d) 89∧Bx X (H.next+1) (I r::Q4 g) 127∧Bx X (H.next+2) [I 0,I 0,.slice none 0 0] 94) ⟨?_,?_,?_,?_⟩ ?_
 ·exact zW
 ·exact zB
 ·exact zB
 ·exact zB
 rintro H1 ⟨g1,b1,c1,d1⟩
 refine zS ?_
 refine V.run ?_
 have zf:=And.intro b1.2<|c1.2
 refine VI.sz 3 ?_
 simp only[ds]
 refine VI.callA rfl (f77_ok (h.grow g1) hb hd hg) zA (fun H2 g2=>?_)
 have d2:=d1.grow g2
 have g12:=g1.trans g2
 refine VI.l0 ?_
 refine zS ?_
 refine V.condP zP (fun c3=>?_) (fun c3=>?_)
 ·refine zS ?_
  have zf:=d2.2
  refine V.lz ?_
  refine zS ?_
  refine V.ret (V.rets rfl (Lv.retG (by simp +contextual (disch:=first|omega|simp only[nx];omega) only[D1,cells_alloc_at,cells_alloc_ne,cells_set_at,cells_set_ne,yres,yres1,yresL,qA,qB,qC,D5,hF,hA,↓reduceIte,qD,qE];rfl) ?_ ?_))
  ·exact g12.set (by omega) _
  ·rw[if_neg c3]
 ·refine zS ?_
  have zf:=d2.2
  refine V.lz ?_
  refine zS ?_
  refine V.ret (V.rets rfl (Lv.retG (by simp +contextual (disch:=first|omega|simp only[nx];omega) only[D1,cells_alloc_at,cells_alloc_ne,cells_set_at,cells_set_ne,yres,yres1,yresL,qA,qB,qC,D5,hF,hA,↓reduceIte,qD,qE];rfl) ?_ ?_))
  ·exact g12.set (by omega) _
  ·rw[if_pos (Decidable.not_not.1 c3)]
theorem nil41 (a : Option Addr) (n c : Nat) : xbinOp Try.prog .eql 41 (.slice a n c) (.slice none 0 0)=some (.bool a.isNone):=by
 have h1 : xbin Try.prog .eql 41 (.slice a n c) (.slice none 0 0)=none:=rfl
 have h2 : xbinStr .eql (.slice a n c) (.slice none 0 0)=none:=rfl
 unfold xbinOp
 rw[h1,h2]
 simp only[xeqNil,Try.underlying41]
 simp
theorem f96_ok {H : Heap} {x : Value} {l : List Int} (h : Sl H x (Li l)) (hn : l.length≤1048576) : F Try.prog 96 ⟨[x]⟩ H (fun v X=>Grow H X∧Ow H X 3 v (Li l)):=by
 obtain⟨a,n,c,rfl⟩:=h.isS
 have e41:=nil41 a n c
 have h1 : Grow H (H.alloc (.cells ⟨[]⟩ 3 true)):=(Grow.refl H).alloc _
 have o1 : Ow H (H.alloc (.cells ⟨[]⟩ 3 true)) 3 (.slice (some ⟨H.next,0,none⟩) 0 0) []:=.inr ⟨H.next,Nat.le_refl _,Nat.lt_succ_self _,rfl,cells_alloc _ _ _ _⟩
 obtain⟨w,H',k1,k2,k3,k4⟩:=Ow.append (bytes:=8) h1 o1 (h.grow h1) (Li_ok l) (by simp[Li_len];omega) (by simp[Li_len];omega)
 rw[List.nil_append] at k2
 refine F.entryL rfl dg96 do96 de96 rfl (by kernel_rfl) ?_
 simp only[sets]
 refine V.re [(0,.slice a n c)] (N:=8) zE zY ?_
 intro t hF hA
 simp only[Kn,and_true] at hA
 refine zS ?_
 refine V.l0 ?_
 refine zS ?_
 have zf:=@e41
 refine V.lz ?_
 refine zS ?_
 cases a with
 | none=>
  have hl : l=[]:=by
   have hh : ∀ {r v},Sl H v r→v=.slice none n c→r=[]:=by
    intro r v h e
    cases h with
    | nil=>rfl
    | spot=>rfl
    | «at»=>cases e
   have hh:=hh h rfl
   cases l with
   | nil=>rfl
   | cons=>simp[Li] at hh
  subst hl
  refine V.condT zA ?_
  refine zS ?_
  refine V.l0 ?_
  refine zS ?_
  refine V.ret (V.rets rfl (Lv.retF (by simp +contextual (disch:=first|omega|simp only[nx];omega) only[D1,cells_alloc_at,cells_alloc_ne,cells_set_at,cells_set_ne,yres,yres1,yresL,qA,qB,qC,D5,hF,hA,↓reduceIte,qD,qE];rfl) ?_))
  exact⟨.refl _,.inl ⟨rfl,rfl⟩⟩
 | some a=>
  refine V.condF zA ?_
  refine zS ?_
  have zf:=@k1
  refine V.lz ?_
  refine zS ?_
  refine V.ret (V.rets rfl (Lv.retF (by simp +contextual (disch:=first|omega|simp only[nx];omega) only[D1,cells_alloc_at,cells_alloc_ne,cells_set_at,cells_set_ne,yres,yres1,yresL,qA,qB,qC,D5,hF,hA,↓reduceIte,qD,qE];rfl) ?_))
  exact⟨k3,k2⟩
theorem ow_set {G Z : Heap} {e : TypeId} {v : Value} {l : List Value} (h : Ow G Z e v l) {i : Nat} (hi : i<G.next) (o : AO) : Ow G (Z.set i o) e v l:=by
 rcases h with h|⟨j,j1,j2,j3,j4⟩
 ·exact .inl h
 ·exact .inr ⟨j,j1,j2,j3,(cells_set_ne _ _ (by omega)).trans j4⟩
theorem ow_low {G H Z : Heap} {e : TypeId} {v : Value} {l : List Value} (h : Ow G Z e v l) (g : H.next≤G.next) : Ow H Z e v l:=by
 rcases h with h|⟨j,j1,j2,j3,j4⟩
 ·exact .inl h
 ·exact .inr ⟨j,by omega,j2,j3,j4⟩
theorem f91_ok {H : Heap} {x bv bu : Value} {a c1 far w c2 : Int} {vs : List Value} (hb : Sl H bu vs) (hok : vs.all ok1=true) (hx : ∃ p n k,x=.slice p n k) (hv : ∃ p n k,bv=.slice p n k) (hn : vs.length≤1000) (b1 : 0≤a∧a≤1000000000000) (b2 : 0≤w∧w≤1000000000000) (b3 : 0≤far∧far≤1000000000000) (b4 : 0≤c2∧c2≤1000000000000) : F Try.prog 91 ⟨[.agg ⟨[I a,I c1,bv]⟩,x,I far,.agg ⟨[I w,I c2,bu]⟩]⟩ H (fun v X=>Grow H X∧∃ u,v=.agg ⟨[I (a+w),I (if a=0∨far+c2<c1 then far+c2 else c1),u]⟩∧((a=0∨far+c2<c1)→Ow H X 41 u (x::vs))∧(¬ (a=0∨far+c2<c1)→u=bv)):=by
 obtain⟨p0,n0,k0,rfl⟩:=hx
 obtain⟨p1,n1,k1,rfl⟩:=hv
 obtain⟨p2,n2,k2,rfl⟩:=hb.isS
 refine F.entryL rfl dg91 do91 de91 rfl (by kernel_rfl) ?_
 simp only[sets]
 refine V.re [(0,.agg ⟨[I a,I c1,.slice p1 n1 k1]⟩),(1,.slice p0 n0 k0),(2,I far),(3,.agg ⟨[I w,I c2,.slice p2 n2 k2]⟩)] (N:=38) zE zY ?_
 intro t hF hA
 simp only[Kn,and_true] at hA
 refine zS ?_
 refine V.l0 ?_
 refine V.heap (fun X=>Grow H X∧Bx X H.next [I a,I c1,.slice p1 n1 k1] 94∧Bx X (H.next+1) [I w,I c2,.slice p2 n2 k2] 94∧Bx X (H.next+2) [I 0,I 0,.slice none 0 0] 94) ⟨?_,?_,?_,?_⟩ ?_
 ·exact zW
 ·exact zB
 ·exact zB
 ·exact zB
 rintro H1 ⟨g1,e1,e2,e3⟩
 refine zS ?_
 have zf:=e2.2
 refine V.lz ?_
 refine zS ?_
 have zf:=e1.2
 refine V.lz ?_
 refine zS ?_
 refine V.condP zP (fun hc=>?_) (fun hc=>?_)
 ·refine zS ?_
  have zf:=e1.2
  refine V.lz ?_
  refine V.heap (fun X=>Grow H X∧Bx X H.next [I a,I (far+c2),.slice p1 n1 k1] 94∧Bx X (H.next+1) [I w,I c2,.slice p2 n2 k2] 94∧Bx X (H.next+2) [I 0,I 0,.slice none 0 0] 94) ⟨?_,?_,?_,?_⟩ ?_
  ·exact g1.set (Nat.le_refl _) _
  ·exact⟨e1.1,cells_set _ _ _ _ _⟩
  ·exact⟨e2.1,(cells_set_ne _ _ (by omega)).trans e2.2⟩
  ·exact⟨e3.1,(cells_set_ne _ _ (by omega)).trans e3.2⟩
  rintro X ⟨gX,x1,x2,x3⟩
  have o1 : Ow X (X.alloc (.cells ⟨[.slice p0 n0 k0]⟩ 41 true)) 41 (.slice (some ⟨X.next,0,none⟩) 1 1) [.slice p0 n0 k0]:=.inr ⟨X.next,Nat.le_refl _,Nat.lt_succ_self _,rfl,cells_alloc _ _ _ _⟩
  obtain⟨u,Y,q1,q2,q3,q4⟩:=Ow.append (bytes:=24) ((Grow.refl X).alloc _) o1 (hb.grow (gX.alloc (.cells ⟨[.slice p0 n0 k0]⟩ 41 true))) hok (by simp;omega) (by simp;omega)
  obtain⟨p3,n3,k3,rfl⟩:=q2.sl.isS
  have hk : ∀ j,j<X.next→Y.cellsAt j=X.cellsAt j:=fun j hj=>by
   unfold Heap.cellsAt
   rw[q4.2 j (by simp only[Heap.next_alloc];omega) (fun o n c e=>by cases e;omega),Heap.get_alloc,if_neg (by omega)]
  have y1:=(hk _ x1.1).trans x1.2
  have y2:=(hk _ x2.1).trans x2.2
  have y3:=(hk _ x3.1).trans x3.2
  refine zS ?_
  have xa:=(x2.grow ((Grow.refl X).alloc (.cells ⟨[.slice p0 n0 k0]⟩ 41 true))).2
  have zf:=And.intro @xa<|And.intro @q1<|@y1
  refine V.lz ?_
  refine V.heap (fun Z=>Grow H Z∧Bx Z H.next [I a,I (far+c2),.slice p3 n3 k3] 94∧Bx Z (H.next+1) [I w,I c2,.slice p2 n2 k2] 94∧Bx Z (H.next+2) [I 0,I 0,.slice none 0 0] 94∧Ow X Z 41 (.slice p3 n3 k3) (.slice p0 n0 k0::vs)) ⟨?_,?_,?_,?_,?_⟩ ?_
  ·exact (gX.trans q3).set (Nat.le_refl _) _
  ·exact⟨Nat.lt_of_lt_of_le x1.1 q3.1,cells_set _ _ _ _ _⟩
  ·exact⟨Nat.lt_of_lt_of_le x2.1 q3.1,(cells_set_ne _ _ (by omega)).trans y2⟩
  ·exact⟨Nat.lt_of_lt_of_le x3.1 q3.1,(cells_set_ne _ _ (by omega)).trans y3⟩
  ·exact ow_set q2 x1.1 _
  rintro Z ⟨gZ,z1,z2,z3,zo⟩
  refine zS ?_
  have zf:=And.intro z1.2<|z2.2
  refine V.lz ?_
  refine V.heap (fun W=>Grow H W∧Bx W H.next [I (a+w),I (far+c2),.slice p3 n3 k3] 94∧Bx W (H.next+2) [I 0,I 0,.slice none 0 0] 94∧Ow X W 41 (.slice p3 n3 k3) (.slice p0 n0 k0::vs)) ⟨?_,?_,?_,?_⟩ ?_
  ·exact gZ.set (Nat.le_refl _) _
  ·exact⟨z1.1,cells_set _ _ _ _ _⟩
  ·exact⟨z3.1,(cells_set_ne _ _ (by omega)).trans z3.2⟩
  ·exact ow_set zo x1.1 _
  rintro W ⟨gW,w1,w3,wo⟩
  refine zS ?_
  have zf:=And.intro w1.2<|w3.2
  refine V.lz ?_
  refine zS ?_
  refine V.ret (V.rets rfl (Lv.retF (by simp +contextual (disch:=first|omega|simp only[nx];omega) only[D1,cells_alloc_at,cells_alloc_ne,cells_set_at,cells_set_ne,yres,yres1,yresL,qA,qB,qC,D5,hF,hA,↓reduceIte,qD,qE];rfl) ?_))
  refine⟨gW.set (by omega) _,.slice p3 n3 k3,?_,fun _=>ow_low (ow_set wo x3.1 _) gX.1,fun hh=>absurd hc hh⟩
  rw[if_pos hc]
 ·refine zS ?_
  have zf:=And.intro e1.2<|e2.2
  refine V.lz ?_
  refine V.heap (fun W=>Grow H W∧Bx W H.next [I (a+w),I c1,.slice p1 n1 k1] 94∧Bx W (H.next+2) [I 0,I 0,.slice none 0 0] 94) ⟨?_,?_,?_⟩ ?_
  ·exact g1.set (Nat.le_refl _) _
  ·exact⟨e1.1,cells_set _ _ _ _ _⟩
  ·exact⟨e3.1,(cells_set_ne _ _ (by omega)).trans e3.2⟩
  rintro W ⟨gW,w1,w3⟩
  refine zS ?_
  have zf:=And.intro w1.2<|w3.2
  refine V.lz ?_
  refine zS ?_
  refine V.ret (V.rets rfl (Lv.retF (by simp +contextual (disch:=first|omega|simp only[nx];omega) only[D1,cells_alloc_at,cells_alloc_ne,cells_set_at,cells_set_ne,yres,yres1,yresL,qA,qB,qC,D5,hF,hA,↓reduceIte,qD,qE];rfl) ?_))
  refine⟨gW.set (by omega) _,.slice p1 n1 k1,?_,fun hh=>absurd hh hc,fun _=>rfl⟩
  rw[if_neg hc]
end Go.Xe.TRX
