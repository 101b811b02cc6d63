/- What the functions of the layer round come to: ranges widened. Conditions: none. -/
import Derived.Test.YtimnlnfpblomnaaTSX
import Derived.Test.YtimnlnfpblomnaaTSH
noncomputable section
namespace Go.Xe.TRX
open Go Go.Xe Go.Proofs
open Nat renaming reduceLeDiff ->qA, reduceSub ->qB, reduceAdd ->qC, reduceEqDiff ->qD, reduceLT ->qE
open Int renaming reduceNegSucc ->qF, reduceEq ->qG
open Go.Xe.V renaming seq ->sA, block ->sB, scope ->sC, skip ->sD, close ->sE
open Go.Xe renaming pth ->P
open Go.Xe.Rnd
set_option maxRecDepth 100000
set_option maxHeartbeats 3200000
set_option linter.unusedSimpArgs false
def d92 : FCode:=(.seq (.run (.go (.move (tm 1)) (P 6)::
.go (.len 0 (tm 6)) (P 7)::
.go (.move (.con (.int .i64 (.ofNat 0)))) (P 8)::
[])) (.block 0 (.loop (.seq (.run (.go (.bin .lss 3 (tm 8) (tm 7)) (P 9)::
[])) (.seq (.cond (tm 9) .skip (.exit 0)) (.seq (.block 1 (.seq (.run (.go (.move (tm 8)) (P 10)::
.go (.indexAddr none 1 (tm 6) (tm 8)) (P 11)::
.go (.load1 (tm 11)) (P 12)::
.go (.move (tm 10)) (P 4)::
.go (.move (tm 12)) (P 5)::
[])) (.draw 20 (.go (.move (tm 0)) (P 13)::
.go (.move (tm 4)) (P 14)::
.go (.move (tm 0)) (P 15)::
.go (.move (tm 4)) (P 16)::
.go (.indexAddr none 2 (tm 15) (tm 16)) (P 17)::
.go (.fieldAddr 0 (tm 17)) (P 18)::
.go (.load1 (tm 18)) (P 19)::
.go (.move (tm 5)) (P 20)::
.go (.buildSlice 3 1 [(.int .i64 (.ofNat 0))] [(0,1,(tm 20))]) (P 21)::
.go (.call (.con (.func (.func 80) ⟨[]⟩ ⟨[]⟩)) [(tm 19),(tm 21)]) (P 22)::
.go (.move (tm 0)) (P 23)::
.go (.move (tm 4)) (P 24)::
.go (.indexAddr none 2 (tm 23) (tm 24)) (P 25)::
.go (.fieldAddr 1 (tm 25)) (P 26)::
.go (.load1 (tm 26)) (P 27)::
.go (.move (tm 5)) (P 28)::
.go (.mm true [(tm 27),(tm 28)]) (P 29)::
.go (.build [(.int .i64 (.ofNat 0)),(.int .i64 (.ofNat 0))] [(0,1,(tm 22)),(1,1,(tm 29))]) (P 30)::
.go (.indexAddr none 2 (tm 13) (tm 14)) (P 31)::
.un (.store 2 (tm 31) (tm 30))::
[]) [.ok,.ok,.ok,.ok,.ok,.ok,.rd none (.load1 (tm 18)) (some (P 19)) [9],.ok,.ok,.ok,.ok,.ok,.ok,.ok,.rd none (.load1 (tm 26)) (some (P 27)) [0,9],.ok,.rd none (.mm true [(tm 27),(tm 28)]) (some (P 29)) [0,9],.ok,.ok,.ok]))) (.run (.go (.bin .add 3 (tm 8) (.con (.int .i64 (.ofNat 1)))) (P 32)::
.go (.move (tm 32)) (P 8)::
[]))))))))
theorem de92 : @compF Try.prog (Gl.none Try.prog) Try.f92 2=.mk d92 (mkTT 33) [(P 0),(P 1)] []:=by kernel_rfl
theorem dg92 : Try.prog.funcs[92]?=some Try.f92:=Try.func92
theorem do92 : okF Try.prog Try.f92=true:=by kernel_rfl
def Rg (H : Heap) (i n : Nat) (R : Nat->Int×Int) : Prop:=∃ c : List Value,H.cellsAt i=some (⟨c⟩,59,true)/\c.length=2*n/\∀ j,j<n->c[2*j]?=some (I (R j).1)/\c[2*j+1]?=some (I (R j).2)
def wid (R : Nat->Int×Int) (row : List Int) (k : Nat) : Nat->Int×Int:=λj=>if j<k then (min (R j).1 (row.getD j 0),max (R j).2 (row.getD j 0)) else R j
theorem wid_0 {R : Nat->Int×Int} {row : List Int} : wid R row 0=R:=by funext j;unfold wid;rw[if_neg (by omega)]
theorem wid_k {R : Nat->Int×Int} {row : List Int} {k : Nat} : wid R row k k=R k:=by unfold wid;rw[if_neg (by omega)]
theorem idxw {i n k : Nat} (hk : k<n) : yindexAddr none 2 (.slice (some ⟨i,0,none⟩) n n) (I (k : Nat))=some (.pointer (some ⟨i,2*k,none⟩)):=by
 simp only[yindexAddr]
 rw[if_pos ⟨by omega,by omega⟩]
 simp[Nat.mul_comm]
theorem f92_ok {H : Heap} {y : Value} {i n : Nat} {R : Nat->Int×Int} {row : List Int} (h : Rg H i n R) (hi : i<H.next) (hy : ∀ X,GrowS (·=i) H X->RI X y row) (hl : row.length=n) (hn : n<=1000) : F Try.prog 92 ⟨[.slice (some ⟨i,0,none⟩) n n,y]⟩ H (λ_ X=>GrowS (·=i) H X/\Rg X i n (wid R row n)):=by
 have hyl : ∀ X,ylen 0 X y=some (I n):=λX=>by
  rw[(⟨hy H (.refl H)⟩ : LS H y row).len X,hl]
 refine F.entryL rfl dg92 do92 de92 rfl (by kernel_rfl) ?_
 simp only[sets]
 refine V.re [(0,.slice (some ⟨i,0,none⟩) n n),(1,y)] (N:=33) zE zY ?_
 intro t hF hA
 simp only[Kn,and_true] at hA
 refine zS ?_
 have zf:=@hyl
 refine V.lz ?_
 refine zS ?_
 refine V.loop (λz t m X=>∃ (k : Nat),k<=n/\z=n-k/\m=[]/\GrowS (·=i) H X/\Rg X i n (wid R row k)/\Full 33 t/\Kn [(0,.slice (some ⟨i,0,none⟩) n n),(6,y),(7,I n),(8,I k)] t) n ?_ ?_
 ·exact⟨0,by omega,by omega,rfl,.refl _,by rw[wid_0];exact h,zF,zK⟩
 clear hF hA
 rintro z t m X ⟨k,hk,rfl,rfl,hg,hR,hF,hA⟩
 simp only[Kn,and_true] at hA
 refine zS ?_
 refine V.l0 ?_
 refine zS ?_
 refine V.condP zP (λhlt=>?_) (λhlt=>?_)
 ·have hlt' : k<n:=by omega
  obtain⟨p,hp,hx⟩:=(⟨hy X hg⟩ : LS X y row).at (show k<row.length by omega)
  have hx1:=hx X (.refl _)
  obtain⟨c,c1,c2,c3⟩:=hR
  obtain⟨c4,c5⟩:=c3 k hlt'
  rw[wid_k] at c4 c5
  have ix:=idxw (i:=i) hlt'
  have hXi : i<X.next:=Nat.lt_of_lt_of_le hi hg.1
  refine zS ?_
  have zf:=aI @hp<|@hx1
  refine V.lz ?_
  refine zS ?_
  refine V.draw ?_
  have zf:=aI @ix<|aI @c1<|aI @c4<|@arr_get
  refine VD.nz 9 ?_
  simp only[ds]
  have hgA : Grow X (X.alloc (.cells ⟨[I row[k]]⟩ 3 true)):=(Grow.refl X).alloc _
  have lsA : LS (X.alloc (.cells ⟨[I row[k]]⟩ 3 true)) (.slice (some ⟨X.next,0,none⟩) 1 1) [row[k]]:=⟨.at (Nat.lt_succ_self _) (cells_alloc _ _ _ _) (by decide) rfl (by simp) (λk x hx=>by simpa [Li] using hx)⟩
  refine VD.callA zA (f80_ok (R k).1 lsA (by simp)) zA (λZ gz=>?_)
  have gXZ:=hgA.trans gz
  have zc : Z.cellsAt i=some (⟨c⟩,59,true):=(gXZ.cells hXi).trans c1
  have za : (X.alloc (.cells ⟨[Value.int .i64 row[k]]⟩ 3 true)).cellsAt i=some (⟨c⟩,59,true):=(hgA.cells hXi).trans c1
  have hcl : 2*k+2<=c.length:=by omega
  have m1:=gXZ.1
  have m2 : X.next+1<=Z.next:=gz.1
  have zf:=aI @ix<|aI @zc<|aI @c5<|aI @arr_get<|@hcl
  refine VD.dz ?_ ?_ rfl ?_
  ·exact zM
  ·simp only[dcAll,dcOk,wantD,List.cons_append,List.nil_append,true_and,and_true]
   have zf:=aI @c1<|aI @za<|aI @zc<|aI @c4<|aI @c5<|aI @arr_get<|@ix
   exact⟨zR,zR,zR⟩
  have eD : row.getD k 0=row[k]:=by rw[List.getD_eq_getElem?_getD,List.getElem?_eq_getElem (by omega)];rfl
  have hZi : i<Z.next:=by omega
  refine V.heap (λW=>GrowS (·=i) H W/\Rg W i n (wid R row (k+1))) ⟨?_,?_⟩ ?_
  ·exact ((hg.trans gXZ.s).set (.inl rfl) _)
  ·refine⟨_,cells_set _ _ _ _ _,by simp[c2],λj hj=>?_⟩
   by_cases hjk : j=k
   ·subst hjk
    have e1 : wid R row (j+1) j=(min (R j).1 row[j],max (R j).2 row[j]):=by unfold wid;rw[if_pos (by omega),eD]
    rw[e1]
    constructor
    ·rw[List.getElem?_set_ne (by omega),List.getElem?_set_self (by omega)]
     rfl
    ·rw[List.getElem?_set_self (by rw[List.length_set];omega)]
     congr 2
     show (if row[j] > (R j).2 then row[j] else (R j).2)=max (R j).2 row[j]
     split<;>omega
   ·obtain⟨d1,d2⟩:=c3 j hj
    have e1 : wid R row (k+1) j=wid R row k j:=by
     unfold wid
     by_cases h2 : j<k
     ·rw[if_pos h2,if_pos (by omega)]
     ·rw[if_neg h2,if_neg (by omega)]
    rw[e1]
    exact⟨by rw[List.getElem?_set_ne (by omega),List.getElem?_set_ne (by omega)];exact d1,by rw[List.getElem?_set_ne (by omega),List.getElem?_set_ne (by omega)];exact d2⟩
  rintro W ⟨gW,hW⟩
  refine zS ?_
  refine V.l0 ?_
  refine V.nil (Or.inl ⟨rfl,n-(k+1),by omega,?_⟩)
  exact⟨k+1,by omega,by omega,rfl,gW,hW,zF,zK⟩
 ·obtain rfl : k=n:=by omega
  refine V.exit ?_
  refine zX ?_
  refine V.nil (Or.inr ⟨by simp,?_⟩)
  refine zX ?_
  refine V.nil (Lv.normal rfl ?_)
  exact⟨hg,hR⟩
end Go.Xe.TRX
namespace Go.Xe
open Go
def IterW (P : Program) [Gl P] [Orc P] (g : FuncId) (first cap : List Value) (D : Nat->Prop) (H0 : Heap) (n : Nat) (ok : Nat->Nat->(Nat->Prop)->Heap->List Value->Prop) : Prop:=
 ∀ (j : Nat) (U : Nat->Prop) (I : Nat->(Nat->Prop)->Heap->Prop) (H : Heap),H0.next<=H.next->(∀ i,U i->i<H.next)->(∀ i,D i->i<H0.next/\¬ U i/\H.get i=H0.get i)->
  (∀ k W W' X X',I k W X->(∀ i,W i->H.next<=i)->GrowS W X X'->(∀ i,W i->W' i)->(∀ i,W' i->W i\/X.next<=i)->I k W' X')->
  (∀ k W X l,k<n->I k W X->(∀ i,W i->H.next<=i/\i<X.next)->GrowS U H X->ok H.next k W X l->FV P (.func (.yield j) ⟨[]⟩ ⟨[]⟩) l X (λv X'=>GrowS U X X'/\v=.bool true/\I (k+1) W X'))->
  I 0 (λ_=>False) H->F P g ⟨first++[.func (.yield j) ⟨[]⟩ ⟨[]⟩]++cap⟩ H (λ_ H'=>GrowS U H H'/\∃ W,(∀ i,W i->H.next<=i)/\I n W H')
section
variable {P : Program} [Gl P] [Orc P] {rnd : Option Nat} {Q : FQ} {K : List FFr} {t : TT} {m : List Nat} {H : Heap}
theorem V.rangeW {f : FA} {ps : List Pth} {ca cb : Code} {x y : FCode} {g : FuncId} {first cap : List Value} {m1 : List Nat} {H0 H1 : Heap} {dd n : Nat} {D : Nat->Prop} {ok : Nat->Nat->(Nat->Prop)->Heap->List Value->Prop} (hI : IterW P g first cap D H0 n ok) (U : Nat->Prop) (I : Nat->(Nat->Prop)->Heap->Prop)
  (hf : dA t f=.func (.func g) ⟨first⟩ ⟨cap⟩) (he : xenter rnd m H=some (dd,m1,H1)) (hH : H0.next<=H1.next) (hU : ∀ i,U i->i<H1.next) (hD : ∀ i,D i->i<H0.next/\¬ U i/\H1.get i=H0.get i) (hL : ∀ k W X l,ok (H1.next+1) k W X l->l.length=ps.length)
  (sI : ∀ k W X X' r1 r2,I k W X->X.get H1.next=some (.loop r1)->X'.get H1.next=some (.loop r2)->GrowS (·=H1.next) X X'->I k W X')
  (sW : ∀ k W W' X X',I k W X->(∀ i,W i->H1.next<i)->GrowS W X X'->(∀ i,W i->W' i)->(∀ i,W' i->W i\/X.next<=i)->I k W' X')
  (h0 : ∀ r,I 0 (λ_=>False) (H1.alloc (.loop r)))
  (hB : ∀ k W l r X,k<n->I k W X->(∀ i,W i->H1.next<i/\i<X.next)->ok (H1.next+1) k W X l->GrowS (λi=>U i\/i=H1.next) H1 X->H1.next<X.next->X.get H1.next=some (.loop r)->r.state=.ready->
   V P (some H1.next) (λe t1 m1 X1=>e=.normal/\X1.get H1.next=some (.loop r)/\GrowS U X X1/\∀ X2,X2=X1.set H1.next (.loop { r with state:=.busy })->X2.get H1.next=some (.loop { r with state:=.busy })->GrowS (·=H1.next) X1 X2->
    V P (some H1.next) (λe2 _ _ X3=>X3.get H1.next=some (.loop { r with state:=.busy })/\GrowS U X2 X3/\e2=.normal/\I (k+1) W X3) [.seq y] .normal t1 m1 X2) [.seq x] .normal (sets l ps t) [] X)
  (hE : ∀ W X,I n W X->(∀ i,W i->H1.next<i)->GrowS (λi=>U i\/i=H1.next) H1 X->H1.next<X.next->V P rnd Q K .normal t m1 X) :
  V P rnd Q (.seq (.rangeFunc f ps ca cb x y)::K) .normal t m H:=by
 refine V.range hf he (λr hr=>?_)
 have hr1:=hr.1
 have hr2:=hr.2.1
 have hn : (H1.alloc (.loop r)).next=H1.next+1:=rfl
 have hg0 : (H1.alloc (.loop r)).get H1.next=some (.loop r):=by rw[Heap.get_alloc,if_pos rfl]
 have same : ({ r with state:=.ready,pending:=none } : Loop)=r:=by cases r;cases hr1;cases hr2;rfl
 refine F.mono (hI H1.next (λi=>U i\/i=H1.next) (λk W X=>I k W X/\H1.next<X.next/\X.get H1.next=some (.loop r)) (H1.alloc (.loop r))
  (by rw[hn];omega) ?_ ?_ ?_ ?_ ⟨h0 r,by rw[hn];omega,hg0⟩) ?_
 ·intro i hi
  rcases hi with hi|rfl
  ·have:=hU i hi;omega
  ·omega
 ·intro i hi
  obtain⟨h1,h2,h3⟩:=hD i hi
  refine⟨h1,λh=>h.elim h2 (λe=>by omega),?_⟩
  rw[Heap.get_alloc,if_neg (by omega),h3]
 ·rintro k W W' X X' ⟨h1,hlt,h2⟩ hW g w1 w2
  exact⟨sW k W W' X X' h1 (λi hi=>by have:=hW i hi;omega) g w1 w2,Nat.lt_of_lt_of_le hlt g.1,by rw[g.2 _ hlt (λhh=>by have:=hW _ hh;omega)];exact h2⟩
 ·rintro k W X l hk ⟨h1,_,h2⟩ hW hg hok
  show ∃ v H',EvY P H1.next ⟨[]++l⟩ X v H'/\_
  rw[List.nil_append]
  refine EvY.of hr h2 (hL _ _ _ _ hok) ?_
  have hg' : GrowS (λi=>U i\/i=H1.next) H1 X:=⟨Nat.le_trans (Nat.le_succ _) hg.1,λi hi hu=>by
   rw[hg.2 i (Nat.lt_succ_of_lt hi) hu,Heap.get_alloc,if_neg (by omega)]⟩
  have hlt : H1.next<X.next:=Nat.lt_of_lt_of_le (Nat.lt_succ_self _) hg.1
  have hb:=hB k W l r X hk h1 (λi hi=>by have:=hW i hi;omega) hok hg' hlt h2 hr1
  obtain⟨hst,hp,ht,hps,hx,hy⟩:=hr
  intro c tm hc htr
  obtain⟨e1,tm1,m1',X1,t1,c1,c2,rfl,c4,c5,c6⟩:=hb c tm hc htr
  refine⟨_,tm1,m1',X1,t1,c1,c2,rfl,c4,?_⟩
  have hlt1 : H1.next<X1.next:=Nat.lt_of_lt_of_le hlt c5.1
  have hset : (X1.set H1.next (.loop { r with state:=.busy })).get H1.next=some (.loop { r with state:=.busy }):=by rw[Heap.get_set,if_pos rfl]
  have hgs : GrowS (·=H1.next) X1 (X1.set H1.next (.loop { r with state:=.busy })):=GrowS.setAt _ _ _
  have hv:=c6 _ rfl hset hgs
  intro c' tm' hc' htr'
  obtain⟨e2,tm2,m2,X3,t2,d1,d2,d3,d4,rfl,d5⟩:=hv c' tm' hc' htr'
  refine⟨_,tm2,m2,X3,t2,d1,d2,d3,?_⟩
  have hgX : GrowS (λi=>U i\/i=H1.next) X X3:=((c5.mono (λi h=>.inl h)).trans (hgs.mono (λi h=>.inr h))).trans (d4.mono (λi h=>.inl h))
  have hfin : ∀ s p,GrowS (·=H1.next) X3 (X3.set H1.next (.loop { r with state:=s,pending:=p })):=λs p=>GrowS.setAt _ _ _
  have hget : ∀ s p,(X3.set H1.next (.loop { r with state:=s,pending:=p })).get H1.next=some (.loop { r with state:=s,pending:=p }):=λs p=>by rw[Heap.get_set,if_pos rfl]
  refine⟨hgX.trans ((hfin _ _).mono (λi h=>.inr h)),rfl,?_,?_,?_⟩
  ·exact sI _ _ _ _ _ _ d5 d3 (hget _ _) (hfin _ _)
  ·have:=hgX.1
   rw[Heap.next_set];omega
  ·simp only[XE.jump,Option.isNone_none,if_true]
   rw[hget,same]
 ·rintro v X ⟨hg,W,hW,h1,_,h2⟩
  have hlt : H1.next<X.next:=Nat.lt_of_lt_of_le (Nat.lt_succ_self _) hg.1
  have hg' : GrowS (λi=>U i\/i=H1.next) H1 X:=⟨Nat.le_trans (Nat.le_succ _) hg.1,λi hi hu=>by
   rw[hg.2 i (Nat.lt_succ_of_lt hi) hu,Heap.get_alloc,if_neg (by omega)]⟩
  have hfin : ∀ s p,GrowS (·=H1.next) X (X.set H1.next (.loop { r with state:=s,pending:=p })):=λs p=>GrowS.setAt _ _ _
  have hget : ∀ s p,(X.set H1.next (.loop { r with state:=s,pending:=p })).get H1.next=some (.loop { r with state:=s,pending:=p }):=λs p=>by rw[Heap.get_set,if_pos rfl]
  refine⟨.ready,.normal,by simp,by rw[h2];simp only[XE.jump];rw[same],?_⟩
  exact hE W _ (sI _ _ _ _ _ _ h1 h2 (hget _ _) (hfin _ _)) (λi hi=>by have:=hW i hi;omega) (hg'.trans ((hfin _ _).mono (λi h=>.inr h))) hlt
end
inductive Chn (W : Nat->Prop) (H : Heap) (e : TypeId) : Nat->Nat->List Int->Prop
 | own {d i : Nat} {l : List Int} (hw : W i) (hi : i<H.next) (h : H.cellsAt i=some (⟨l.map (Value.int .i64)⟩,e,true)) : Chn W H e d i l
 | lent {d i k : Nat} {l r : List Int} (hw : W i) (hi : i<H.next) (h : H.get i=some (.lent ⟨l.map (Value.int .i64)⟩ e k)) (hk : i<k) (hc : Chn W H e d k (l++r)) : Chn W H e (d+1) i l
theorem eqA_int (n : Int) : eqA (Value.int .i64 n) (Value.int .i64 n)=true:=by simp[eqA]
theorem preB_int : ∀ (l r : List Int),preB (l.map (Value.int .i64)) ((l++r).map (Value.int .i64))=true
 | [],_=>by simp[preB]
 | x::l,r=>by
  have:=preB_int l r
  rw[List.map_append] at this
  simp[preB,eqA_int,this]
theorem Chn.now {W : Nat->Prop} {H : Heap} {e : TypeId} {d i : Nat} {l : List Int} (h : Chn W H e d i l) : ∀ {f : Nat},d<f->∃ tp,W tp/\tp<H.next/\i<=tp/\nowB H f i=some (l.map (Value.int .i64),e,tp):=by
 induction h with
 | @own d i l hw hi h=>
  intro f hf
  refine⟨i,hw,hi,Nat.le_refl _,?_⟩
  obtain⟨f,rfl⟩ : ∃ g,f=g+1:=⟨f-1,by omega⟩
  unfold nowB
  unfold Heap.cellsAt at h
  cases hg : H.get i with
  | none=>rw[hg] at h;cases h
  | some o=>
   rw[hg] at h
   cases o<;>simp at h
   obtain⟨rfl,rfl,rfl⟩:=h
   rfl
 | @lent d i k l r hw hi h hk hc ih=>
  intro f hf
  obtain⟨f,rfl⟩ : ∃ g,f=g+1:=⟨f-1,by omega⟩
  obtain⟨tp,h1,h2,h3,h4⟩:=ih (f:=f) (by omega)
  refine⟨tp,h1,h2,by omega,?_⟩
  unfold nowB
  simp only[h,h4]
  rw[if_pos ⟨trivial,preB_int l r⟩]
theorem Chn.lt {W : Nat->Prop} {H : Heap} {e : TypeId} {d i : Nat} {l : List Int} (h : Chn W H e d i l) : i<H.next:=by cases h<;>assumption
theorem Chn.w {W : Nat->Prop} {H : Heap} {e : TypeId} {d i : Nat} {l : List Int} (h : Chn W H e d i l) : W i:=by cases h<;>assumption
theorem Chn.keep {W U : Nat->Prop} {H Y : Heap} {e : TypeId} {d i : Nat} {l : List Int} (h : Chn W H e d i l) (g : GrowS U H Y) (hu : ∀ j,W j->i<=j->¬ U j) : Chn W Y e d i l:=by
 induction h with
 | own hw hi h=>exact .own hw (Nat.lt_of_lt_of_le hi g.1) ((g.cells hi (hu _ hw (Nat.le_refl _))).trans h)
 | lent hw hi h hk hc ih=>exact .lent hw (Nat.lt_of_lt_of_le hi g.1) ((g.2 _ hi (hu _ hw (Nat.le_refl _))).trans h) hk (ih (λj hj hk'=>hu j hj (by omega)))
theorem Chn.push {W : Nat->Prop} {X : Heap} {e : TypeId} {d s bytes : Nat} {v : Value} {l : List Int} {n : Int} {el : TypeId} {rw' : Bool} (hl : l.length<=16) (hd : d+1<=24) (hb : bytes<=100)
  (hv : (v=.slice none 0 0/\l=[])\/∃ i,v=.slice (some ⟨i,0,none⟩) l.length l.length/\Chn W X e d i l) (hs : s<X.next) (hc : X.cellsAt s=some (⟨[Value.int .i64 n]⟩,el,rw')) :
  ∃ Y,yappend e 1 bytes X v (.slice (some ⟨s,0,none⟩) 1 1)=some (.slice (some ⟨X.next,0,none⟩) (l.length+1) (l.length+1),Y)/\Y.next=X.next+1/\Y.cellsAt X.next=some (⟨(l++[n]).map (Value.int .i64)⟩,e,true) /\
   ((v=.slice none 0 0/\l=[]/\Grow X Y)\/∃ i,v=.slice (some ⟨i,0,none⟩) l.length l.length/\Y.get i=some (.lent ⟨l.map (Value.int .i64)⟩ e X.next)/\GrowS (λj=>W j/\i<=j) X Y/\i<X.next/\W i):=by
 have e48 : (2 : Nat) ^ 48=281474976710656:=by decide
 have hsrc : xsource X 1 1 (some ⟨s,0,none⟩)=some ⟨[Value.int .i64 n]⟩:=by
  have hsl : Sl X (.slice (some ⟨s,0,none⟩) 1 1) [Value.int .i64 n]:=.at hs hc (by decide) rfl (by simp) (λk x hx=>by simpa using hx)
  exact (hsl.source (by decide)).1
 have hcond : ((⟨[Value.int .i64 n]⟩ : Array Value).toList.all λy=>y.oneCell' && notTop y)=true:=rfl
 have hb2 : (2*(l.length+1)+256)*bytes<=281474976710656:=by
  have : (2*(l.length+1)+256)*bytes<=290*100:=Nat.mul_le_mul (by omega) hb
  omega
 rcases hv with⟨rfl,rfl⟩|⟨i,rfl,hC⟩
 ·refine⟨X.alloc (.cells ⟨[Value.int .i64 n]⟩ e true),?_,rfl,cells_alloc _ _ _ _,.inl ⟨rfl,rfl,(Grow.refl X).alloc _⟩⟩
  simp only[yappend]
  rw[if_neg (by omega),hsrc]
  simp only[]
  rw[e48,if_pos ⟨hcond,hb2,by simp⟩]
  simp
 ·have hi:=hC.lt
  have hWi:=hC.w
  have ex : ∀ a : Nat,a=l.length->(⟨l.map (Value.int .i64)⟩ : Array Value).extract 0 a=⟨l.map (Value.int .i64)⟩:=by
   rintro a rfl
   apply Array.toList_inj.1
   simp only[List.extract_toArray,List.extract_eq_take_drop,List.drop_zero,Nat.sub_zero]
   rw[List.take_of_length_le (by simp)]
  have e1 : lentO 0 (l.length*1) ⟨l.map (Value.int .i64)⟩ e X.next=.lent ⟨l.map (Value.int .i64)⟩ e X.next:=by
   unfold lentO
   rw[if_pos ⟨rfl,by omega⟩,ex _ (by omega)]
  have e2 : (⟨l.map (Value.int .i64)⟩ : Array Value).extract 0 (0+l.length*1)++(⟨[Value.int .i64 n]⟩ : Array Value)=⟨(l++[n]).map (Value.int .i64)⟩:=by
   rw[ex _ (by omega)]
   apply Array.toList_inj.1
   simp
  have e3:=ex (l.length*1) (by omega)
  have e4 : (⟨l.map (Value.int .i64)⟩ : Array Value)++(⟨[Value.int .i64 n]⟩ : Array Value)=⟨(l++[n]).map (Value.int .i64)⟩:=by
   apply Array.toList_inj.1
   simp
  have hC0:=hC
  cases hC with
  | own hw hi' h=>
   refine⟨(X.set i (.lent ⟨l.map (Value.int .i64)⟩ e X.next)).alloc (.cells ⟨(l++[n]).map (Value.int .i64)⟩ e true),?_,rfl,?_,.inr ⟨i,rfl,?_,?_,hi,hWi⟩⟩
   ·simp only[yappend]
    rw[if_neg (by omega),hsrc]
    simp only[]
    rw[e48,if_pos ⟨hcond,hb2,by omega⟩]
    simp only[h]
    rw[if_pos ⟨trivial,by simp,by simp,by omega⟩,if_neg (by omega)]
    rw[e1,e2]
   ·have:=cells_alloc (X.set i (.lent ⟨l.map (Value.int .i64)⟩ e X.next)) ⟨(l++[n]).map (Value.int .i64)⟩ e true
    simpa only[Heap.next_set] using this
   ·rw[Heap.get_alloc,if_neg (by rw[Heap.next_set];omega),Heap.get_set,if_pos rfl]
   ·refine⟨by simp only[Heap.next_alloc,Heap.next_set];omega,λj hj hn=>?_⟩
    rw[Heap.get_alloc,if_neg (by rw[Heap.next_set];omega),Heap.get_set,if_neg (λhh=>hn ⟨by rw[hh];exact hWi,by omega⟩)]
  | lent hw hi' h hk hc'=>
   obtain⟨tp,t1,t2,t3,t4⟩:=hC0.now (f:=24) (by omega)
   have hno : X.cellsAt i=none:=by unfold Heap.cellsAt;rw[h]
   refine⟨((X.set tp .dead).set i (.lent ⟨l.map (Value.int .i64)⟩ e X.next)).alloc (.cells ⟨(l++[n]).map (Value.int .i64)⟩ e true),?_,rfl,?_,.inr ⟨i,rfl,?_,?_,hi,hWi⟩⟩
   ·simp only[yappend]
    rw[if_neg (by omega),hsrc]
    simp only[]
    rw[e48,if_pos ⟨hcond,hb2,by omega⟩]
    simp only[hno,t4]
    rw[if_pos ⟨trivial,trivial,by simp,by omega⟩]
    rw[e3,e4]
   ·have:=cells_alloc ((X.set tp .dead).set i (.lent ⟨l.map (Value.int .i64)⟩ e X.next)) ⟨(l++[n]).map (Value.int .i64)⟩ e true
    simpa only[Heap.next_set] using this
   ·rw[Heap.get_alloc,if_neg (by simp only[Heap.next_set];omega),Heap.get_set,if_pos rfl]
   ·refine⟨by simp only[Heap.next_alloc,Heap.next_set];omega,λj hj hn=>?_⟩
    rw[Heap.get_alloc,if_neg (by simp only[Heap.next_set];omega),Heap.get_set,if_neg (λhh=>hn ⟨by rw[hh];exact hWi,by omega⟩),Heap.get_set,if_neg (λhh=>hn ⟨by rw[hh];exact t1,by omega⟩)]
section
variable {P : Program} [Gl P] [Orc P] {t : TT} {H H1 : Heap} {is : List FI} {d p : Pth} {w : Bool} {v : Value} {fa : FA} {args : List FA} {l : List Value} {y : Value} {pre : List Heap} {R : TT->List Heap->Prop} {S : Value->Heap->Prop}
theorem DoesD.yield {j : Nat} {a b : Array Value} (hf : dA t fa=.func (.yield j) a b) (h : EvY P j (a++⟨args.map (dA t)⟩) H v H1) : DoesD P (.call fa args) t H v H1:=by
 have hb : FOp.call fa args≠badOp:=by
  intro e
  unfold badOp at e
  cases e
  cases hf
 refine⟨hb,λop tm ho ht=>?_⟩
 rcases comp_call (compOp_S ho hb) with⟨f,aa,ts,rfl,rfl,rfl⟩|rfl
 ·obtain⟨n,h⟩:=h
  refine⟨n,λN hN=>?_⟩
  rw[dA_comp ht] at hf
  rw[parts_eq ht] at h
  have e : (⟨aa.toList.map (ev P tm)⟩ : Array Value)=aa.map (ev P tm):=by apply Array.toList_inj.1;simp
  rw[e] at h
  simp only[xopv,hf,h N hN]
 ·cases hf
theorem DoesD.callV (hf : dA t fa=y) (h : FV P y (args.map (dA t)) H S) : ∃ v H1,DoesD P (.call fa args) t H v H1/\S v H1:=by
 subst hf
 unfold FV at h
 split at h
 ·rename_i g a b e
  obtain⟨v,H1,h1,h2⟩:=h
  have e2 : (⟨a⟩ : Array Value)++⟨args.map (dA t)⟩++⟨b⟩=⟨a++args.map (dA t)++b⟩:=by simp only[arr_app]
  exact⟨v,H1,.call e (by rw[e2];exact h1),h2⟩
 ·rename_i l a b e
  obtain⟨v,H1,h1,h2⟩:=h
  have e2 : (⟨a⟩ : Array Value)++⟨args.map (dA t)⟩=⟨a++args.map (dA t)⟩:=by simp only[arr_app]
  exact⟨v,H1,.yield e (by rw[e2];exact h1),h2⟩
 ·exact h.elim
theorem VD.callV (hf : dA t fa=y) (hs : FV P y l H S) (hl : args.map (dA t)=l) (k : ∀ v H',S v H'->VD P is (st v d t) H' (pre++[H]) R) : VD P (.go (.call fa args) d::is) t H pre R:=by
 subst hl
 obtain⟨v,H1,h1,h2⟩:=DoesD.callV hf hs
 exact .does h1 (k _ _ h2)
theorem VD.callVT (hp : gt p t=.bool w) (hf : dA t fa=y) (hs : FV P y l H S) (hl : args.map (dA t)=l) (k : ∀ v H',S v H'->VD P is (st v d t) H' (pre++[H]) R) : VD P (.gd p w (.call fa args) d::is) t H pre R:=by
 subst hl
 obtain⟨v,H1,h1,h2⟩:=DoesD.callV hf hs
 exact .gdT hp h1 (k _ _ h2)
end
end Go.Xe
end
