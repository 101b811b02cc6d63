/- What the functions of the layer border come to: what a part of an old district may have. Conditions: none. -/
import Derived.Test.YtgcdbdcnlhonfaaTCN
-- MOD TB
namespace Go.Xe.TBX
open Go Go.Xe Go.Proofs
open Nat renaming reduceLeDiff → qA, reduceSub → qB, reduceAdd → qC, reduceEqDiff → qD, reduceLT → qE
open Int renaming reduceNegSucc → qF, reduceEq → qG
open Go.Xe.V renaming seq → sA, block → sB, scope → sC, skip → sD, close → sE
open Go.Xe renaming pth → P
open Go.Xe.Rnd
open Go.Xe.Sea (adl adl_1 adl_at mem_adl pix pix_at pix_adl adl_len)
set_option maxRecDepth 100000
set_option maxHeartbeats 3200000
set_option linter.unusedSimpArgs false
noncomputable def d96 : FCode:=(.seq (.run (.go (.box 96 (tm 0)) (P 3)::
.go (.box 106 (tm 2)) (P 5)::
.go (.alloc 62 [(.int .i64 (.ofNat 0)),(.int .i64 (.ofNat 0))]) (P 6)::
[])) (.seq (.run (.go (.alloc 62 [(.int .i64 (.ofNat 0)),(.int .i64 (.ofNat 0))]) (P 7)::
.go (.alloc 62 [(.int .i64 (.ofNat 0)),(.int .i64 (.ofNat 0))]) (P 8)::
[])) (.seq (.seq (.run (.go (.loadN 21 (tm 3)) (P 12)::
.go (.fieldAddr 4 (tm 3)) (P 13)::
.go (.loadN 8 (tm 13)) (P 14)::
.go (.move (tm 1)) (P 15)::
.go (.call (.con (.func (.func 94) ⟨[]⟩ ⟨[]⟩)) [(tm 12),(tm 14),(tm 15)]) (P 16)::
[])) (.block 0 (.rangeFunc (tm 16) [(P 17)] (rfA Try.f96 0) (rfB Try.f96 0) (.run (.go (.move (tm 17)) (P 9)::
[])) (.block 1 (.seq (.run (.go (.fieldAddr 0 (tm 3)) (P 18)::
.go (.fieldAddr 2 (tm 18)) (P 19)::
.go (.load1 (tm 19)) (P 20)::
.go (.move (tm 9)) (P 21)::
.go (.indexAddr none 5 (tm 20) (tm 21)) (P 22)::
.go (.fieldAddr 3 (tm 22)) (P 23)::
.go (.loadN 2 (tm 23)) (P 24)::
.go (.alloc 62 [(.int .i64 (.ofNat 0)),(.int .i64 (.ofNat 0))]) (P 10)::
.un (.store 2 (tm 10) (tm 24))::
[])) (.seq (.run (.go (.load1 (tm 5)) (P 25)::
.go (.move (tm 9)) (P 26)::
.go (.call (tm 25) [tm 26]) (P 27)::
[])) (.cond (tm 27) (.run (.go (.loadN 2 (tm 7)) (P 28)::
.go (.loadN 2 (tm 10)) (P 29)::
.go (.call (.con (.func (.func 114) ⟨[]⟩ ⟨[]⟩)) [(tm 28),(tm 29)]) (P 30)::
.un (.store 2 (tm 7) (tm 30))::
[])) (.run (.go (.loadN 2 (tm 8)) (P 31)::
.go (.loadN 2 (tm 10)) (P 32)::
.go (.call (.con (.func (.func 114) ⟨[]⟩ ⟨[]⟩)) [(tm 31),(tm 32)]) (P 33)::
.un (.store 2 (tm 8) (tm 33))::
[]))))))))) (.seq (.run (.go (.fieldAddr 0 (tm 3)) (P 34)::
.go (.fieldAddr 0 (tm 34)) (P 35)::
.go (.load1 (tm 35)) (P 36)::
.go (.move (tm 1)) (P 37)::
.go (.indexAddr none 1 (tm 36) (tm 37)) (P 38)::
.go (.load1 (tm 38)) (P 39)::
.go (.move (tm 39)) (P 11)::
[])) (.seq (.draw 17 (.go (.fieldAddr 0 (tm 7)) (P 40)::
.go (.load1 (tm 40)) (P 41)::
.go (.move (tm 11)) (P 42)::
.go (.fieldAddr 1 (tm 8)) (P 43)::
.go (.load1 (tm 43)) (P 44)::
.go (.bin .sub 3 (tm 42) (tm 44)) (P 45)::
.go (.mm true [(tm 41),(tm 45)]) (P 46)::
.go (.fieldAddr 1 (tm 7)) (P 47)::
.go (.load1 (tm 47)) (P 48)::
.go (.move (tm 11)) (P 49)::
.go (.fieldAddr 0 (tm 8)) (P 50)::
.go (.load1 (tm 50)) (P 51)::
.go (.bin .sub 3 (tm 49) (tm 51)) (P 52)::
.go (.buildSlice 3 1 [(.int .i64 (.ofNat 0))] [(0,1,(tm 52))]) (P 53)::
.go (.call (.con (.func (.func 115) ⟨[]⟩ ⟨[]⟩)) [(tm 48),(tm 53)]) (P 54)::
.go (.build [(.int .i64 (.ofNat 0)),(.int .i64 (.ofNat 0))] [(0,1,(tm 46)),(1,1,(tm 54))]) (P 55)::
.un (.store 2 (tm 6) (tm 55))::
[]) [.ok,.rd none (.load1 (tm 40)) (some (P 41)) [14,15],.ok,.ok,.rd none (.load1 (tm 43)) (some (P 44)) [14,15],.ok,.rd none (.mm true [(tm 41),(tm 45)]) (some (P 46)) [14,15],.ok,.rd none (.load1 (tm 47)) (some (P 48)) [14],.ok,.ok,.ok,.ok,.ok,.ok,.ok,.ok]) .ret)))))
theorem de96 : @compF Try.prog (Gl.none Try.prog) Try.f96 3=.mk d96 (mkTT 56) [(P 0),(P 1),(P 2)] [.many (P 6) 2]:=by kernel_rfl
theorem dg96 : Try.prog.funcs[96]?=some Try.f96:=Try.func96
theorem do96 : okF Try.prog Try.f96=true:=by kernel_rfl
def qL (M : BM) (d : Nat) (P : Nat→Prop) [DecidablePred P] : Int:=pS M.S.length (fun i=>oldF M i=d∧P i) (loF M)
def qH (M : BM) (d : Nat) (P : Nat→Prop) [DecidablePred P] : Int:=pS M.S.length (fun i=>oldF M i=d∧P i) (hiF M)
def rgL (M : BM) (d : Nat) (P : Nat→Prop) [DecidablePred P] : Int:=if qL M d P<M.O.getD d 0-qH M d (fun i=>¬ P i) then M.O.getD d 0-qH M d (fun i=>¬ P i) else qL M d P
def rgH (M : BM) (d : Nat) (P : Nat→Prop) [DecidablePred P] : Int:=lst (qH M d P) [M.O.getD d 0-qL M d (fun i=>¬ P i)]
theorem rgH_min {M : BM} {d : Nat} {P : Nat→Prop} [DecidablePred P] : rgH M d P=min (qH M d P) (M.O.getD d 0-qL M d (fun i=>¬ P i)):=rfl
theorem qL_bd {M : BM} (G : VM M) {d : Nat} {P : Nat→Prop} [DecidablePred P] : 0≤qL M d P∧qL M d P≤80000:=by
 have:=pS_bd (n:=M.S.length) (P:=fun i=>oldF M i=d∧P i) (f:=loF M) (c:=10000) (by omega) (fun i hi=>G.lb hi)
 have:=G.s8
 unfold qL
 omega
theorem qH_bd {M : BM} (G : VM M) {d : Nat} {P : Nat→Prop} [DecidablePred P] : 0≤qH M d P∧qH M d P≤80000:=by
 have:=pS_bd (n:=M.S.length) (P:=fun i=>oldF M i=d∧P i) (f:=hiF M) (c:=10000) (by omega) (fun i hi=>G.hb hi)
 have:=G.s8
 unfold qH
 omega
theorem rg_bd {M : BM} (G : VM M) {d : Nat} {P : Nat→Prop} [DecidablePred P] (hd : d<M.O.length) : (-80000≤rgL M d P∧rgL M d P≤80000)∧-80000≤rgH M d P∧rgH M d P≤80000:=by
 have h1:=qL_bd G (d:=d) (P:=P)
 have h2:=qH_bd G (d:=d) (P:=P)
 have h3:=qL_bd G (d:=d) (P:=fun i=>¬ P i)
 have h4:=qH_bd G (d:=d) (P:=fun i=>¬ P i)
 have h5:=G.ot hd
 rw[rgH_min]
 unfold rgL
 split<;>omega
theorem f96_ok {H : Heap} {o s j : Value} {g : Nat} {cap : List Value} {M : BM} {N : Int} {mi d : Nat} {P : Nat→Prop} [DecidablePred P] (h : MV H o s j M) (G : VM M) (hd : d<M.O.length) (hfv : ∀ X,Grow H X→∀ i : Nat,i<M.S.length→FV Try.prog (.func (.func g) ⟨[]⟩ ⟨cap⟩) [I i] X (fun v X'=>v=.bool (decide (P i))∧Grow X X')) : Gives Try.prog 96 [.agg ⟨ac o s j N (oldF M) (newF M) (MPm mi)⟩,I d,.func (.func g) ⟨[]⟩ ⟨cap⟩] H (.agg ⟨A2 (rgL M d P) (rgH M d P)⟩):=by
 have hl:=h.s.len
 have hS8:=G.s8
 obtain⟨po,no,co,rfl⟩:=h.o.s.isS
 obtain⟨ps,ns,cs,rfl⟩:=h.s.isS
 obtain⟨pj,nj,cj,rfl⟩:=h.j.isS
 refine F.entryL rfl dg96 do96 de96 rfl (by kernel_rfl) ?_
 simp only[sets]
 refine V.re [(0,.agg ⟨ac (.slice po no co) (.slice ps ns cs) (.slice pj nj cj) N (oldF M) (newF M) (MPm mi)⟩),(1,I d),(2,.func (.func g) ⟨[]⟩ ⟨cap⟩)] (N:=56) zE zY ?_
 intro t hF hA
 simp only[Kn,and_true] at hA
 refine zS ?_
 refine V.l0 ?_
 refine zS ?_
 refine V.l0 ?_
 refine V.heap (fun X=>Grow H X∧Bx X H.next (ac (.slice po no co) (.slice ps ns cs) (.slice pj nj cj) N (oldF M) (newF M) (MPm mi)) 96∧Bx X (H.next+1) [.func (.func g) ⟨[]⟩ ⟨cap⟩] 106∧Bx X (H.next+2) (A2 0 0) 62∧Bx X (H.next+3) (A2 0 0) 62∧Bx X (H.next+4) (A2 0 0) 62) ⟨?_,?_,?_,?_,?_,?_⟩ ?_
 ·exact zW
 ·exact zB
 ·exact zB
 ·exact zB
 ·exact zB
 ·exact zB
 rintro H1 ⟨g1,b1,v1,t1,c1,d1⟩
 refine zS ?_
 refine V.run ?_
 have zf:=And.intro b1.2<|@AC
 refine VI.sz 4 ?_
 simp only[ds]
 refine VI.callR zA (f94_ok (cs:=ac (.slice po no co) (.slice ps ns cs) (.slice pj nj cj) N (oldF M) (newF M) (MPm mi)) (f:=oldF M) (d:=(d : Int))) zA (fun w3 H3 ⟨hw3,g3,b3,c3,d3⟩=>?_)
 subst hw3
 have hit':=f113_iter hS8 hl b3 c3 d3
 rw[show ind M.S.length (oldF M) (d : Int)=vd M d from rfl] at hit'
 refine VI.l0 ?_
 have b4:=b1.grow g3
 have v4:=v1.grow g3
 have t4:=t1.grow g3
 have c4:=c1.grow g3
 have d4:=d1.grow g3
 have n1:=d1.1
 have n3:=g3.1
 have e3:=d3.1
 have gH3:=g1.trans g3
 refine zS ?_
 refine V.re [(1,I d),(3,PT H.next),(5,PT (H.next+1)),(6,PT (H.next+2)),(7,PT (H.next+3)),(8,PT (H.next+4)),(16,.func (.func 113) ⟨[]⟩ ⟨[PT H1.next,PT (H1.next+1),PT (H1.next+2)]⟩)] (N:=56) zF zK ?_
 clear hF hA
 intro t hF hA
 simp only[Kn,and_true] at hA
 refine V.rangeL hit' (fun y=>y=H.next+3∨y=H.next+4∨H3.next+1<y) (fun k X=>Bx X H.next (ac (.slice po no co) (.slice ps ns cs) (.slice pj nj cj) N (oldF M) (newF M) (MPm mi)) 96∧Bx X (H.next+1) [.func (.func g) ⟨[]⟩ ⟨cap⟩] 106∧Bx X (H.next+2) (A2 0 0) 62∧Bx X (H.next+3) (A2 (aS (vd M d) P (loF M) k) (aS (vd M d) P (hiF M) k)) 62∧Bx X (H.next+4) (A2 (aS (vd M d) (fun i=>¬ P i) (loF M) k) (aS (vd M d) (fun i=>¬ P i) (hiF M) k)) 62) (fun _ _=>False)
  zA rfl (by simp only[Heap.next_alloc];omega) ?_ ?_ ?_ (fun _ _ _ _ _ h=>h.elim) ?_ ?_ ?_
 ·intro i hi
  have hi' : i<H3.next∧i≠H.next+3∧i≠H.next+4:=by
   have:=c3.1
   have:=b3.1
   rcases hi with rfl|rfl|rfl<;>omega
  refine⟨by omega,by omega,?_⟩
  rw[Heap.get_alloc,if_neg (by omega)]
 ·intro l hl
  obtain⟨q,_,rfl⟩:=List.mem_map.1 hl
  rfl
 ·rintro k X X' r1 r2 ⟨h1,h2,h3,h4,h5⟩ _ _ gg
  simp only[Heap.next_alloc] at gg
  exact⟨h1.growS gg (by omega),h2.growS gg (by omega),h3.growS gg (by omega),h4.growS gg (by omega),h5.growS gg (by omega)⟩
 ·intro r
  have gg : Grow H3 ((H3.alloc (.deferred true)).alloc (.loop r)):=((Grow.refl H3).alloc _).alloc _
  exact⟨b4.grow gg,v4.grow gg,t4.grow gg,c4.grow gg,d4.grow gg⟩
 ·rintro k hk r X ⟨h1,h2,h3,h4,h5⟩ hg hlX hl' hr
  rw[yl_at hk]
  rw[yl_len] at hk
  simp only[sets]
  simp only[Heap.next_alloc] at hlX hl'
  refine zS ?_
  refine V.l0 ?_
  refine V.nil ⟨rfl,hl',.refl _,?_⟩
  intro X2 _ hl2 g2'
  simp only[Heap.next_alloc] at g2' hl2
  have h1:=h1.growS g2' (by omega)
  have h2:=h2.growS g2' (by omega)
  have h3:=h3.growS g2' (by omega)
  have h4:=h4.growS g2' (by omega)
  have h5:=h5.growS g2' (by omega)
  have n2':=g2'.1
  have px:=pix_vd hk
  obtain⟨p,hp⟩ : ∃ p,p=pix (vd M d) k:=⟨_,rfl⟩
  have e1:=aS_1 (P:=P) (f:=loF M) hk
  have e2:=aS_1 (P:=P) (f:=hiF M) hk
  have e3':=aS_1 (P:=fun i=>¬ P i) (f:=loF M) hk
  have e4:=aS_1 (P:=fun i=>¬ P i) (f:=hiF M) hk
  rw[← hp] at px e1 e2 e3' e4
  have hlh:=G.lh px.1
  have lbd : ∀ i,0<vd M d i→0≤loF M i∧loF M i≤10000:=fun i hi=>G.lb (vd_pos.1 hi).1
  have hbd : ∀ i,0<vd M d i→0≤hiF M i∧hiF M i≤10000:=fun i hi=>G.hb (vd_pos.1 hi).1
  have ab1:=aS_bd (P:=P) (k:=k) (by omega) lbd
  have ab2:=aS_bd (P:=P) (k:=k) (by omega) hbd
  have ab3:=aS_bd (P:=fun i=>¬ P i) (k:=k) (by omega) lbd
  have ab4:=aS_bd (P:=fun i=>¬ P i) (k:=k) (by omega) hbd
  have gHX : Grow H X2:=⟨by have:=hg.1;simp only[Heap.next_alloc] at this;have:=gH3.1;omega,fun i hi=>by
   rw[g2'.2 i (by omega) (by omega),hg.2 i (by simp only[Heap.next_alloc];omega) (by simp only[Heap.next_alloc];omega),Heap.get_alloc,if_neg (by omega)]
   exact gH3.2 i hi⟩
  obtain⟨si,so',s1,s2⟩:=h.s.at px.1
  have s3:=(s2 X2 gHX).2.2.2.2.2.2
  rw[← loF_at px.1,← hiF_at px.1] at s3
  rw[← hp]
  refine zS ?_
  have zf:=And.intro h1.2<|And.intro @AC<|And.intro @s1<|@s3
  refine V.lz ?_
  refine V.heap (fun Y=>Grow X2 Y∧Bx Y X2.next (A2 (loF M p) (hiF M p)) 62) ⟨?_,?_⟩ ?_
  ·exact ((Grow.refl X2).alloc _).set (Nat.le_refl _) _
  ·exact Bx.put (by simp only[Heap.next_alloc];omega) _ _
  rintro X3 ⟨gX3,bx3⟩
  have h2':=h2.grow gX3
  have n3':=bx3.1
  refine zS ?_
  refine V.run ?_
  have zf:=h2'.2
  refine VI.sz 2 ?_
  simp only[ds]
  refine VI.callV (y:=.func (.func g) ⟨[]⟩ ⟨cap⟩) zA (by simp only[List.map_cons,List.map_nil,D6,D5,hF,hA,↓reduceIte,qD,qE];exact hfv X3 (gHX.trans gX3) p px.1) (fun v X4 hv=>?_)
  obtain⟨rfl,g4⟩:=hv
  refine VI.l0 ?_
  have gX4:=gX3.trans g4
  have bx4:=bx3.grow g4
  have h1':=h1.grow gX4
  have h2':=h2.grow gX4
  have h3':=h3.grow gX4
  have h4':=h4.grow gX4
  have h5':=h5.grow gX4
  have n4':=g4.1
  have q4:=h4'.1
  have q5:=h5'.1
  refine zS ?_
  refine V.condP zP (fun hP=>?_) (fun hP=>?_)
  ·rw[if_pos hP] at e1 e2
   rw[if_neg (fun hh=>hh hP),Int.add_zero] at e3' e4
   refine zS ?_
   refine V.run ?_
   have zf:=And.intro h4'.2<|bx4.2
   refine VI.sz 2 ?_
   simp only[ds]
   refine VI.callA rfl (f114_ok (a:=aS (vd M d) P (loF M) k) (b:=aS (vd M d) P (hiF M) k) (c:=loF M p) (d:=hiF M p) X4 (by omega)) zA (fun Y gY=>?_)
   have hz:=h4'.grow gY
   have mY:=gY.1
   have zf:=hz.2
   refine VI.lz ?_
   refine zS ?_
   refine V.nil ⟨?_,?_,.inl ⟨rfl,(h1'.grow gY).set (by omega) _,(h2'.grow gY).set (by omega) _,(h3'.grow gY).set (by omega) _,?_,?_⟩⟩
   ·simp only[Heap.next_alloc]
    rw[Heap.get_set,if_neg (by omega),(gX4.trans gY).2 _ (by omega)]
    exact hl2
   ·exact (gX4.trans gY).s.set (.inl (.inl rfl)) _
   ·rw[e1,e2]
    exact Bx.put hz.1 _ _
   ·rw[e3',e4]
    exact (h5'.grow gY).set (by omega) _
  ·rw[if_neg hP,Int.add_zero] at e1 e2
   rw[if_pos hP] at e3' e4
   refine zS ?_
   refine V.run ?_
   have zf:=And.intro h5'.2<|bx4.2
   refine VI.sz 2 ?_
   simp only[ds]
   refine VI.callA rfl (f114_ok (a:=aS (vd M d) (fun i=>¬ P i) (loF M) k) (b:=aS (vd M d) (fun i=>¬ P i) (hiF M) k) (c:=loF M p) (d:=hiF M p) X4 (by omega)) zA (fun Y gY=>?_)
   have hz:=h5'.grow gY
   have mY:=gY.1
   have zf:=hz.2
   refine VI.lz ?_
   refine zS ?_
   refine V.nil ⟨?_,?_,.inl ⟨rfl,(h1'.grow gY).set (by omega) _,(h2'.grow gY).set (by omega) _,(h3'.grow gY).set (by omega) _,?_,?_⟩⟩
   ·simp only[Heap.next_alloc]
    rw[Heap.get_set,if_neg (by omega),(gX4.trans gY).2 _ (by omega)]
    exact hl2
   ·exact (gX4.trans gY).s.set (.inl (.inr (.inl rfl))) _
   ·rw[e1,e2]
    exact (h4'.grow gY).set (by omega) _
   ·rw[e3',e4]
    exact Bx.put hz.1 _ _
 ·rintro e X he hg hn
  simp only[Heap.next_alloc] at hg hn
  rcases he with⟨rfl,h1,h2,h3,h4,h5⟩|⟨_,h⟩
  rotate_left
  ·exact h.elim
  rw[yl_len,aS_end hS8,aS_end hS8] at h4 h5
  have h4 : Bx X (H.next+3) (A2 (qL M d P) (qH M d P)) 62:=h4
  have h5 : Bx X (H.next+4) (A2 (qL M d (fun i=>¬ P i)) (qH M d (fun i=>¬ P i))) 62:=h5
  have hgd : X.get H3.next=some (.deferred true):=by
   rw[hg.2 _ (by simp only[Heap.next_alloc];omega) (by simp only[Heap.next_alloc];omega),Heap.get_alloc,if_pos rfl]
  have gX : Grow H X:=⟨Nat.le_trans gH3.1 (Nat.le_trans (Nat.le_succ _) hg.1),fun i hi=>by
   rw[hg.2 i (by simp only[Heap.next_alloc];omega) (by simp only[Heap.next_alloc];omega),Heap.get_alloc,if_neg (by omega)]
   exact gH3.2 i hi⟩
  obtain⟨L1,hL1⟩ : ∃ z,z=qL M d P:=⟨_,rfl⟩
  obtain⟨T1,hT1⟩ : ∃ z,z=qH M d P:=⟨_,rfl⟩
  obtain⟨L0,hL0⟩ : ∃ z,z=qL M d (fun i=>¬ P i):=⟨_,rfl⟩
  obtain⟨T0,hT0⟩ : ∃ z,z=qH M d (fun i=>¬ P i):=⟨_,rfl⟩
  obtain⟨tt,htt⟩ : ∃ z,z=M.O.getD d 0:=⟨_,rfl⟩
  have bL1:=qL_bd G (d:=d) (P:=P)
  have bT1:=qH_bd G (d:=d) (P:=P)
  have bL0:=qL_bd G (d:=d) (P:=fun i=>¬ P i)
  have bT0:=qH_bd G (d:=d) (P:=fun i=>¬ P i)
  have rL : rgL M d P=if L1<tt-T0 then tt-T0 else L1:=by unfold rgL;rw[hL1,htt,hT0]
  have rH : rgH M d P=lst T1 [tt-L0]:=by unfold rgH;rw[hT1,htt,hL0]
  rw[← hL1] at h4 bL1
  rw[← hT1] at h4 bT1
  rw[← hL0] at h5 bL0
  rw[← hT0] at h5 bT0
  obtain⟨lp,lp1,lp2⟩:=h.o.at hd
  have lp3:=lp2 X gX
  have ot:=G.ot hd
  rw[← ot.1,← htt] at lp3
  have tb : 0≤tt∧tt≤10000:=by rw[htt,ot.1];exact ot.2
  obtain⟨ml,hml⟩ : ∃ z,(if L1<tt-T0 then tt-T0 else L1)=z:=⟨_,rfl⟩
  have q3:=h3.1
  rw[rL,rH,hml]
  refine zS ?_
  have zf:=And.intro h1.2<|And.intro @AC<|And.intro @lp1<|@lp3
  refine V.lz ?_
  refine zS ?_
  refine V.draw ?_
  have zf:=And.intro h4.2<|And.intro h5.2<|@hml
  refine VD.nz 9 ?_
  simp only[ds]
  have zf:=And.intro h4.2<|And.intro h5.2<|@hml
  refine VD.nz 5 ?_
  simp only[ds]
  have bs : Bx (X.alloc (.cells ⟨[I (tt-L0)]⟩ 3 true)) X.next (Li [tt-L0]) 3:=Bx.new _ _ _
  refine VD.callA zA (f115_ok T1 (ls_box bs rfl) (by simp)) zA (fun Y gY=>?_)
  have mg : X.next+1≤Y.next:=gY.1
  have gXY:=((Grow.refl X).alloc (.cells ⟨[I (tt-L0)]⟩ 3 true)).trans gY
  have y3:=h3.grow gXY
  have y4:=h4.grow gXY
  have y5:=h5.grow gXY
  have mY:=gXY.1
  have my:=y3.1
  have zf:=y3.2
  refine VD.dz ?_ ?_ rfl ?_
  ·exact zM
  ·simp only[dcAll,dcOk,wantD,List.cons_append,List.nil_append,true_and,and_true]
   have zf:=And.intro h4.2<|And.intro h5.2<|And.intro y4.2<|And.intro y5.2<|@hml
   exact⟨zR,zR,zR,zR⟩
  refine V.heap (fun Z=>Grow H Z∧Bx Z (H.next+2) (A2 ml (lst T1 [tt-L0])) 62∧Z.get H3.next=some (.deferred true)) ⟨?_,?_,?_⟩ ?_
  ·exact (gX.trans gXY).set (by omega) _
  ·exact Bx.put y3.1 _ _
  ·rw[Heap.get_set,if_neg (by omega),gXY.2 _ (by omega)];exact hgd
  rintro Z ⟨gZ,bZ,hgd⟩
  refine zS ?_
  refine V.ret (V.rets rfl (Lv.retM hgd (by simp +contextual (disch:=first|omega|simp only[nx];omega) only[D1,cells_alloc_at,cells_alloc_ne,cells_set_at,cells_set_ne,yres,yres1,yresL,qA,qB,qC,D5,hF,hA,↓reduceIte,qD,qE,bZ.2];rfl) ?_))
  exact⟨rfl,gZ.set (by omega) _⟩
end Go.Xe.TBX
/- What the functions of the layer border come to: what a street and a new district may have. Conditions: none. -/
-- MOD TB
namespace Go.Xe.TBX
open Go Go.Xe Go.Proofs
open Nat renaming reduceLeDiff → qA, reduceSub → qB, reduceAdd → qC, reduceEqDiff → qD, reduceLT → qE
open Int renaming reduceNegSucc → qF, reduceEq → qG
open Go.Xe.V renaming seq → sA, block → sB, scope → sC, skip → sD, close → sE
open Go.Xe renaming pth → P
open Go.Xe.Rnd
open Go.Xe.Sea (adl adl_1 adl_at mem_adl pix pix_at pix_adl adl_len)
set_option maxRecDepth 100000
set_option maxHeartbeats 3200000
set_option linter.unusedSimpArgs false
noncomputable def d116 : FCode:=(.seq (.run (.go (.move (.con (.bool false))) (P 4)::
[])) (.seq (.draw 7 (.go (.move (tm 0)) (P 5)::
.go (.fieldAddr 12 (tm 1)) (P 6)::
.go (.indexAddr (some 8) 1 (tm 6) (tm 5)) (P 7)::
.go (.load1 (tm 7)) (P 8)::
.go (.load1 (tm 2)) (P 9)::
.go (.bin .eql 3 (tm 8) (tm 9)) (P 10)::
.go (.move (tm 10)) (P 4)::
[]) [.ok,.ok,.ok,.ok,.ok,.ok,.ok]) .ret))
theorem de116 : @compF Try.prog (Gl.none Try.prog) Try.f116 3=.mk d116 (mkTT 11) [(P 0),(P 1),(P 2)] [.tmp (P 4)]:=by kernel_rfl
theorem dg116 : Try.prog.funcs[116]?=some Try.f116:=Try.func116
theorem do116 : okF Try.prog Try.f116=true:=by kernel_rfl
noncomputable def d98 : FCode:=(.seq (.run (.go (.box 96 (tm 0)) (P 2)::
.go (.box 3 (tm 1)) (P 3)::
.go (.alloc 62 [(.int .i64 (.ofNat 0)),(.int .i64 (.ofNat 0))]) (P 4)::
[])) (.seq (.run (.go (.alloc 62 [(.int .i64 (.ofNat 0)),(.int .i64 (.ofNat 0))]) (P 5)::
[])) (.seq (.seq (.run (.go (.fieldAddr 0 (tm 2)) (P 7)::
.go (.fieldAddr 0 (tm 7)) (P 8)::
.go (.load1 (tm 8)) (P 9)::
.go (.len 0 (tm 9)) (P 10)::
.go (.move (.con (.int .i64 (.ofNat 0)))) (P 11)::
[])) (.block 0 (.loop (.seq (.run (.go (.bin .lss 3 (tm 11) (tm 10)) (P 12)::
[])) (.seq (.cond (tm 12) .skip (.exit 0)) (.seq (.block 1 (.seq (.run (.go (.move (tm 11)) (P 13)::
.go (.move (tm 13)) (P 6)::
[])) (.draw 7 (.go (.loadN 2 (tm 5)) (P 14)::
.go (.loadN 21 (tm 2)) (P 15)::
.go (.move (tm 6)) (P 16)::
.go (.makeFunc 116 [] [(tm 2),(tm 3)]) (P 17)::
.go (.call (.con (.func (.func 96) ⟨[]⟩ ⟨[]⟩)) [(tm 15),(tm 16),(tm 17)]) (P 18)::
.go (.call (.con (.func (.func 114) ⟨[]⟩ ⟨[]⟩)) [(tm 14),(tm 18)]) (P 19)::
.un (.store 2 (tm 5) (tm 19))::
[]) [.rd none (.loadN 2 (tm 5)) (some (P 14)) [5],.ok,.ok,.ok,.ok,.ok,.ok]))) (.run (.go (.bin .add 3 (tm 11) (.con (.int .i64 (.ofNat 1)))) (P 20)::
.go (.move (tm 20)) (P 11)::
[])))))))) (.seq (.run (.go (.loadN 2 (tm 5)) (P 21)::
.un (.store 2 (tm 4) (tm 21))::
[])) .ret))))
theorem de98 : @compF Try.prog (Gl.none Try.prog) Try.f98 2=.mk d98 (mkTT 22) [(P 0),(P 1)] [.many (P 4) 2]:=by kernel_rfl
theorem dg98 : Try.prog.funcs[98]?=some Try.f98:=Try.func98
theorem do98 : okF Try.prog Try.f98=true:=by kernel_rfl
noncomputable def d63 : FCode:=(.seq (.run (.go (.box 96 (tm 0)) (P 1)::
.go (.move (.con (.slice none 0 0))) (P 2)::
[])) (.seq (.run (.go (.move (.con (.slice none 0 0))) (P 3)::
[])) (.seq (.seq (.run (.go (.fieldAddr 0 (tm 1)) (P 5)::
.go (.fieldAddr 1 (tm 5)) (P 6)::
.go (.load1 (tm 6)) (P 7)::
.go (.move (.con (.int .i64 (.ofNat 0)))) (P 8)::
[])) (.block 0 (.loop (.seq (.run (.go (.bin .lss 3 (tm 8) (tm 7)) (P 9)::
[])) (.seq (.cond (tm 9) .skip (.exit 0)) (.seq (.block 1 (.seq (.run (.go (.move (tm 8)) (P 10)::
.go (.move (tm 10)) (P 4)::
[])) (.run (.go (.move (tm 3)) (P 11)::
.go (.loadN 21 (tm 1)) (P 12)::
.go (.move (tm 4)) (P 13)::
.go (.call (.con (.func (.func 98) ⟨[]⟩ ⟨[]⟩)) [(tm 12),(tm 13)]) (P 14)::
.go (.buildSlice 62 1 [(.int .i64 (.ofNat 0)),(.int .i64 (.ofNat 0))] [(0,2,(tm 14))]) (P 15)::
.go (.append 62 2 16 (tm 11) (tm 15)) (P 16)::
.go (.move (tm 16)) (P 3)::
[])))) (.run (.go (.bin .add 3 (tm 8) (.con (.int .i64 (.ofNat 1)))) (P 17)::
.go (.move (tm 17)) (P 8)::
[])))))))) (.seq (.run (.go (.move (tm 3)) (P 18)::
.go (.move (tm 18)) (P 2)::
[])) .ret))))
theorem de63 : @compF Try.prog (Gl.none Try.prog) Try.f63 1=.mk d63 (mkTT 19) [(P 0)] [.tmp (P 2)]:=by kernel_rfl
theorem dg63 : Try.prog.funcs[63]?=some Try.f63:=Try.func63
theorem do63 : okF Try.prog Try.f63=true:=by kernel_rfl
noncomputable def d27 : FCode:=(.seq (.run (.go (.box 34 (tm 0)) (P 1)::
.go (.move (.con (.slice none 0 0))) (P 2)::
.go (.move (.con (.int .i64 (.ofNat 0)))) (P 3)::
[])) (.seq (.run (.go (.loadN 4 (tm 1)) (P 7)::
.go (.call (.con (.func (.func 61) ⟨[]⟩ ⟨[]⟩)) [tm 7]) (P 8)::
.go (.move (tm 8)) (P 6)::
.go (.extract (tm 6) 0) (P 9)::
.go (.extract (tm 6) 1) (P 10)::
.go (.alloc 96 [(.slice none 0 0),(.int .i64 (.ofNat 0)),(.slice none 0 0),(.slice none 0 0),(.int .i64 (.ofNat 0)),(.int .i64 (.ofNat 0)),(.int .i64 (.ofNat 0)),(.int .i64 (.ofNat 0)),(.int .i64 (.ofNat 0)),(.int .i64 (.ofNat 0)),(.int .i64 (.ofNat 0)),(.int .i64 (.ofNat 0)),(.int .i64 (.ofNat 0)),(.int .i64 (.ofNat 0)),(.int .i64 (.ofNat 0)),(.int .i64 (.ofNat 0)),(.int .i64 (.ofNat 0)),(.int .i64 (.ofNat 0)),(.int .i64 (.ofNat 0)),(.int .i64 (.ofNat 0)),(.map none)]) (P 4)::
.un (.store 21 (tm 4) (tm 9))::
.go (.move (tm 10)) (P 5)::
[])) (.seq (.seq (.run (.go (.move (tm 5)) (P 11)::
.go (.bin .neq 29 (tm 11) (.con (.int .i64 (.ofNat 0)))) (P 12)::
[])) (.cond (tm 12) (.seq (.run (.go (.move (tm 5)) (P 13)::
.go (.move (.con (.slice none 0 0))) (P 2)::
.go (.move (tm 13)) (P 3)::
[])) .ret) .skip)) (.seq (.run (.go (.loadN 21 (tm 4)) (P 14)::
.go (.call (.con (.func (.func 63) ⟨[]⟩ ⟨[]⟩)) [tm 14]) (P 15)::
.go (.move (tm 15)) (P 2)::
.go (.move (.con (.int .i64 (.ofNat 0)))) (P 3)::
[])) .ret))))
theorem de27 : @compF Try.prog (Gl.none Try.prog) Try.f27 1=.mk d27 (mkTT 16) [(P 0)] [.tmp (P 2),.tmp (P 3)]:=by kernel_rfl
theorem dg27 : Try.prog.funcs[27]?=some Try.f27:=Try.func27
theorem do27 : okF Try.prog Try.f27=true:=by kernel_rfl
theorem f116_ok {H : Heap} {o s j : Value} {M : BM} {N : Int} {mi ia iq k q : Nat} (h8 : k<8) (b : Bx H ia (ac o s j N (oldF M) (newF M) (MPm mi)) 96) (c : Bx H iq [I q] 3) : Gives Try.prog 116 [I k,PT ia,PT iq] H (.bool (decide (newF M k=q))):=by
 have i3:=idx_arr (len:=8) (i:=ia) (o:=12) (kd:=.i64) h8
 have gg:=ac_g (o:=o) (s:=s) (j:=j) (N:=N) (f:=oldF M) (g:=newF M) (m:=MPm mi) h8
 refine F.entryL rfl dg116 do116 de116 rfl (by kernel_rfl) ?_
 simp only[sets]
 refine V.re [(0,I k),(1,PT ia),(2,PT iq)] (N:=11) zE zY ?_
 intro t hF hA
 simp only[Kn,and_true] at hA
 refine zS ?_
 refine V.l0 ?_
 refine zS ?_
 have zf:=And.intro @i3<|And.intro b.2<|And.intro @AC<|And.intro @gg<|c.2
 refine V.dz ?_ ?_ rfl ?_
 ·exact zM
 ·simp only[dcAll,dcOk,wantD,List.cons_append,List.nil_append,true_and,and_true]
 refine zS ?_
 refine V.ret (V.rets rfl (Lv.retG (by simp +contextual (disch:=first|omega|simp only[nx];omega) only[D1,cells_alloc_at,cells_alloc_ne,cells_set_at,cells_set_ne,yres,yres1,yresL,qA,qB,qC,D5,hF,hA,↓reduceIte,qD,qE];rfl) ?_ ?_))
 ·exact zW
 ·rfl
def nwL (M : BM) (q : Nat) : Int:=sm ((List.range M.O.length).map fun d=>rgL M d (fun i=>newF M i=q))
def nwH (M : BM) (q : Nat) : Int:=sm ((List.range M.O.length).map fun d=>rgH M d (fun i=>newF M i=q))
def nkL (M : BM) (q k : Nat) : Int:=sm ((List.range k).map fun d=>rgL M d (fun i=>newF M i=q))
def nkH (M : BM) (q k : Nat) : Int:=sm ((List.range k).map fun d=>rgH M d (fun i=>newF M i=q))
theorem nkL_1 {M : BM} {q k : Nat} : nkL M q (k+1)=nkL M q k+rgL M k (fun i=>newF M i=q):=by
 unfold nkL
 rw[List.range_succ,List.map_append,sm_app]
 simp[sm]
theorem nkH_1 {M : BM} {q k : Nat} : nkH M q (k+1)=nkH M q k+rgH M k (fun i=>newF M i=q):=by
 unfold nkH
 rw[List.range_succ,List.map_append,sm_app]
 simp[sm]
theorem nk_bd {M : BM} (G : VM M) {q : Nat} : ∀ k : Nat,k≤M.O.length→(-80000*(k : Int)≤nkL M q k∧nkL M q k≤80000*k)∧-80000*(k : Int)≤nkH M q k∧nkH M q k≤80000*k
 | 0,_=>by simp[nkL,nkH,sm]
 | k+1,h=>by
  have:=nk_bd G (q:=q) k (by omega)
  have:=rg_bd G (d:=k) (P:=fun i=>newF M i=q) (by omega)
  rw[nkL_1,nkH_1]
  omega
theorem f98_ok {H : Heap} {o s j : Value} {M : BM} {N : Int} {mi q : Nat} (h : MV H o s j M) (G : VM M) : Gives Try.prog 98 [.agg ⟨ac o s j N (oldF M) (newF M) (MPm mi)⟩,I q] H (.agg ⟨A2 (nwL M q) (nwH M q)⟩):=by
 have hlo:=h.o.len
 have hS8:=G.s8
 have hO4:=G.o4
 obtain⟨po,no,co,rfl⟩:=h.o.s.isS
 obtain⟨ps,ns,cs,rfl⟩:=h.s.isS
 obtain⟨pj,nj,cj,rfl⟩:=h.j.isS
 refine F.entryL rfl dg98 do98 de98 rfl (by kernel_rfl) ?_
 simp only[sets]
 refine V.re [(0,.agg ⟨ac (.slice po no co) (.slice ps ns cs) (.slice pj nj cj) N (oldF M) (newF M) (MPm mi)⟩),(1,I q)] (N:=22) zE zY ?_
 intro t hF hA
 simp only[Kn,and_true] at hA
 refine zS ?_
 refine V.l0 ?_
 refine zS ?_
 refine V.l0 ?_
 refine V.heap (fun X=>Grow H X∧Bx X H.next (ac (.slice po no co) (.slice ps ns cs) (.slice pj nj cj) N (oldF M) (newF M) (MPm mi)) 96∧Bx X (H.next+1) [I q] 3∧Bx X (H.next+2) (A2 0 0) 62∧Bx X (H.next+3) (A2 (nkL M q 0) (nkH M q 0)) 62) ⟨?_,?_,?_,?_,?_⟩ ?_
 ·exact zW
 ·exact zB
 ·exact zB
 ·exact zB
 ·have e : A2 (nkL M q 0) (nkH M q 0)=A2 0 0:=rfl
  rw[e]
  exact zB
 rintro H1 ⟨g1,b1,q1,t1,c1⟩
 refine zS ?_
 have zf:=And.intro b1.2<|And.intro @AC<|@hlo
 refine V.lz ?_
 refine zS ?_
 refine V.loop (fun z t mm X=>∃ (d : Nat),d≤M.O.length∧z=M.O.length-d∧mm=[]∧Grow H X∧Bx X H.next (ac (.slice po no co) (.slice ps ns cs) (.slice pj nj cj) N (oldF M) (newF M) (MPm mi)) 96∧Bx X (H.next+1) [I q] 3∧Bx X (H.next+2) (A2 0 0) 62∧Bx X (H.next+3) (A2 (nkL M q d) (nkH M q d)) 62∧Full 22 t∧Kn [(2,PT H.next),(3,PT (H.next+1)),(4,PT (H.next+2)),(5,PT (H.next+3)),(10,I M.O.length),(11,I d)] t) M.O.length ?_ ?_
 ·exact⟨0,by omega,by omega,rfl,g1,b1,q1,t1,c1,zF,zK⟩
 clear hF hA g1 b1 q1 t1 c1
 rintro z t mm X ⟨d,hd,rfl,rfl,gX,bX,qX,tX,cX,hF,hA⟩
 simp only[Kn,and_true] at hA
 refine zS ?_
 refine V.l0 ?_
 refine zS ?_
 refine V.condP zP (fun hlt=>?_) (fun hlt=>?_)
 ·have hlt' : d<M.O.length:=by omega
  have nb:=nk_bd G (q:=q) d hd
  have rb:=rg_bd G (d:=d) (P:=fun i=>newF M i=q) hlt'
  have eL:=nkL_1 (M:=M) (q:=q) (k:=d)
  have eH:=nkH_1 (M:=M) (q:=q) (k:=d)
  obtain⟨a1,ha1⟩ : ∃ z,z=nkL M q d:=⟨_,rfl⟩
  obtain⟨a2,ha2⟩ : ∃ z,z=nkH M q d:=⟨_,rfl⟩
  have f96':=f96_ok (N:=N) (mi:=mi) (g:=116) (cap:=[PT H.next,PT (H.next+1)]) (P:=fun i=>newF M i=q) (h.grow gX) G hlt' (fun X' g' i hi=>f116_ok (by omega) (bX.grow g') (qX.grow g'))
  obtain⟨r1,hr1⟩ : ∃ z,z=rgL M d (fun i=>newF M i=q):=⟨_,rfl⟩
  obtain⟨r2,hr2⟩ : ∃ z,z=rgH M d (fun i=>newF M i=q):=⟨_,rfl⟩
  rw[← ha1] at eL cX nb
  rw[← ha2] at eH cX nb
  rw[← hr1] at eL rb f96'
  rw[← hr2] at eH rb f96'
  refine zS ?_
  refine V.l0 ?_
  refine zS ?_
  refine V.draw ?_
  have zf:=And.intro cX.2<|And.intro bX.2<|@AC
  refine VD.nz 4 ?_
  simp only[ds]
  refine VD.callA zA (f96') zA (fun Y1 k1=>?_)
  have c1:=cX.grow k1
  refine VD.callA zA (f114_ok (a:=a1) (b:=a2) (c:=r1) (d:=r2) Y1 (by omega)) zA (fun Y2 k2=>?_)
  have gY:=k1.trans k2
  have bY:=bX.grow gY
  have qY:=qX.grow gY
  have tY:=tX.grow gY
  have cY:=cX.grow gY
  have m1:=k1.1
  have m2:=k2.1
  have nY:=cY.1
  have zf:=cY.2
  refine VD.dz ?_ ?_ rfl ?_
  ·exact zM
  ·simp only[dcAll,dcOk,wantD,List.cons_append,List.nil_append,true_and,and_true]
   have zf:=And.intro cX.2<|And.intro c1.2<|cY.2
   exact zR
  refine zS ?_
  refine V.l0 ?_
  refine V.nil (Or.inl ⟨rfl,M.O.length-(d+1),by omega,?_⟩)
  refine⟨d+1,hlt',rfl,rfl,(gX.trans gY).set (by omega) _,bY.set (by omega) _,qY.set (by omega) _,tY.set (by omega) _,?_,zF,zK⟩
  rw[eL,eH]
  exact Bx.put cY.1 _ _
 ·obtain rfl : d=M.O.length:=by omega
  have cX : Bx X (H.next+3) (A2 (nwL M q) (nwH M q)) 62:=cX
  have nt:=tX.1
  refine V.exit ?_
  refine zX ?_
  refine V.nil (Or.inr ⟨by simp,?_⟩)
  refine zX ?_
  refine zS ?_
  have zf:=And.intro cX.2<|tX.2
  refine V.lz ?_
  refine V.heap (fun Z=>Grow H Z∧Bx Z (H.next+2) (A2 (nwL M q) (nwH M q)) 62) ⟨?_,?_⟩ ?_
  ·exact gX.set (by omega) _
  ·exact Bx.put tX.1 _ _
  rintro Z ⟨gZ,bZ⟩
  refine zS ?_
  refine V.ret (V.rets rfl (Lv.retG (by simp +contextual (disch:=first|omega|simp only[nx];omega) only[D1,cells_alloc_at,cells_alloc_ne,cells_set_at,cells_set_ne,yres,yres1,yresL,qA,qB,qC,D5,hF,hA,↓reduceIte,qD,qE,bZ.2];rfl) ?_ ?_))
  ·exact gZ
  ·rfl
def nws (M : BM) (n : Nat) : List R2:=(List.range n).map fun q=>(nwL M q,nwH M q)
theorem nws_1 {M : BM} {n : Nat} : nws M (n+1)=nws M n++[(nwL M n,nwH M n)]:=by unfold nws;rw[List.range_succ,List.map_append];rfl
theorem nws_len {M : BM} {n : Nat} : (nws M n).length=n:=by simp[nws]
theorem f63_ok {H : Heap} {o s j : Value} {M : BM} {Nn mi : Nat} (h : MV H o s j M) (G : VM M) (hN : M.N=Nn) : F Try.prog 63 ⟨[.agg ⟨ac o s j (Nn : Int) (oldF M) (newF M) (MPm mi)⟩]⟩ H (fun w X=>Grow H X∧RS X w (nws M Nn)):=by
 have hN4:=G.n
 obtain⟨po,no,co,rfl⟩:=h.o.s.isS
 obtain⟨ps,ns,cs,rfl⟩:=h.s.isS
 obtain⟨pj,nj,cj,rfl⟩:=h.j.isS
 refine F.entryL rfl dg63 do63 de63 rfl (by kernel_rfl) ?_
 simp only[sets]
 refine V.re [(0,.agg ⟨ac (.slice po no co) (.slice ps ns cs) (.slice pj nj cj) (Nn : Int) (oldF M) (newF M) (MPm mi)⟩)] (N:=19) zE zY ?_
 intro t hF hA
 simp only[Kn,and_true] at hA
 refine zS ?_
 refine V.l0 ?_
 refine V.heap (fun X=>Grow H X∧Bx X H.next (ac (.slice po no co) (.slice ps ns cs) (.slice pj nj cj) (Nn : Int) (oldF M) (newF M) (MPm mi)) 96) ⟨?_,?_⟩ ?_
 ·exact zW
 ·exact zB
 rintro H1 ⟨g1,b1⟩
 refine zS ?_
 refine V.l0 ?_
 refine zS ?_
 have zf:=And.intro b1.2<|@AC
 refine V.lz ?_
 refine zS ?_
 refine V.loop (fun z t mm X=>∃ (q : Nat) (w : Value),q≤Nn∧z=Nn-q∧mm=[]∧Grow H1 X∧isS w∧OwW 2 H1 X 62 w ((nws M q).map q2)∧Full 19 t∧Kn [(1,PT H.next),(3,w),(7,I Nn),(8,I q)] t) Nn ?_ ?_
 ·exact⟨0,.slice none 0 0,by omega,by omega,rfl,.refl _,⟨_,_,_,rfl⟩,.nil,zF,zK⟩
 clear hF hA
 rintro z t mm X ⟨q,w,hq,rfl,rfl,gX,hw,ow,hF,hA⟩
 obtain⟨pw,nw',cw,rfl⟩:=hw
 simp only[Kn,and_true] at hA
 have bX:=b1.grow gX
 refine zS ?_
 refine V.l0 ?_
 refine zS ?_
 refine V.condP zP (fun hlt=>?_) (fun hlt=>?_)
 ·have hlt' : q<Nn:=by omega
  have f98':=f98_ok (N:=(Nn : Int)) (mi:=mi) (q:=q) (h.grow (g1.trans gX)) G
  refine zS ?_
  refine V.l0 ?_
  refine zS ?_
  refine V.run ?_
  have zf:=And.intro bX.2<|@AC
  refine VI.sz 3 ?_
  simp only[ds]
  refine VI.callA rfl (f98') zA (fun X2 g2=>?_)
  have gX2:=gX.trans g2
  obtain⟨u,Y,a1,a2,a3,a4⟩:=OwW.push (bytes:=16) (x:=q2 (nwL M q,nwH M q)) (by decide) gX2 (ow.keep g2) q2_w rfl rfl (by rw[List.length_map,nws_len];omega) (by rw[List.length_map,nws_len];omega)
  obtain⟨pu,nu,cu,rfl⟩:=a2.isS
  have zf:=@a1
  refine VI.lz ?_
  refine zS ?_
  refine V.l0 ?_
  refine V.nil (Or.inl ⟨rfl,Nn-(q+1),by omega,?_⟩)
  refine⟨q+1,_,hlt',rfl,rfl,a3,⟨_,_,_,rfl⟩,?_,zF,zK⟩
  rw[nws_1,List.map_append]
  exact a2
 ·obtain rfl : q=Nn:=by omega
  refine V.exit ?_
  refine zX ?_
  refine V.nil (Or.inr ⟨by simp,?_⟩)
  refine zX ?_
  refine zS ?_
  refine V.l0 ?_
  refine zS ?_
  refine V.ret (V.rets rfl (Lv.retF (by simp +contextual (disch:=first|omega|simp only[nx];omega) only[D1,cells_alloc_at,cells_alloc_ne,cells_set_at,cells_set_ne,yres,yres1,yresL,qA,qB,qC,D5,hF,hA,↓reduceIte,qD,qE];rfl) ?_))
  exact⟨g1.trans gX,⟨ow.sw q2_w⟩⟩
theorem f27_ok {H : Heap} {o s j : Value} {M : BM} (h : MV H o s j M) : F Try.prog 27 ⟨[.agg ⟨mc o s j M.N⟩]⟩ H (fun w X=>Grow H X∧((bE M≠0∧w=.tuple ⟨[.slice none 0 0,I (bE M)]⟩)∨(bE M=0∧∃ y,w=.tuple ⟨[y,I 0]⟩∧RS X y (nws M M.N.toNat)))):=by
 obtain⟨po,no,co,rfl⟩:=h.o.s.isS
 obtain⟨ps,ns,cs,rfl⟩:=h.s.isS
 obtain⟨pj,nj,cj,rfl⟩:=h.j.isS
 refine F.entryL rfl dg27 do27 de27 rfl (by kernel_rfl) ?_
 simp only[sets]
 refine V.re [(0,.agg ⟨mc (.slice po no co) (.slice ps ns cs) (.slice pj nj cj) M.N⟩)] (N:=16) zE zY ?_
 intro t hF hA
 simp only[Kn,and_true] at hA
 refine zS ?_
 refine V.l0 ?_
 refine V.heap (fun X=>Grow H X∧Bx X H.next (mc (.slice po no co) (.slice ps ns cs) (.slice pj nj cj) M.N) 34) ⟨?_,?_⟩ ?_
 ·exact zW
 ·exact zB
 rintro H1 ⟨g1,b1⟩
 refine zS ?_
 refine V.run ?_
 have zf:=b1.2
 refine VI.sz 1 ?_
 simp only[ds]
 refine VI.callR zA (f61_ok (h.grow g1)) zA (fun w2 H2 ⟨g2,q2'⟩=>?_)
 have g12:=g1.trans g2
 have n2:=g12.1
 have zok : Z21.all ok1=true:=rfl
 have zpu:=z_put z_len
 obtain⟨e,he⟩ : ∃ e,e=bE M:=⟨_,rfl⟩
 rw[← he] at q2' ⊢
 rcases q2' with⟨q0,hw2⟩|⟨q0,mi,hw2,mp⟩
 ·subst hw2
  have zf:=And.intro @zok<|And.intro @zpu<|@z_len
  refine VI.lz ?_
  refine V.heap (fun X=>Grow H X) ?_ ?_
  ·exact (g12.alloc _).set (by omega) _
  intro H3 g3
  refine zS ?_
  refine V.l0 ?_
  refine zS ?_
  refine V.condP zP (fun hne=>?_) (fun hne=>?_)
  ·refine zS ?_
   refine V.l0 ?_
   refine zS ?_
   refine V.ret (V.rets rfl (Lv.retF (by simp +contextual (disch:=first|omega|simp only[nx];omega) only[D1,cells_alloc_at,cells_alloc_ne,cells_set_at,cells_set_ne,yres,yres1,yresL,qA,qB,qC,D5,hF,hA,↓reduceIte,qD,qE];rfl) ?_))
   exact⟨g3,.inl ⟨q0,rfl⟩⟩
  ·exact absurd q0 hne
 ·subst hw2
  have G:=bE_VM (he ▸ q0)
  have hN4:=G.n
  obtain⟨Nn,hNn⟩ : ∃ Nn : Nat,M.N=Nn:=⟨M.N.toNat,by omega⟩
  have eN : M.N.toNat=Nn:=by omega
  have hok:=ac_ok (o:=.slice po no co) (s:=.slice ps ns cs) (j:=.slice pj nj cj) (N:=M.N) (f:=oldF M) (g:=newF M) (m:=MPm mi) ⟨_,_,_,rfl⟩ ⟨_,_,_,rfl⟩ ⟨_,_,_,rfl⟩ rfl
  have epu:=ac_put (o:=.slice po no co) (s:=.slice ps ns cs) (j:=.slice pj nj cj) (N:=M.N) (f:=oldF M) (g:=newF M) (m:=MPm mi) z_len
  rw[eN]
  have zf:=And.intro @hok<|And.intro @epu<|And.intro @AC<|@z_len
  refine VI.lz ?_
  refine V.heap (fun X=>Grow H X∧Bx X H2.next (ac (.slice po no co) (.slice ps ns cs) (.slice pj nj cj) M.N (oldF M) (newF M) (MPm mi)) 96) ⟨?_,?_⟩ ?_
  ·exact (g12.alloc _).set (by omega) _
  ·exact Bx.put (by simp only[Heap.next_alloc];omega) _ _
  rintro H3 ⟨g3,b3⟩
  refine zS ?_
  refine V.l0 ?_
  refine zS ?_
  refine V.condP zP (fun hne=>?_) (fun hne=>?_)
  ·exact absurd trivial hne
  rw[hNn] at b3
  refine zS ?_
  refine V.run ?_
  have zf:=And.intro b3.2<|@AC
  refine VI.sz 1 ?_
  simp only[ds]
  refine VI.callR zA (f63_ok (h.grow g3) G hNn) zA (fun w4 H4 ⟨g4,q4⟩=>?_)
  have i4:=q4.isS
  obtain⟨p4,n4,c4,rfl⟩:=i4
  refine VI.l0 ?_
  refine zS ?_
  refine V.ret (V.rets rfl (Lv.retF (by simp +contextual (disch:=first|omega|simp only[nx];omega) only[D1,cells_alloc_at,cells_alloc_ne,cells_set_at,cells_set_ne,yres,yres1,yresL,qA,qB,qC,D5,hF,hA,↓reduceIte,qD,qE];rfl) ?_))
  exact⟨g3.trans g4,.inr ⟨q0,_,rfl,q4⟩⟩
end Go.Xe.TBX
