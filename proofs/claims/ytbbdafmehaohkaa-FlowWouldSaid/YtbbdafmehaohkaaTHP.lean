/- What the functions of the layer flow come to: the bounds of all cells. Conditions: none. -/
import Derived.Test.YtbbdafmehaohkaaTHN
-- MOD TF
namespace Go.Xe.TFX
open Go Go.Xe Go.Proofs
open Nat renaming reduceLeDiff → qA, reduceSub → qB, reduceAdd → qC, reduceEqDiff → qD, reduceLT → qE
open Int renaming reduceNegSucc → qF, reduceEq → qG
open Go.Xe.V renaming seq → sA, block → sB, scope → sC, skip → sD, close → sE
open Go.Xe renaming pth → P
open Go.Xe.Flw
set_option maxRecDepth 100000
set_option maxHeartbeats 3200000
set_option linter.unusedSimpArgs false
noncomputable def d73 : FCode:=(.seq (.run (.go (.box 135 (tm 0)) (P 1)::
.go (.alloc 138 [(.map none)]) (P 2)::
.go (.move (.con (.bool false))) (P 3)::
[])) (.seq (.run (.go (.loadN 22 (tm 1)) (P 9)::
.go (.call (.con (.func (.func 115) ⟨[]⟩ ⟨[]⟩)) [tm 9]) (P 10)::
.go (.move (tm 10)) (P 8)::
.go (.extract (tm 8) 0) (P 11)::
.go (.extract (tm 8) 1) (P 12)::
.un (.store 1 (tm 2) (tm 11))::
.go (.move (tm 12)) (P 3)::
[])) (.seq (.seq (.run (.go (.move (tm 3)) (P 13)::
.go (.un .not (tm 13)) (P 14)::
[])) (.cond (tm 14) (.seq (.run (.un (.store 1 (tm 2) (.con (.map none)))::
.go (.move (.con (.bool false))) (P 3)::
[])) .ret) .skip)) (.seq (.seq (.run (.go (.loadN 22 (tm 1)) (P 15)::
.go (.call (.con (.func (.func 74) ⟨[]⟩ ⟨[]⟩)) [tm 15]) (P 16)::
.go (.call (.con (.func (.func 83) ⟨[]⟩ ⟨[]⟩)) [tm 16]) (P 17)::
.go (.call (.con (.func (.func 116) ⟨[]⟩ ⟨[]⟩)) [tm 17]) (P 18)::
[])) (.block 0 (.rangeFunc (tm 18) [(P 19),(P 20)] (rfA Try.f73 0) (rfB Try.f73 0) (.run (.go (.alloc 74 [(.int .i64 (.ofNat 0)),(.int .i64 (.ofNat 0))]) (P 5)::
.un (.store 2 (tm 5) (tm 20))::
[])) (.block 1 (.seq (.run (.go (.loadN 22 (tm 1)) (P 21)::
.go (.loadN 2 (tm 5)) (P 22)::
.go (.call (.con (.func (.func 117) ⟨[]⟩ ⟨[]⟩)) [(tm 21),(tm 22)]) (P 23)::
.go (.len 0 (tm 23)) (P 24)::
.go (.move (.con (.int .i64 (.ofNat 0)))) (P 25)::
[])) (.block 2 (.loop (.seq (.run (.go (.bin .lss 3 (tm 25) (tm 24)) (P 26)::
[])) (.seq (.cond (tm 26) .skip (.exit 2)) (.seq (.block 3 (.seq (.run (.go (.indexAddr none 2 (tm 23) (tm 25)) (P 27)::
.go (.loadN 2 (tm 27)) (P 28)::
.go (.alloc 74 [(.int .i64 (.ofNat 0)),(.int .i64 (.ofNat 0))]) (P 7)::
.un (.store 2 (tm 7) (tm 28))::
[])) (.draw 8 (.go (.load1 (tm 2)) (P 29)::
.go (.loadN 2 (tm 7)) (P 30)::
.go (.loadN 22 (tm 1)) (P 31)::
.go (.loadN 2 (tm 7)) (P 32)::
.go (.loadN 2 (tm 5)) (P 33)::
.go (.load1 (tm 2)) (P 34)::
.go (.call (.con (.func (.func 118) ⟨[]⟩ ⟨[]⟩)) [(tm 31),(tm 32),(tm 33),(tm 34)]) (P 35)::
.un (.mapUpdate 74 (tm 29) (tm 30) (tm 35))::
[]) [.rd none (.load1 (tm 2)) (some (P 29)) [7],.rd none (.loadN 2 (tm 7)) (some (P 30)) [7],.ok,.ok,.ok,.ok,.ok,.ok]))) (.run (.go (.bin .add 3 (tm 25) (.con (.int .i64 (.ofNat 1)))) (P 36)::
.go (.move (tm 36)) (P 25)::
[])))))))))))) (.seq (.run (.go (.load1 (tm 2)) (P 37)::
.un (.store 1 (tm 2) (tm 37))::
.go (.move (.con (.bool true))) (P 3)::
[])) .ret)))))
theorem de73 : @compF Try.prog (Gl.none Try.prog) Try.f73 1=.mk d73 (mkTT 38) [(P 0)] [.one (P 2),.tmp (P 3)]:=by kernel_rfl
theorem dg73 : Try.prog.funcs[73]?=some Try.f73:=Try.func73
theorem do73 : okF Try.prog Try.f73=true:=by kernel_rfl
theorem f73_ok {H : Heap} {c b r n : Value} {u : Nat→Bool} {T : Tb} (h : TV H c b r n T) (hf : fit T) (hv : val T) : F Try.prog 73 ⟨[.agg ⟨LG c b r n u⟩]⟩ H (fun w X=>Grow H X∧((ok T u∧∃ i,w=.tuple ⟨[.map (some i),.bool true]⟩∧SZ X i (bk T (fw T u (T.C.length*grp T)) (T.C.length*grp T))∧Fin T (fw T u (T.C.length*grp T)))∨(¬ ok T u∧w=.tuple ⟨[.map none,.bool false]⟩))):=by
 have hs:=shs hf hv
 have hf1:=hf.1
 have hf2:=hf.2
 have hKG : T.C.length*grp T≤1000:=Nat.le_trans (Nat.mul_le_mul hf1 hf2) (by decide)
 refine F.entryL rfl dg73 do73 de73 rfl (by kernel_rfl) ?_
 simp only[sets]
 refine V.re [(0,.agg ⟨LG c b r n u⟩)] (N:=38) zE zY ?_
 intro t hF hA
 simp only[Kn,and_true] at hA
 refine zS ?_
 refine V.l0 ?_
 refine V.heap (fun X=>Grow H X∧Bx X H.next (LG c b r n u) 135∧Bx X (H.next+1) [.map none] 138) ⟨?_,?_,?_⟩ ?_
 ·exact zW
 ·exact zB
 ·exact zB
 rintro H1 ⟨g1,b1,c1⟩
 have nc:=c1.1
 refine zS ?_
 refine V.run ?_
 have zf:=And.intro b1.2<|And.intro @LG_t22<|@LG_len
 refine VI.sz 1 ?_
 simp only[ds]
 refine VI.callR zA (f115_ok (u:=u) (h.grow g1) hf hv) zA (fun w H2 ⟨g2,hw⟩=>?_)
 have b2:=b1.grow g2
 have c2':=c1.grow g2
 have g12:=g1.trans g2
 rcases hw with⟨hk,i,rfl,hi,m2,z2⟩|⟨hk,rfl⟩
 ·have li:=m2.lt
  have hfin:=fin_ok z2
  generalize fw T u (T.C.length*grp T)=f0 at *
  have zf:=c2'.2
  refine VI.lz ?_
  refine V.heap (fun X=>Grow H X∧Bx X H.next (LG c b r n u) 135∧Bx X (H.next+1) [.map (some i)] 138∧SZ X i f0∧H2.next≤X.next) ⟨?_,?_,?_,?_,?_⟩ ?_
  ·exact g12.set (by omega) _
  ·exact b2.set (by omega) _
  ·exact⟨by simp only[Heap.next_set];exact c2'.1,cells_set _ _ _ _ _⟩
  ·exact m2.growS (U:=(·=H.next+1)) (GrowS.setAt _ _ _) (by omega)
  ·simp only[Heap.next_set];omega
  rintro H3 ⟨g3,b3,c3,m3,n3⟩
  refine zS ?_
  refine V.l0 ?_
  refine zS ?_
  refine V.condF zA ?_
  refine zS ?_
  refine V.run ?_
  have zf:=And.intro b3.2<|And.intro @LG_t22<|@LG_len
  refine VI.sz 1 ?_
  simp only[ds]
  refine VI.callR zA (f74_ok (c:=c) (b:=b) (r:=r) (n:=n) (u:=u) (H:=H3)) zA (fun v8 H4 ⟨p,hp,hp1,g4,p4⟩=>?_)
  subst hp
  have g34:=g3.trans g4
  have np:=p4.1
  have hDin : ∀ j,Din p H.next j→j<H4.next∧H4.get j=H4.get j:=by
   intro j hj
   rcases hj with rfl|hj
   ·exact⟨np,rfl⟩
   ·have q1:=g3.1
    have q2:=g4.1
    exact⟨by omega,rfl⟩
  refine VI.callR zA (f83_ok (f119_iter h g34 p4 (by omega) (by omega)) hKG (Nat.le_refl _) hDin) zA (fun v9 H5 ⟨g5,o5⟩=>?_)
  refine VI.callR zA (f116_ok o5.slice) zA (fun v10 H6 ⟨p',hp',hp1',g6,p6⟩=>?_)
  subst hp'
  refine VI.l0 ?_
  have hv1:=hv.1
  have hv2:=hv.2.1
  have hpos : 0<T.C.length*grp T:=Nat.mul_pos (by omega) (by omega)
  have hcll:=cl_len (K:=T.C.length) (G:=grp T) (Nat.le_refl _)
  obtain⟨i9,o1,o2,rfl,o4⟩ : ∃ i9,H4.next≤i9∧i9<H5.next∧v9=.slice (some ⟨i9,0,none⟩) (T.C.length*grp T) (T.C.length*grp T)∧H5.cellsAt i9=some (⟨(cl T.C.length (grp T) (T.C.length*grp T)).flatten⟩,74,true):=by
   rcases o5 with⟨_,hh⟩|⟨i9,q1,q2,q3,q4⟩
   ·rw[hh] at hcll
    simp at hcll
    omega
   ·rw[hcll] at q3
    exact⟨i9,q1,q2,q3,q4⟩
  have o6 : H6.cellsAt i9=some (⟨(cl T.C.length (grp T) (T.C.length*grp T)).flatten⟩,74,true):=by rw[g6.cells o2];exact o4
  have g46:=(g4.trans g5).trans g6
  have b6:=b3.grow g46
  have c6:=c3.grow g46
  have m6:=m3.grow g46
  have g16:=g3.trans g46
  have np6:=p6.1
  have n6:=g6.1
  have n5:=g5.1
  have n4:=g4.1
  have n3':=g3.1
  refine zS ?_
  refine V.re [(1,PT H.next),(2,PT (H.next+1)),(18,.func (.func 136) ⟨[]⟩ ⟨[PT p']⟩)] (N:=38) zF zK ?_
  clear hF hA
  intro t hF hA
  simp only[Kn,and_true] at hA
  refine V.rangeL (f136_iter hKG p6 o6 (by omega)) (fun y=>y=i) (fun k X=>Bx X H.next (LG c b r n u) 135∧Bx X (H.next+1) [.map (some i)] 138∧SZ X i (bk T f0 k)) (fun _ _=>False)
   zA rfl (Nat.le_succ _) ?_ ?_ ?_ (fun _ _ _ _ _ h=>h.elim) ?_ ?_ ?_
  ·rintro j (rfl|rfl)
   ·exact⟨p6.1,by omega,by rw[Heap.get_alloc,if_neg (by omega)]⟩
   ·exact⟨by omega,by omega,by rw[Heap.get_alloc,if_neg (by omega)]⟩
  ·intro l hl
   obtain⟨q,_,rfl⟩:=List.mem_map.1 hl
   rfl
  ·rintro k X X' r1 r2 ⟨h1,h2,h3⟩ _ _ g
   simp only[Heap.next_alloc] at g
   exact⟨h1.growS g (by omega),h2.growS g (by omega),h3.growS g (by omega)⟩
  ·intro r
   have g : Grow H6 ((H6.alloc (.deferred true)).alloc (.loop r)):=((Grow.refl H6).alloc _).alloc _
   exact⟨b6.grow g,c6.grow g,m6.grow g⟩
  ·rintro k hk r X ⟨h1,h2,h3⟩ hg hlX hl hr
   simp only[Heap.next_alloc] at hlX hl
   rw[bak_len] at hk
   rw[bak_at]
   have hbk:=bk_ok hv hfin (k:=k) (by omega)
   have hG : 0<grp T:=by omega
   have e : T.C.length*grp T-k=T.C.length*grp T-1-k+1:=by omega
   rw[e] at hbk
   have hq : T.C.length*grp T-1-k<T.C.length*grp T:=by omega
   have eb : bk T f0 (k+1)=bst T ((T.C.length*grp T-1-k)/grp T,(T.C.length*grp T-1-k)%grp T) (bk T f0 k):=rfl
   rw[eb]
   generalize bk T f0 k=fk at *
   generalize T.C.length*grp T-1-k=nn at *
   have hx : nn/grp T<T.C.length:=(Nat.div_lt_iff_lt_mul hG).2 hq
   have hy : nn%grp T<grp T:=Nat.mod_lt _ hG
   have hn : nn/grp T*grp T+nn%grp T=nn:=by rw[Nat.mul_comm];exact Nat.div_add_mod nn (grp T)
   generalize nn/grp T=x at *
   generalize nn%grp T=y at *
   simp only[sets]
   refine zS ?_
   refine V.l0 ?_
   refine V.heap (fun Y=>Grow X Y∧Bx Y X.next (A2 x y) 74) ⟨?_,?_⟩ ?_
   ·exact zW
   ·exact zB
   rintro X1 ⟨gx,x4⟩
   have hl1 : X1.get (H6.next+1)=some (.loop r):=(gx.2 _ hlX).trans hl
   refine V.nil ⟨rfl,hl1,gx.s,?_⟩
   intro X2 _ hl2 g2'
   simp only[Heap.next_alloc] at g2' hl2
   have nx1:=gx.1
   have nx2:=g2'.1
   have h1:=(h1.grow gx).growS g2' (by omega)
   have h2:=(h2.grow gx).growS g2' (by omega)
   have h3:=(h3.grow gx).growS g2' (by omega)
   have x4:=x4.growS g2' (by omega)
   have n16:=g16.1
   have gAX : Grow H X2:=⟨by omega,fun q hq=>by rw[g2'.2 q (by omega) (by omega),gx.2 q (by omega),hg.2 q (by simp only[Heap.next_alloc];omega) (by simp only[Heap.next_alloc];omega),Heap.get_alloc,if_neg (by omega),g16.2 q hq]⟩
   obtain⟨v,hm,hv0,hvb,hsame⟩:=hfin.met hv hbk hx hy hn
   have hxy : okK ((x : Int),(y : Int)):=⟨by simp only;omega,by simp only;omega⟩
   have hyN : y<T.N.length:=by have:=hv.2.2.2.1;omega
   have hNN:=hv.2.2.2.2.2.2.2 _ (List.getElem_mem hyN)
   have hN4 : -50≤(T.N[y]).1∧(T.N[y]).1≤50∧-50≤(T.N[y]).2∧(T.N[y]).2≤50:=by
    obtain⟨q1,q2,q3⟩:=hNN
    omega
   have hN0 : (T.N.getD y (0,0)).1≤(T.N.getD y (0,0)).2:=by rw[gd hyN];exact hNN.2.1
   have hbd:=bd_4 (show x<4 by omega)
   refine zS ?_
   refine V.run ?_
   have zf:=And.intro h1.2<|And.intro x4.2<|And.intro @LG_t22<|@LG_len
   refine VI.sz 2 ?_
   simp only[ds]
   refine VI.callR zA (f117_ok (u:=u) (x:=x) (y:=y) hxy (h.grow gAX) (by omega)) zA (fun w3 X3 ⟨g3',o3⟩=>?_)
   have ol:=o3.len
   rw[List.length_map] at ol
   have zf:=@ol
   refine VI.lz ?_
   have h1:=h1.grow g3'
   have h2:=h2.grow g3'
   have h3:=h3.grow g3'
   have x4:=x4.grow g3'
   have gA3:=gAX.trans g3'
   have ni:=m6.lt
   have nx3:=g3'.1
   generalize hL : src (x : Int) (y : Int) (grp T)=L at *
   have hL2 : L.length≤2:=by rw[← hL];exact src_len ..
   refine zS ?_
   refine V.loop (fun z t m Y=>∃ (j : Nat),j≤L.length∧z=L.length-j∧m=[]∧GrowX i X3 Y∧SZ Y i ((L.take j).foldl (nst T (x,y)) fk)∧Full 38 t∧Kn [(1,PT H.next),(2,PT (H.next+1)),(5,PT X.next),(23,w3),(24,I L.length),(25,I j)] t) L.length ?_ ?_
   ·exact⟨0,by omega,by omega,rfl,(Grow.refl _).x _,h3,zF,zK⟩
   clear hF hA
   rintro z t m Y ⟨j,hj,rfl,rfl,hgy,my,hF,hA⟩
   simp only[Kn,and_true] at hA
   have oy : OwW 2 X2 Y 74 w3 (L.map c2):=o3.growS (U:=(·=i)) ((GrowS.refl X3).trans (GrowS.x hgy rfl)) (fun q (hq : X2.next≤q)=>by omega) (Nat.le_refl _)
   have ny:=hgy.1
   refine zS ?_
   refine V.l0 ?_
   refine zS ?_
   refine V.condP zP (fun hlt=>?_) (fun hlt=>?_)
   ·have hj' : j<L.length:=by omega
    have hsL : L[j]∈src (x : Int) (y : Int) (grp T):=by rw[hL];exact List.getElem_mem hj'
    have hnd : L.Nodup:=by rw[← hL];exact src_nd
    obtain⟨hB,hM⟩:=Bk.fold (n:=nn) (x:=x) (y:=y) (f0:=f0) (v:=v) (l:=L.take j) hN0 hy (by omega) (hbk.mono (by omega)) hm (hnd.sublist (List.take_sublist ..)) (fun s hs=>by
     have:=List.mem_of_mem_take hs
     rw[← hL] at this
     exact⟨this,hsame s (by rw[← hL];exact this)⟩)
    generalize hfl : (L.take j).foldl (nst T (x,y)) fk=fl at *
    obtain⟨q1,⟨k',q2,hk',q3,q4⟩,z,q5,q6,q7,q8⟩:=srcs hf hv hfin hB hx hy _ hsL
    have hsr:=srcs_ok hf hv hfin hB hx hy
    have hcb:=cra_bd hf hv hfin hB hx hy
    obtain⟨z',hz',hnar,hns,_⟩:=hM.step hN0 hsL
    have ez : z'=z:=by rw[q5] at hz';exact (Option.some.inj hz').symm
    rw[ez] at hnar hns
    generalize hs0 : L[j]=s at hsL q1 q2 q3 q4 q5 hz' hnar hns
    obtain⟨sx,sy⟩:=s
    simp only at q2 q3 q4 hnar hns
    have hlo:=hM.lo
    have hhi:=hM.hi
    have hne:=hM.ne
    have w1:=few_nn q4 (n:=z.1) q6
    have w2:=few_mst q4 (n:=z.1) q6
    have w3':=mst_le q4 (n:=z.1) q6
    have w4:=few_nn q4 (n:=z.2) (by omega)
    have w5:=few_mst q4 (n:=z.2) (by omega)
    have w6:=mst_le q4 (n:=z.2) (by omega)
    obtain⟨pa,hp1,hp2⟩:=(oy.sw (c2_len L)).get (w:=2) (by decide) (n:=(j : Int)) (k:=j) (x:=A2 sx sy) (kd:=.i64) (by rw[List.getElem?_map,List.getElem?_eq_getElem hj',hs0];rfl) rfl
    have hp3:=hp2 Y (.refl _)
    refine zS ?_
    have zf:=And.intro @hp1<|@hp3
    refine V.lz ?_
    refine V.heap (fun Z=>Grow Y Z∧Bx Z Y.next (A2 sx sy) 74) ⟨?_,?_⟩ ?_
    ·exact zW
    ·exact zB
    rintro Z ⟨gz,z7⟩
    have d1:=(h1.growX hgy (by omega)).grow gz
    have d2:=(h2.growX hgy (by omega)).grow gz
    have d4:=(x4.growX hgy (by omega)).grow gz
    have mz:=my.grow gz
    have nz:=gz.1
    have gAZ : Grow H Z:=⟨by omega,fun q hq=>by rw[gz.2 q (by omega),hgy.2 q (by omega) (by omega),gA3.2 q hq]⟩
    have ec : car T.N[y] (x : Int) (pso T fl x y)=cra T fl x y:=by unfold cra;rw[gd hyN]
    refine zS ?_
    refine V.draw ?_
    have zf:=And.intro d1.2<|And.intro d2.2<|And.intro d4.2<|And.intro z7.2<|And.intro @LG_t22<|@LG_len
    refine VD.nz 6 ?_
    simp only[ds]
    refine VD.callA zA (f118_ok (u:=u) (k:=k') (y:=y) (f:=fl) (ps:=pso T fl x y) (o:=sub2 (cra T fl x y) (sv (rtt T sy) z)) q2 q1 hxy (h.grow gAZ) hs (by omega) hk' mz q5 hM.at_ (by rw[q3];exact q4) (by omega) (by omega) q7 (by omega) (by omega) hyN hN4 (pso_len ..) hsr (by rw[q3,ec];rfl) (by rw[q3,ec];rfl) (by simp only[sub2,sv];omega) (by rw[q3];simp only[sub2,sv];omega) (by rw[q3];simp only[sub2,sv];omega)) zA (fun Z2 gz2=>?_)
    rw[q3]
    generalize nar (rtt T sy) z (sub2 (cra T fl x y) (sv (rtt T sy) z)) v=w at *
    obtain⟨wa,wb⟩:=w
    have d22:=d2.grow gz2
    have z72:=z7.grow gz2
    obtain⟨ob,u1,u2⟩:=(mz.grow gz2).upd q1 wa wb
    have zf:=@u1
    refine VD.dz ?_ ?_ rfl ?_
    ·have:=gz2.1
     exact zM
    ·simp only[dcAll,dcOk,wantD,List.cons_append,List.nil_append,true_and,and_true]
     have zf:=And.intro d2.2<|And.intro d22.2<|And.intro z7.2<|z72.2
     exact⟨zR,zR⟩
    refine zS ?_
    refine V.l0 ?_
    refine V.nil (Or.inl ⟨rfl,L.length-(j+1),by omega,?_⟩)
    refine⟨j+1,hj',rfl,rfl,((hgy.trans (gz.x i)).trans (gz2.x i)).set ob,?_,zF,zK⟩
    rw[List.take_succ_eq_append_getElem hj',List.foldl_append,hfl,hs0]
    show SZ _ i (nst T (x,y) fl (sx,sy))
    rw[hns]
    exact u2
   ·obtain rfl : j=L.length:=by omega
    refine V.exit ?_
    refine zX ?_
    refine V.nil (Or.inr ⟨by simp,?_⟩)
    refine zX ?_
    rw[List.take_length] at my
    have gs3 : GrowS (fun y=>y=i) X2 Y:=g3'.s.trans (GrowS.x hgy rfl)
    refine zS ?_
    refine V.nil ⟨?_,gs3,.inl ⟨rfl,h1.growX hgy (by omega),h2.growX hgy (by omega),?_⟩⟩
    ·exact (gs3.2 (H6.next+1) (by omega) (by show ¬ (_=_);omega)).trans hl2
    ·unfold bst
     simp only
     rw[hL]
     exact my
  ·rintro e X hh hg hlX
   simp only[Heap.next_alloc] at hlX
   have hgd : X.get H6.next=some (.deferred true):=by
    rw[hg.2 _ (by simp only[Heap.next_alloc];omega) (by simp only[Heap.next_alloc];omega),Heap.get_alloc,if_pos rfl]
   have n16:=g16.1
   have gAX : ∀ q,q<H.next→X.get q=H.get q:=fun q hq=>by rw[hg.2 q (by simp only[Heap.next_alloc];omega) (by simp only[Heap.next_alloc];omega),Heap.get_alloc,if_neg (by omega),g16.2 q hq]
   rcases hh with⟨rfl,h1,h2,h3⟩|⟨_,hh⟩
   ·rw[bak_len] at h3
    refine zS ?_
    have zf:=h2.2
    refine V.lz ?_
    refine zS ?_
    refine V.ret (V.rets rfl (Lv.retM (by rw[Heap.get_set,if_neg (by omega)];exact hgd) (by simp +contextual (disch:=first|omega|simp only[nx];omega) only[D1,cells_set_at,cells_set_ne,yres,yres1,yresL,qA,qB,qC,h2.2,D5,hF,hA,↓reduceIte,qD,qE];rfl) ?_))
    refine⟨⟨by simp only[Heap.next_set];omega,fun q hq=>?_⟩,.inl ⟨hk,i,rfl,?_,hfin⟩⟩
    ·rw[Heap.get_set,if_neg (by omega),Heap.get_set,if_neg (by omega)]
     exact gAX q hq
    ·exact h3.growS (U:=fun y=>y=H.next+1∨y=H6.next) (((GrowS.setAt X _ _).mono (by intro y hy;exact .inl hy)).set (.inl (.inr rfl)) _) (by omega)
   ·exact hh.elim
 ·have zf:=c2'.2
  refine VI.lz ?_
  refine V.heap (fun X=>Grow H X∧Bx X (H.next+1) [.map none] 138) ⟨?_,?_⟩ ?_
  ·exact g12.set (by omega) _
  ·exact⟨by simp only[Heap.next_set];exact c2'.1,cells_set _ _ _ _ _⟩
  rintro H3 ⟨g3,c3⟩
  refine zS ?_
  refine V.l0 ?_
  refine zS ?_
  refine V.condT zA ?_
  refine zS ?_
  have zf:=c3.2
  refine V.lz ?_
  refine zS ?_
  refine V.ret (V.rets rfl (Lv.retF (by simp +contextual (disch:=first|omega|simp only[nx];omega) only[D1,cells_alloc_at,cells_alloc_ne,cells_set_at,cells_set_ne,yres,yres1,yresL,qA,qB,qC,D5,hF,hA,↓reduceIte,qD,qE,c3.2];rfl) ?_))
  exact⟨g3.set (by omega) _,.inr ⟨hk,rfl⟩⟩
end Go.Xe.TFX
