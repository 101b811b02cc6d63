/- What the functions of the layer round come to: a count is in the range that a reader concludes (RoundKnown). Conditions: none. -/
import Derived.Test.YtimnlnfpblomnaaTTI
import Derived.Test.YtimnlnfpblomnaaZl
import Derived.WideShapes
import Derived.ChangeSame
import Derived.Below
-- MOD TR
namespace Go.Xe.TRX
open Go Go.Xe Go.Proofs
open Nat renaming reduceLeDiff → qA, reduceSub → qB, reduceAdd → qC, reduceEqDiff → qD, reduceLT → qE
open Int renaming reduceNegSucc → qF, reduceEq → qG
open Go.Xe.V renaming seq → sA, block → sB, scope → sC, skip → sD, close → sE
open Go.Xe renaming pth → P
open Go.Xe.Rnd
set_option maxRecDepth 100000
set_option maxHeartbeats 1600000
set_option linter.unusedSimpArgs false
noncomputable def d11 : FCode:=(.seq (.run (.go (.box 25 (tm 0)) (P 1)::
.go (.move (.con (.bool false))) (P 2)::
[])) (.seq (.seq (.run (.go (.loadN 3 (tm 1)) (P 10)::
.go (.call (.con (.func (.func 41) ⟨[]⟩ ⟨[]⟩)) [tm 10]) (P 11)::
.go (.un .not (tm 11)) (P 12)::
[])) (.cond (tm 12) (.seq (.run (.go (.call (.con (.func (.func 17) ⟨[]⟩ ⟨[]⟩)) []) (P 13)::
.go (.move (tm 13)) (P 2)::
[])) .ret) .skip)) (.seq (.run (.go (.loadN 3 (tm 1)) (P 15)::
.go (.call (.con (.func (.func 19) ⟨[]⟩ ⟨[]⟩)) [tm 15]) (P 16)::
.go (.call (.con (.func (.func 29) ⟨[]⟩ ⟨[]⟩)) [tm 16]) (P 17)::
.go (.move (tm 17)) (P 14)::
.go (.extract (tm 14) 0) (P 18)::
.go (.extract (tm 14) 1) (P 19)::
.go (.extract (tm 14) 2) (P 20)::
.go (.move (tm 18)) (P 3)::
.go (.move (tm 19)) (P 4)::
.go (.move (tm 20)) (P 5)::
[])) (.seq (.seq (.run (.go (.move (tm 5)) (P 21)::
.go (.bin .neq 29 (tm 21) (.con (.int .i64 (.ofNat 0)))) (P 22)::
[])) (.cond (tm 22) (.seq (.run (.go (.move (tm 5)) (P 23)::
.go (.bin .eql 29 (tm 23) (.con (.int .i64 (.ofNat 9)))) (P 24)::
.go (.move (tm 24)) (P 25)::
.gd (P 25) true (.call (.con (.func (.func 17) ⟨[]⟩ ⟨[]⟩)) []) (P 26)::
.go (.pick (tm 25) (tm 26) (.con (.bool false))) (P 27)::
.go (.move (tm 27)) (P 2)::
[])) .ret) .skip)) (.seq (.seq (.run (.go (.move (.con (.int .i64 (.ofNat 0)))) (P 6)::
[])) (.block 0 (.loop (.seq (.seq (.run (.go (.move (tm 6)) (P 28)::
.go (.move (tm 3)) (P 29)::
.go (.len 0 (tm 29)) (P 30)::
.go (.bin .lss 3 (tm 28) (tm 30)) (P 31)::
[])) (.cond (tm 31) .skip (.exit 0))) (.seq (.block 1 (.seq (.run (.go (.move (.con (.int .i64 (.ofNat 0)))) (P 7)::
[])) (.block 2 (.loop (.seq (.seq (.run (.go (.move (tm 7)) (P 34)::
.go (.move (tm 3)) (P 35)::
.go (.move (tm 6)) (P 36)::
.go (.indexAddr none 1 (tm 35) (tm 36)) (P 37)::
.go (.load1 (tm 37)) (P 38)::
.go (.len 0 (tm 38)) (P 39)::
.go (.bin .lss 3 (tm 34) (tm 39)) (P 40)::
[])) (.cond (tm 40) .skip (.exit 2))) (.seq (.block 3 (.seq (.draw 16 (.go (.fieldAddr 0 (tm 1)) (P 44)::
.go (.load1 (tm 44)) (P 45)::
.go (.move (tm 3)) (P 46)::
.go (.move (tm 6)) (P 47)::
.go (.indexAddr none 1 (tm 46) (tm 47)) (P 48)::
.go (.load1 (tm 48)) (P 49)::
.go (.move (tm 7)) (P 50)::
.go (.indexAddr none 1 (tm 49) (tm 50)) (P 51)::
.go (.load1 (tm 51)) (P 52)::
.go (.call (.con (.func (.func 35) ⟨[]⟩ ⟨[]⟩)) [(tm 45),(tm 52)]) (P 53)::
.go (.move (tm 53)) (P 43)::
.go (.extract (tm 43) 0) (P 54)::
.go (.extract (tm 43) 1) (P 55)::
.go (.alloc 59 [(.int .i64 (.ofNat 0)),(.int .i64 (.ofNat 0))]) (P 8)::
.un (.store 2 (tm 8) (tm 54))::
.go (.move (tm 55)) (P 9)::
[]) [.ok,.ok,.ok,.ok,.ok,.ok,.ok,.ok,.ok,.ok,.ok,.ok,.ok,.nw none (some (P 8)) 13 true,.ok,.ok]) (.seq (.draw 28 (.go (.move (tm 9)) (P 56)::
.go (.bin .neq 29 (tm 56) (.con (.int .i64 (.ofNat 0)))) (P 57)::
.go (.move (tm 57)) (P 58)::
.gd (P 58) false (.fieldAddr 1 (tm 1)) (P 59)::
.gd (P 58) false (.load1 (tm 59)) (P 60)::
.gd (P 58) false (.move (tm 6)) (P 61)::
.gd (P 58) false (.indexAddr none 1 (tm 60) (tm 61)) (P 62)::
.gd (P 58) false (.load1 (tm 62)) (P 63)::
.gd (P 58) false (.move (tm 7)) (P 64)::
.gd (P 58) false (.indexAddr none 1 (tm 63) (tm 64)) (P 65)::
.gd (P 58) false (.load1 (tm 65)) (P 66)::
.gd (P 58) false (.fieldAddr 0 (tm 8)) (P 67)::
.gd (P 58) false (.load1 (tm 67)) (P 68)::
.gd (P 58) false (.bin .lss 3 (tm 66) (tm 68)) (P 69)::
.go (.pick (tm 58) (.con (.bool true)) (tm 69)) (P 70)::
.go (.move (tm 70)) (P 71)::
.gd (P 71) false (.fieldAddr 1 (tm 1)) (P 72)::
.gd (P 71) false (.load1 (tm 72)) (P 73)::
.gd (P 71) false (.move (tm 6)) (P 74)::
.gd (P 71) false (.indexAddr none 1 (tm 73) (tm 74)) (P 75)::
.gd (P 71) false (.load1 (tm 75)) (P 76)::
.gd (P 71) false (.move (tm 7)) (P 77)::
.gd (P 71) false (.indexAddr none 1 (tm 76) (tm 77)) (P 78)::
.gd (P 71) false (.load1 (tm 78)) (P 79)::
.gd (P 71) false (.fieldAddr 1 (tm 8)) (P 80)::
.gd (P 71) false (.load1 (tm 80)) (P 81)::
.gd (P 71) false (.bin .gtr 3 (tm 79) (tm 81)) (P 82)::
.go (.pick (tm 71) (.con (.bool true)) (tm 82)) (P 83)::
[]) [.ok,.ok,.ok,.ok,.ok,.ok,.ok,.ok,.ok,.ok,.ok,.ok,.ok,.ok,.ok,.ok,.ok,.ok,.ok,.ok,.ok,.ok,.ok,.ok,.ok,.ok,.ok,.ok]) (.cond (tm 83) (.seq (.run (.go (.move (.con (.bool false))) (P 2)::
[])) .ret) .skip)))) (.run (.go (.move (tm 7)) (P 41)::
.go (.bin .add 3 (tm 41) (.con (.int .i64 (.ofNat 1)))) (P 42)::
.go (.move (tm 42)) (P 7)::
[])))))))) (.run (.go (.move (tm 6)) (P 32)::
.go (.bin .add 3 (tm 32) (.con (.int .i64 (.ofNat 1)))) (P 33)::
.go (.move (tm 33)) (P 6)::
[]))))))) (.seq (.run (.go (.call (.con (.func (.func 17) ⟨[]⟩ ⟨[]⟩)) []) (P 84)::
.go (.move (tm 84)) (P 2)::
[])) .ret))))))
theorem de11 : @compF Try.prog (Gl.none Try.prog) Try.f11 1=.mk d11 (mkTT 85) [(P 0)] [.tmp (P 2)]:=by kernel_rfl
theorem dg11 : Try.prog.funcs[11]?=some Try.f11:=Try.func11
theorem do11 : okF Try.prog Try.f11=true:=by kernel_rfl
theorem rnds_can {T : Tb} (hv : valid T) {N : List (List Int)} (h : N∈rnds T) : can T N∧isr T N:=by
 obtain⟨⟨h1,h2⟩,h3⟩:=rnds_mem.1 h
 refine⟨⟨h1,fun row hr=>⟨h2 row hr,fun v hv'=>?_⟩⟩,h3⟩
 obtain⟨i,hi,rfl⟩:=List.mem_iff_getElem.1 hr
 obtain⟨j,hj,rfl⟩:=List.mem_iff_getElem.1 hv'
 have:=(h3.1 i hi).1 j (by rw[gdl hi];exact hj)
 rw[gdl hi,List.getD_eq_getElem?_getD,List.getElem?_eq_getElem hj] at this
 exact rd_bd hv.1 (cell_bd hv i j) this
theorem rnds_cell {T : Tb} {N : List (List Int)} (h : N∈rnds T) {r k : Nat} (hr : r<N.length) (hk : k<(N[r]).length) (hc : r<T.C.length) (hk2 : k<(T.C[r]).length) : rd T.b (N[r])[k] (T.C[r])[k]:=by
 have:=((rnds_mem.1 h).2.1 r hr).1 k (by rw[gdl hr];exact hk)
 rwa [gdl hr,gdl hc,List.getD_eq_getElem?_getD,List.getElem?_eq_getElem hk,List.getD_eq_getElem?_getD,List.getElem?_eq_getElem hk2] at this
theorem best_mem {T : Tb} (h : rnds T≠[]) : (best T).b∈rnds T:=rsf_mem h
theorem rd_learn {b x n : Int} (hb : 2≤b∧b≤100) (hn : 0≤n∧n≤10000) (h : rd b x n) : x.tmod b=0∧(0≤x∧x≤10100)∧max 0 (x-b+1)≤n∧n≤x+b-1:=by
 have hx:=rd_bd hb hn h
 obtain⟨h1,h2,h3⟩:=(isn_rd hb.1 hn.1 hx.1).2 h
 exact⟨h1,hx,by omega,by omega⟩
theorem f11_ok {H : Heap} {c f : Value} {T : Tb} (h : TV H c f T) : F Try.prog 11 ⟨[.agg ⟨[I T.b,c,f]⟩]⟩ H (fun w _=>w=.bool true):=by
 have hcl : ∀ X,ylen 0 X c=some (I T.C.length):=h.c.len
 refine F.entryL rfl dg11 do11 de11 rfl (by kernel_rfl) ?_
 simp only[sets]
 refine V.re [(0,.agg ⟨[I T.b,c,f]⟩)] (N:=85) zE zY ?_
 intro t hF hA
 simp only[Kn,and_true] at hA
 refine zS ?_
 refine V.l0 ?_
 refine V.heap (fun X=>Grow H X∧Bx X H.next [I T.b,c,f] 25) ⟨?_,?_⟩ ?_
 ·exact zW
 ·exact zB
 rintro H1 ⟨g1,b1⟩
 have n1:=b1.1
 refine zS ?_
 refine V.run ?_
 have zf:=b1.2
 refine VI.sz 1 ?_
 simp only[ds]
 refine VI.callA rfl (f41_ok (h.grow g1)) zA (fun H2 g2=>?_)
 have b2:=b1.grow g2
 have g12:=g1.trans g2
 refine VI.l0 ?_
 refine zS ?_
 refine V.condP zP (fun hs=>?_) (fun hs=>?_)
 ·refine zS ?_
  refine V.run ?_
  refine VI.callA rfl (f17_ok _) zA (fun H3 g3=>?_)
  refine VI.l0 ?_
  refine zS ?_
  refine V.ret (V.rets rfl (Lv.retF (by simp +contextual (disch:=first|omega|simp only[nx];omega) only[D1,cells_alloc_at,cells_alloc_ne,cells_set_at,cells_set_ne,yres,yres1,yresL,qA,qB,qC,D5,hF,hA,↓reduceIte,qD,qE];rfl) ?_))
  rfl
 have hs' : snd T:=Decidable.not_not.1 (by simpa using hs)
 obtain⟨hth,hfl⟩:=hs'
 obtain⟨hf,hv⟩:=flt_0.1 hfl
 have hsh:=thin_sh hth
 refine zS ?_
 refine V.run ?_
 have zf:=b2.2
 refine VI.sz 1 ?_
 simp only[ds]
 refine VI.callR zA (f19_ok (h.grow g12) hsh) zA (fun w3 H3 ⟨g3,c',f',hw3,tv3⟩=>?_)
 subst hw3
 refine VI.callR zA (f29_ok tv3 hsh) zA (fun w4 H4 ⟨g4,u,n,e,hw4,hb4⟩=>?_)
 subst hw4
 have g14:=g12.trans (g3.trans g4)
 have b4:=b2.grow (g3.trans g4)
 rcases hb4 with⟨h0,_⟩|⟨_,hr0,rfl,rfl,rfl⟩|⟨_,hr0,rfl,rfl,hu⟩
 ·exact absurd hfl h0
 ·refine VI.l0 ?_
  refine zS ?_
  refine V.l0 ?_
  refine zS ?_
  refine V.condT zA ?_
  refine zS ?_
  refine V.run ?_
  refine VI.s0 3 ?_
  simp only[ds]
  refine VI.callAT zG rfl (f17_ok _) zA (fun H5 g5=>?_)
  refine VI.l0 ?_
  refine zS ?_
  refine V.ret (V.rets rfl (Lv.retF (by simp +contextual (disch:=first|omega|simp only[nx];omega) only[D1,cells_alloc_at,cells_alloc_ne,cells_set_at,cells_set_ne,yres,yres1,yresL,qA,qB,qC,D5,hF,hA,↓reduceIte,qD,qE];rfl) ?_))
  rfl
 ·obtain⟨N,hN⟩ : ∃ N,N=(best T).b:=⟨_,rfl⟩
  have hm:=best_mem hr0
  rw[← hN] at hu hm
  obtain⟨pu,nu,cu,rfl⟩:=hu.isS
  have hnest:=hu.nest
  obtain⟨hcan,_⟩:=rnds_can hv hm
  have hln:=hnest.len
  have hN5 : N.length≤5:=by have:=hcan.1;have:=hf.1;omega
  have hc4:=cols_le hf
  refine VI.l0 ?_
  refine zS ?_
  refine V.l0 ?_
  refine zS ?_
  refine V.condF zA ?_
  refine zS ?_
  refine V.l0 ?_
  refine zS ?_
  refine V.loop (fun z t m X=>∃ (k : Nat),k≤N.length∧z=N.length-k∧m=[]∧Grow H4 X∧Full 85 t∧Kn [(1,PT H.next),(3,.slice pu nu cu),(6,I k)] t) N.length ?_ ?_
  ·exact⟨0,by omega,by omega,rfl,.refl _,zF,zK⟩
  clear hF hA
  rintro z t m X ⟨k,hk,rfl,rfl,hg,hF,hA⟩
  simp only[Kn,and_true] at hA
  refine zS ?_
  have zf:=@hln
  refine V.lz ?_
  refine zS ?_
  refine V.condP zP (fun hlt=>?_) (fun hlt=>?_)
  ·have hlt' : k<N.length:=by omega
   have hltc : k<T.C.length:=by have:=hcan.1;omega
   obtain⟨p,u,hp,hu'⟩:=hnest.at ri hlt'
   have hpk:=hp .i64
   obtain⟨p2,u2,hp2,hu2⟩:=h.c.at ri hltc
   have hpk2:=hp2 .i64
   have hNk:=hcan.2 _ (List.getElem_mem hlt')
   have hCk:=hv.2.2.1 _ (List.getElem_mem hltc)
   have hNk4 : (N[k]).length≤4:=by have:=hNk.1;omega
   refine zS ?_
   refine V.l0 ?_
   refine zS ?_
   refine V.loop (fun z t m Y=>∃ (j : Nat),j≤(N[k]).length∧z=(N[k]).length-j∧m=[]∧Grow H4 Y∧Full 85 t∧Kn [(1,PT H.next),(3,.slice pu nu cu),(6,I k),(7,I j)] t) (N[k]).length ?_ ?_
   ·exact⟨0,by omega,by omega,rfl,hg,zF,zK⟩
   clear hF hA
   rintro z t m Y ⟨j,hj,rfl,rfl,hgY,hF,hA⟩
   simp only[Kn,and_true] at hA
   obtain⟨hv1,hv2⟩:=hu' Y hgY
   have hvl:=hv2.len
   have gY:=g14.trans hgY
   have bY:=b4.grow hgY
   refine zS ?_
   have zf:=And.intro @hpk<|And.intro @hv1<|@hvl
   refine V.lz ?_
   refine zS ?_
   refine V.condP zP (fun hltj=>?_) (fun hltj=>?_)
   ·have hj1 : j<(N[k]).length:=by omega
    have hj2 : j<(T.C[k]).length:=by rw[hCk.1,← hNk.1];exact hj1
    obtain⟨w,hw,hww⟩:=hv2.at hj1
    have hw1:=hww Y (.refl _)
    have hcell:=rnds_cell hm hlt' hj1 hltc hj2
    have hcb:=hCk.2 _ (List.getElem_mem hj2)
    obtain⟨q1,q2,q3,q4⟩:=rd_learn hv.1 hcb hcell
    have eLV : LV T.b (N[k])[j]=.tuple ⟨[.agg ⟨A2 (max 0 ((N[k])[j]-T.b+1)) ((N[k])[j]+T.b-1)⟩,I 0]⟩:=by
     unfold LV
     rw[if_neg (fun hh=>hh hv.1),if_neg (fun hh=>hh.elim (fun h1=>h1 q2) (fun h1=>h1 q1))]
    refine zS ?_
    refine V.draw ?_
    have zf:=And.intro bY.2<|And.intro @hpk<|And.intro @hv1<|And.intro @hw<|@hw1
    refine VD.nz 9 ?_
    simp only[ds]
    refine VD.callA zA (f35_ok T.b (N[k])[j] _) zA (fun Y1 g5=>?_)
    rw[eLV]
    have m5:=g5.1
    refine VD.d0 ?_ ?_ rfl ?_
    ·exact zM
    ·simp only[dcAll,dcOk,wantD,List.cons_append,List.nil_append,true_and,and_true]
     exact fun _=>⟨_,_,_,rfl,rfl,rfl,(by simp only[D5,hF,hA,↓reduceIte,qD,qE];simp[inBound]),fun _=>⟨_,_,_,cells_alloc _ _ _ _,(by first|exact An_inb|rfl)⟩⟩
    have bY1:=bY.grow g5
    refine V.heap (fun Z=>Grow Y1 Z∧Bx Z Y1.next (A2 (max 0 ((N[k])[j]-T.b+1)) ((N[k])[j]+T.b-1)) 59) ⟨?_,?_⟩ ?_
    ·exact ((Grow.refl Y1).alloc _).set (Nat.le_refl _) _
    ·exact⟨by simp only[Heap.next_set,Heap.next_alloc];omega,cells_set _ _ _ _ _⟩
    rintro Z ⟨gZ,cZ⟩
    have bZ:=bY1.grow gZ
    have gHZ:=gY.trans (g5.trans gZ)
    obtain⟨hc1,hc2⟩:=hu2 Z gHZ
    obtain⟨w2,hw2,hww2⟩:=hc2.at hj2
    have hw21:=hww2 Z (.refl _)
    refine zS ?_
    have zf:=And.intro bZ.2<|And.intro @hpk2<|And.intro @hc1<|And.intro @hw2<|And.intro @hw21<|cZ.2
    refine V.dz ?_ ?_ rfl ?_
    ·exact zM
    ·simp only[dcAll,dcOk,wantD,List.cons_append,List.nil_append,true_and,and_true]
    refine zS ?_
    refine V.condP zP (fun hbad=>?_) (fun hbad=>?_)
    ·exfalso
     rcases hbad with (h1|h1)|h1
     ·exact h1 trivial
     ·omega
     ·omega
    ·refine zS ?_
     refine V.l0 ?_
     refine V.nil (Or.inl ⟨rfl,(N[k]).length-(j+1),by omega,?_⟩)
     exact⟨j+1,hj1,rfl,rfl,hgY.trans (g5.trans gZ),zF,zK⟩
   ·obtain rfl : j=(N[k]).length:=by omega
    refine V.exit ?_
    refine zX ?_
    refine V.nil (Or.inr ⟨by simp,?_⟩)
    refine zX ?_
    refine zS ?_
    refine V.l0 ?_
    refine V.nil (Or.inl ⟨rfl,N.length-(k+1),by omega,?_⟩)
    exact⟨k+1,hlt',rfl,rfl,hgY,zF,zK⟩
  ·obtain rfl : k=N.length:=by omega
   refine V.exit ?_
   refine zX ?_
   refine V.nil (Or.inr ⟨by simp,?_⟩)
   refine zX ?_
   refine zS ?_
   refine V.run ?_
   refine VI.callA rfl (f17_ok _) zA (fun H5 g5=>?_)
   refine VI.l0 ?_
   refine zS ?_
   refine V.ret (V.rets rfl (Lv.retF (by simp +contextual (disch:=first|omega|simp only[nx];omega) only[D1,cells_alloc_at,cells_alloc_ne,cells_set_at,cells_set_ne,yres,yres1,yresL,qA,qB,qC,D5,hF,hA,↓reduceIte,qD,qE];rfl) ?_))
   rfl
end Go.Xe.TRX
/- Rules of reasoning over the executable reading of the model's code (part Z16): arguments, by what their types allow. Conditions: none; for every program. -/
namespace Go.Xe
open Go Go.RowKit Go.ChangeShapes Go.WideShapes
theorem okWide_agg {P : Program} {w : World} {r : Reach} {base : Nat} {t : TypeId} {v : Value} {fs : Array Field} (ht : P.underlying t=some (.struct fs)) (h : Value.okWide P w r base t v) : ∃ cs,v=.agg cs:=by
 unfold Value.okWide at h
 rw[ht] at h
 obtain⟨cs,h,_⟩:=h
 exact⟨cs,h⟩
end Go.Xe
/- The end of a call that has changed nothing of what was there: what a statement asks of the memory behind it. Conditions: as post_of_same's, but that new memory may be frozen. -/
namespace Go.Xe
open Go Go.RowKit Go.ChangeShapes Go.WideShapes
variable {H : Type} {enc : TypeId×Value→H} {P : Program}
theorem post_of_old {f : Func} {s : ChangeSpec} {apart fresh handsOn again : Bool} {W W' : World} {args : Array Value} {v : Value} {ds gs : List (DataW H)} {before pa pv : List MemPlace}
  (hW : DataW.Whole enc P f.params.toList s.vars apart W args.toList ds gs before)
  (hres : ∀ (b : Nat) (sp : Nat→Bool) (hd : Bool),DataW.TrodAll enc P W' b sp hd f.resultTypes.toList (v.resultList f.resultTypes.size) (s.fn H (ds++gs)).results [])
  (hargs : ∀ sp : Nat→Bool,(∀ p∈before,sp p.block=true)→DataW.TrodAll enc P W' 0 sp true f.params.toList args.toList (s.fn H (ds++gs)).args pa)
  (hvars : ∀ sp : Nat→Bool,(∀ p∈before,sp p.block=true)→DataW.TrodVars enc P W' sp s.vars (s.fn H (ds++gs)).vars pv)
  (hps : before=pa++pv) (hk : W.keptBut W' (·∈before)) (hfz : ∀ a : Addr,a.block<W.heap.size→W'.frozen? a=W.frozen? a)
  (hok : ∀ (j : Nat) (t : TypeId) (r : Value),f.resultTypes[j]?=some t→(v.resultList f.resultTypes.size)[j]?=some r→Value.okWide P W' .any 0 t r) :
  s.post enc P f apart fresh handsOn again W args v W':=by
 have old : ∀ p∈before,p.block<W.heap.size:=fun p hp=>hW.lt p hp
 have hold : ∀ p∈before,(fun b=>decide (b<W.heap.size)) p.block=true:=fun p hp=>by simpa using old p hp
 subst hps
 refine⟨ds,gs,_,[],pa,pv,hW,hres _ _ _,hargs _ hold,hvars _ hold,World.keptBut_mono (fun p hp=>⟨hp,.inr (List.mem_append.1 hp)⟩) hk,fun _=>?_⟩
 obtain⟨_,_,_,_,_,hz,hn⟩:=hW
 refine⟨hok,_,_,([]++pa)++pv,⟨[]++pa,pv,trodAll_append (hargs _ (fun _ _=>rfl)) (hres _ _ _),hvars _ (fun _ _=>rfl),rfl,?_,?_⟩,?_⟩
 ·intro b off hp
  have hp' : MemPlace.cell b off∈pa++pv:=by simpa using hp
  rw[hfz _ (old _ hp')]
  exact hz b off hp'
 ·intro ha
  simpa using hn ha
 ·intro p hp _
  simpa using hp
end Go.Xe
