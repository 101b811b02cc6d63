/- The statement FlowStill: the function. Conditions: none. -/
import Derived.Test.YtbbdafmehaohkaaTLA
import Derived.Test.YtbbdafmehaohkaaZm
import Derived.WideShapes
import Derived.ChangeSame
import Derived.Below
-- MOD TF
namespace Go.Xe.TFX
open Go Go.Xe Go.Proofs
open Nat renaming reduceLeDiff → qA, reduceSub → qB, reduceAdd → qC, reduceEqDiff → qD, reduceLT → qE
open Int renaming reduceNegSucc → qF, reduceEq → qG
open Go.Xe.V renaming seq → sA, block → sB, scope → sC, skip → sD, close → sE
open Go.Xe renaming pth → P
open Go.Xe.Flw
set_option maxRecDepth 100000
set_option maxHeartbeats 3200000
set_option linter.unusedSimpArgs false
noncomputable def d14 : FCode:=(.seq (.run (.go (.box 25 (tm 0)) (P 2)::
.go (.move (.con (.bool false))) (P 4)::
[])) (.seq (.seq (.run (.go (.loadN 4 (tm 2)) (P 14)::
.go (.call (.con (.func (.func 18) ⟨[]⟩ ⟨[]⟩)) [tm 14]) (P 15)::
.go (.un .not (tm 15)) (P 16)::
.go (.move (tm 16)) (P 17)::
.gd (P 17) false (.loadN 4 (tm 2)) (P 18)::
.gd (P 17) false (.call (.con (.func (.func 26) ⟨[]⟩ ⟨[]⟩)) [tm 18]) (P 19)::
.gd (P 17) false (.bin .neq 33 (tm 19) (.con (.int .i64 (.ofNat 0)))) (P 20)::
.go (.pick (tm 17) (.con (.bool true)) (tm 20)) (P 21)::
[])) (.cond (tm 21) (.seq (.run (.go (.call (.con (.func (.func 20) ⟨[]⟩ ⟨[]⟩)) []) (P 22)::
.go (.move (tm 22)) (P 4)::
[])) .ret) .skip)) (.seq (.run (.go (.loadN 4 (tm 2)) (P 23)::
.go (.alloc 25 [(.slice none 0 0),(.slice none 0 0),(.slice none 0 0),(.slice none 0 0)]) (P 5)::
.un (.store 4 (tm 5) (tm 23))::
[])) (.seq (.draw 12 (.go (.fieldAddr 2 (tm 2)) (P 24)::
.go (.load1 (tm 24)) (P 25)::
.go (.len 0 (tm 25)) (P 26)::
.go (.fieldAddr 3 (tm 2)) (P 28)::
.go (.load1 (tm 28)) (P 29)::
.go (.len 0 (tm 29)) (P 30)::
.go (.fieldAddr 2 (tm 5)) (P 32)::
.go (.makeSlice 62 2 16 [(.int .i64 (.ofNat 0)),(.int .i64 (.ofNat 0))] (tm 26) (tm 26)) (P 27)::
.un (.store 1 (tm 32) (tm 27))::
.go (.fieldAddr 3 (tm 5)) (P 33)::
.go (.makeSlice 62 2 16 [(.int .i64 (.ofNat 0)),(.int .i64 (.ofNat 0))] (tm 30) (tm 30)) (P 31)::
.un (.store 1 (tm 33) (tm 31))::
[]) [.ok,.ok,.ok,.nw none (some (P 27)) 7 true,.ok,.rd none (.load1 (tm 28)) (some (P 29)) [9],.rd none (.len 0 (tm 29)) (some (P 30)) [9],.nw none (some (P 31)) 10 true,.ok,.ok,.ok,.ok]) (.seq (.run (.go (.loadN 4 (tm 5)) (P 35)::
.go (.move (tm 1)) (P 36)::
.go (.call (.con (.func (.func 53) ⟨[]⟩ ⟨[]⟩)) [(tm 35),(tm 36),(.con (.int .u16 (.ofNat 0)))]) (P 37)::
.go (.move (tm 37)) (P 34)::
.go (.extract (tm 34) 0) (P 38)::
.go (.extract (tm 34) 1) (P 39)::
.go (.extract (tm 34) 2) (P 40)::
.go (.extract (tm 34) 3) (P 41)::
.go (.alloc 25 [(.slice none 0 0),(.slice none 0 0),(.slice none 0 0),(.slice none 0 0)]) (P 6)::
.go (.alloc 29 [(.slice none 0 0),(.slice none 0 0),(.slice none 0 0),(.slice none 0 0)]) (P 7)::
.un (.store 4 (tm 6) (tm 38))::
.un (.store 4 (tm 7) (tm 39))::
.go (.move (tm 40)) (P 8)::
.go (.move (tm 41)) (P 9)::
[])) (.seq (.seq (.run (.go (.move (tm 9)) (P 42)::
.go (.un .not (tm 42)) (P 43)::
[])) (.cond (tm 43) (.seq (.run (.go (.call (.con (.func (.func 20) ⟨[]⟩ ⟨[]⟩)) []) (P 44)::
.go (.move (tm 44)) (P 4)::
[])) .ret) .skip)) (.seq (.run (.go (.loadN 4 (tm 6)) (P 46)::
.go (.call (.con (.func (.func 22) ⟨[]⟩ ⟨[]⟩)) [tm 46]) (P 47)::
.go (.call (.con (.func (.func 31) ⟨[]⟩ ⟨[]⟩)) [tm 47]) (P 48)::
.go (.move (tm 48)) (P 45)::
.go (.extract (tm 45) 0) (P 49)::
.go (.extract (tm 45) 1) (P 50)::
.go (.move (tm 49)) (P 10)::
.go (.move (tm 50)) (P 11)::
[])) (.seq (.seq (.run (.go (.move (tm 11)) (P 51)::
.go (.bin .neq 33 (tm 51) (.con (.int .i64 (.ofNat 0)))) (P 52)::
.go (.move (tm 52)) (P 53)::
.gd (P 53) false (.move (tm 10)) (P 54)::
.gd (P 53) false (.len 0 (tm 54)) (P 55)::
.gd (P 53) false (.fieldAddr 0 (tm 6)) (P 56)::
.gd (P 53) false (.load1 (tm 56)) (P 57)::
.gd (P 53) false (.len 0 (tm 57)) (P 58)::
.gd (P 53) false (.bin .neq 3 (tm 55) (tm 58)) (P 59)::
.go (.pick (tm 53) (.con (.bool true)) (tm 59)) (P 60)::
[])) (.cond (tm 60) (.seq (.run (.go (.move (.con (.bool false))) (P 4)::
[])) .ret) .skip)) (.seq (.seq (.run (.go (.move (.con (.int .i64 (.ofNat 0)))) (P 12)::
[])) (.block 0 (.loop (.seq (.seq (.run (.go (.move (tm 12)) (P 61)::
.go (.move (tm 10)) (P 62)::
.go (.len 0 (tm 62)) (P 63)::
.go (.bin .lss 3 (tm 61) (tm 63)) (P 64)::
[])) (.cond (tm 64) .skip (.exit 0))) (.seq (.block 1 (.seq (.seq (.draw 8 (.go (.move (tm 10)) (P 67)::
.go (.move (tm 12)) (P 68)::
.go (.indexAddr none 1 (tm 67) (tm 68)) (P 69)::
.go (.load1 (tm 69)) (P 70)::
.go (.len 0 (tm 70)) (P 71)::
.go (.loadN 4 (tm 6)) (P 72)::
.go (.call (.con (.func (.func 34) ⟨[]⟩ ⟨[]⟩)) [tm 72]) (P 73)::
.go (.bin .neq 3 (tm 71) (tm 73)) (P 74)::
[]) [.ok,.ok,.ok,.rd none (.load1 (tm 69)) (some (P 70)) [7],.rd none (.len 0 (tm 70)) (some (P 71)) [7],.ok,.ok,.ok]) (.cond (tm 74) (.seq (.run (.go (.move (.con (.bool false))) (P 4)::
[])) .ret) .skip)) (.seq (.run (.go (.move (.con (.int .i64 (.ofNat 1)))) (P 13)::
[])) (.block 2 (.loop (.seq (.seq (.run (.go (.move (tm 13)) (P 75)::
.go (.move (tm 10)) (P 76)::
.go (.move (tm 12)) (P 77)::
.go (.indexAddr none 1 (tm 76) (tm 77)) (P 78)::
.go (.load1 (tm 78)) (P 79)::
.go (.len 0 (tm 79)) (P 80)::
.go (.bin .sub 3 (tm 80) (.con (.int .i64 (.ofNat 1)))) (P 81)::
.go (.bin .lss 3 (tm 75) (tm 81)) (P 82)::
.go (.move (tm 82)) (P 83)::
.gd (P 83) true (.move (tm 12)) (P 84)::
.gd (P 83) true (.bin .gtr 3 (tm 84) (.con (.int .i64 (.ofNat 0)))) (P 85)::
.go (.pick (tm 83) (tm 85) (.con (.bool false))) (P 86)::
[])) (.cond (tm 86) .skip (.exit 2))) (.seq (.block 3 (.seq (.draw 17 (.go (.move (tm 10)) (P 89)::
.go (.move (tm 12)) (P 90)::
.go (.indexAddr none 1 (tm 89) (tm 90)) (P 91)::
.go (.load1 (tm 91)) (P 92)::
.go (.move (tm 13)) (P 93)::
.go (.indexAddr none 2 (tm 92) (tm 93)) (P 94)::
.go (.loadN 2 (tm 94)) (P 95)::
.go (.move (tm 10)) (P 96)::
.go (.move (tm 12)) (P 97)::
.go (.bin .sub 3 (tm 97) (.con (.int .i64 (.ofNat 1)))) (P 98)::
.go (.indexAddr none 1 (tm 96) (tm 98)) (P 99)::
.go (.load1 (tm 99)) (P 100)::
.go (.move (tm 13)) (P 101)::
.go (.bin .sub 3 (tm 101) (.con (.int .i64 (.ofNat 1)))) (P 102)::
.go (.indexAddr none 2 (tm 100) (tm 102)) (P 103)::
.go (.loadN 2 (tm 103)) (P 104)::
.go (.bin .neq 69 (tm 95) (tm 104)) (P 105)::
[]) [.ok,.ok,.ok,.ok,.ok,.ok,.ok,.ok,.ok,.ok,.ok,.ok,.ok,.ok,.ok,.ok,.ok]) (.cond (tm 105) (.seq (.run (.go (.move (.con (.bool false))) (P 4)::
[])) .ret) .skip))) (.run (.go (.move (tm 13)) (P 87)::
.go (.bin .add 3 (tm 87) (.con (.int .i64 (.ofNat 1)))) (P 88)::
.go (.move (tm 88)) (P 13)::
[]))))))))) (.run (.go (.move (tm 12)) (P 65)::
.go (.bin .add 3 (tm 65) (.con (.int .i64 (.ofNat 1)))) (P 66)::
.go (.move (tm 66)) (P 12)::
[]))))))) (.seq (.run (.go (.call (.con (.func (.func 20) ⟨[]⟩ ⟨[]⟩)) []) (P 106)::
.go (.move (tm 106)) (P 4)::
[])) .ret))))))))))
theorem de14 : @compF Try.prog (Gl.none Try.prog) Try.f14 2=.mk d14 (mkTT 107) [(P 0),(P 1)] [.tmp (P 4)]:=by kernel_rfl
theorem dg14 : Try.prog.funcs[14]?=some Try.f14:=Try.func14
theorem do14 : okF Try.prog Try.f14=true:=by kernel_rfl
theorem few_z (n : Int) : few (0,0) n=n:=by unfold few;simp
theorem mst_z (n : Int) : mst (0,0) n=n:=by unfold mst;simp
theorem rng_eq {v w : R2} (h1 : v.1≤v.2) (h2 : w.1≤w.2) (h : ∀ n,isIn n v↔isIn n w) : v=w:=by
 have a:=(h v.1).1 ⟨Int.le_refl _,h1⟩
 have b:=(h v.2).1 ⟨h1,Int.le_refl _⟩
 have c:=(h w.1).2 ⟨Int.le_refl _,h2⟩
 have d:=(h w.2).2 ⟨h2,Int.le_refl _⟩
 unfold isIn at a b c d
 obtain⟨v1,v2⟩:=v
 obtain⟨w1,w2⟩:=w
 simp only at *
 rw[Prod.mk.injEq]
 omega
theorem still {T : Tb} (hf : fit T) (hv : val T) (hok : ok T u0) (hR : ∀ i,T.Rt.getD i (0,0)=(0,0)) (hN : ∀ i,T.N.getD i (0,0)=(0,0)) {c g : Nat} (hc : c+1<T.C.length) (hg : g+2<grp T) : va0 (bnd T u0) (((c+1 : Nat) : Int),((g+1 : Nat) : Int))=va0 (bnd T u0) ((c : Int),(g : Int)):=by
 obtain⟨v,a1,a2,a3,_,a4⟩:=bnd_iff hf hv hok (x:=c+1) (y:=g+1) hc (by omega)
 obtain⟨w,b1,b2,b3,_,b4⟩:=bnd_iff hf hv hok (x:=c) (y:=g) (by omega) (by omega)
 rw[va0_some a1,va0_some b1]
 have key : ∀ s,Tru T u0 s→s (((c+1 : Nat) : Int),((g+1 : Nat) : Int))=s ((c : Int),(g : Int)):=by
  intro s hs
  have h:=hs.car (c+1) (g+1) hc (by omega)
  have e : ((g+1 : Nat) : Int)-1=(g : Int):=by omega
  rw[cra_pt (by omega),if_neg (by omega),hR,hN,e,few_z,mst_z] at h
  unfold isIn add2 at h
  simp only at h
  omega
 refine rng_eq a3 b3 (fun n=>?_)
 rw[a4,b4]
 constructor
 ·rintro⟨s,hs,rfl⟩
  exact⟨s,hs,(key s hs).symm⟩
 ·rintro⟨s,hs,rfl⟩
  exact⟨s,hs,key s hs⟩
theorem mk_ranges (H : Heap) (e : TypeId) (k : Nat) (hk : k≤1048576) : ymakeSlice e 16 [I 0,I 0] H (I k) (I k)=some (.slice (some ⟨H.next,0,none⟩) k k,H.alloc (.cells ⟨((List.replicate k ((0 : Int),(0 : Int))).map r2).flatten⟩ e true)):=by
 have e48 : (2 : Nat) ^ 48=281474976710656:=by decide
 have e2 : ((List.replicate k ((0 : Int),(0 : Int))).map r2).flatten=List.replicate (k*2) (I 0):=by
  rw[List.map_replicate]
  have : r2 (0,0)=List.replicate 2 (I 0):=rfl
  rw[this,List.flatten_replicate_replicate]
 have ez : zeros ⟨[I 0,I 0]⟩ ((k : Int).toNat*[I 0,I 0].length)=⟨List.replicate (k*2) (I 0)⟩:=by
  apply Array.toList_inj.1
  simp only[zeros,Array.toList_map,Array.toList_range,List.length_cons,List.length_nil,Int.toNat_natCast]
  apply List.ext_getElem
  ·simp
  ·intro j h1 h2
   have hj : j%2=0∨j%2=1:=by omega
   rcases hj with hj|hj<;>simp[hj]
 simp only[ymakeSlice]
 rw[if_pos ⟨by omega,by omega,by omega,by omega⟩,ez,e2]
 simp
theorem key69 {a b : Int} (ha : (Lit.int .i64 a).wf=true) (hb : (Lit.int .i64 b).wf=true) : (keyOf Try.prog 69 (.agg ⟨A2 a b⟩)).isSome=true:=by
 have c3 : Try.prog.cellsOf 3=1:=by kernel_rfl
 have c48 : Try.prog.cellsOf 69=2:=by kernel_rfl
 have h5 : (Program.keyType Try.prog 69 && (Value.agg ⟨[I a,I b]⟩).formed Try.prog 69)=true:=by kernel_rfl
 obtain⟨n,hn⟩ : ∃ n,Try.prog.types.size+1=n+2:=⟨Try.prog.types.size-1,by have : 2≤Try.prog.types.size:=Nat.le_of_ble_eq_true (by kernel_rfl);omega⟩
 unfold keyOf
 simp only[Try.underlying69]
 rw[if_pos h5,hn]
 unfold Program.keyLits
 simp only[Try.underlying69,c48]
 have e : (Value.agg ⟨[I a,I b]⟩).cells.toList=[I a,I b]:=rfl
 rw[e,if_pos ⟨rfl,by simp⟩]
 simp[c3,kl_int ha,kl_int hb]
theorem neq69 {a b c d : Int} (ha : (Lit.int .i64 a).wf=true) (hb : (Lit.int .i64 b).wf=true) (hc : (Lit.int .i64 c).wf=true) (hd : (Lit.int .i64 d).wf=true) : xbinOp Try.prog .neq 69 (.agg ⟨A2 a b⟩) (.agg ⟨A2 c d⟩)=some (.bool (!decide (a=c∧b=d))):=by
 have h1 : xbin Try.prog .neq 69 (.agg ⟨A2 a b⟩) (.agg ⟨A2 c d⟩)=none:=rfl
 have h2 : xbinStr .neq (.agg ⟨A2 a b⟩) (.agg ⟨A2 c d⟩)=none:=rfl
 have h3 : xeqNil Try.prog true 69 (.agg ⟨A2 a b⟩) (.agg ⟨A2 c d⟩)=none:=by
  unfold xeqNil
  simp only[Try.underlying69]
 have h4 : keyedB Try.prog 69=true:=by kernel_rfl
 have h5 : Try.prog.eqGuardType Try.prog.depth 69=false:=by kernel_rfl
 unfold xbinOp
 rw[h1,h2]
 simp only[h3]
 unfold xeqAgg
 simp only[Try.underlying69]
 rw[if_pos ⟨h4,rfl,rfl,key69 ha hb,key69 hc hd,h5⟩]
 simp[valEq,cellsEq,cellEq]
theorem neq69s {r : R2} (h1 : 0≤r.1) (h2 : r.1≤r.2) (h3 : r.2≤1000000) : xbinOp Try.prog .neq 69 (.agg ⟨A2 r.1 r.2⟩) (.agg ⟨A2 r.1 r.2⟩)=some (.bool false):=by
 have w1 : (Lit.int .i64 r.1).wf=true:=by
  simp only[Lit.wf,Bool.and_eq_true,decide_eq_true_eq]
  show (-9223372036854775808 : Int)≤r.1∧r.1≤9223372036854775807
  omega
 have w2 : (Lit.int .i64 r.2).wf=true:=by
  simp only[Lit.wf,Bool.and_eq_true,decide_eq_true_eq]
  show (-9223372036854775808 : Int)≤r.2∧r.2≤9223372036854775807
  omega
 rw[neq69 w1 w2 w1 w2]
 simp
theorem bdl_len (f : Sf) (K G : Nat) : (bdl f K G).length=K:=by simp[bdl]
theorem bdl_row (f : Sf) {K G c : Nat} (h : c<(bdl f K G).length) : (bdl f K G)[c].length=G:=by simp[bdl]
theorem bdl_at (f : Sf) {K G c g : Nat} (h : c<(bdl f K G).length) (hg : g<(bdl f K G)[c].length) : (bdl f K G)[c][g]=va0 f ((c : Int),(g : Int)):=by simp[bdl]
theorem inb_rs {L : List R2} {b k : Nat} : (⟨(L.map r2).flatten⟩ : Array Value).toList.all (inBound b (k+1))=true:=by
 rw[List.all_eq_true]
 intro x hx
 obtain⟨l,hl,hxl⟩:=List.mem_flatten.1 hx
 obtain⟨r,_,rfl⟩:=List.mem_map.1 hl
 simp only[List.mem_cons,List.not_mem_nil,or_false] at hxl
 rcases hxl with rfl|rfl<;>rfl
theorem f14_ok {H : Heap} {c b r n x : Value} {T : Tb} {ws : List Int} (hR : Ro H) (h : TV H c b r n T) (hw : WS H x ws) : F Try.prog 14 ⟨[.agg ⟨[c,b,r,n]⟩,x]⟩ H (fun w _=>w=.bool true):=by
 have k1:=(sl1 h.c.isS).1
 have k2:=(sl1 (rp.sl h.b)).1
 have k3:=(sl1 (rp.sl h.r)).1
 have k4:=(sl1 (rp.sl h.n)).1
 have hrl:=fun X=>RS.len h.r X
 have hnl:=fun X=>RS.len h.n X
 refine F.entryL rfl dg14 do14 de14 rfl (by kernel_rfl) ?_
 simp only[sets]
 refine V.re [(0,.agg ⟨[c,b,r,n]⟩),(1,x)] (N:=107) zE zY ?_
 intro t hF hA
 simp only[Kn,and_true] at hA
 refine zS ?_
 refine V.l0 ?_
 refine V.heap (fun X=>Grow H X∧Bx X H.next [c,b,r,n] 25) ⟨?_,?_⟩ ?_
 ·exact zW
 ·exact zB
 rintro H1 ⟨g1,b1⟩
 refine zS ?_
 refine V.run ?_
 have zf:=b1.2
 refine VI.sz 1 ?_
 simp only[ds]
 refine VI.callA rfl (f18_ok (h.grow g1)) zA (fun H2 g2=>?_)
 have b2:=b1.grow g2
 have g12:=g1.trans g2
 have zf:=b2.2
 refine VI.sz 3 ?_
 simp only[ds]
 first|refine VI.callGt zG (fun hc=>zI) (fun hc=>f26_ok (h.grow g12)) (fun hc=>zI) (fun H3 g3=>?_)|refine VI.callGf zG (fun hc=>zI) (fun hc=>f26_ok (h.grow g12)) (fun hc=>zI) (fun H3 g3=>?_)
 have b3:=b2.grow g3
 have g13:=g12.trans g3
 have lb3:=b3.1
 refine VI.l0 ?_
 refine zS ?_
 refine V.condP zP (fun ht=>?_) (fun ht=>?_)
 ·refine zS ?_
  refine V.run ?_
  refine VI.callA rfl (f20_ok _) zA (fun H4 g4=>?_)
  refine VI.l0 ?_
  refine zS ?_
  refine V.ret (V.rets rfl (Lv.retF (by simp +contextual (disch:=first|omega|simp only[nx];omega) only[D1,cells_alloc_at,cells_alloc_ne,cells_set_at,cells_set_ne,yres,yres1,yresL,qA,qB,qC,D5,hF,hA,↓reduceIte,qD,qE];rfl) ?_))
  rfl
 have hthin : thin T:=by
  by_cases hh : thin T
  ·exact hh
  ·exact absurd (by simp[hh]) ht
 have hflt : flt T=0:=by
  by_cases hh : flt T=0
  ·exact hh
  ·exact absurd (by simp[hh,hthin]) ht
 have hs:=thin_sh hthin
 obtain⟨hf,hv⟩:=flt_0.1 hflt
 clear ht
 have s4:=hs.2.2.2.1
 have s5:=hs.2.2.2.2
 refine zS ?_
 have zf:=And.intro b3.2<|And.intro @k1<|And.intro @k2<|And.intro @k3<|@k4
 refine V.lz ?_
 refine V.heap (fun X=>Grow H3 X∧Bx X H.next [c,b,r,n] 25∧Bx X H3.next [c,b,r,n] 25) ⟨?_,?_,?_⟩ ?_
 ·exact zW
 ·exact zB
 ·exact zB
 rintro H4 ⟨g4,b4,x4⟩
 have lx4:=x4.1
 have lb4:=b4.1
 have g14:=g13.trans g4
 obtain⟨A5,hA5⟩ : ∃ A5,A5=H4.alloc (.cells ⟨((List.replicate T.Rt.length ((0 : Int),(0 : Int))).map r2).flatten⟩ 62 true):=⟨_,rfl⟩
 have mk1:=mk_ranges H4 62 T.Rt.length (by omega)
 rw[← hA5] at mk1
 have n5 : A5.next=H4.next+1:=by rw[hA5];rfl
 have g5 : Grow H4 A5:=by rw[hA5];exact (Grow.refl _).alloc _
 have r5 : Bx A5 H4.next ((List.replicate T.Rt.length ((0 : Int),(0 : Int))).map r2).flatten 62:=by rw[hA5];exact .new _ _ _
 clear hA5
 have b5:=b4.grow g5
 have x5:=x4.grow g5
 have mk2:=mk_ranges (A5.set H3.next (.cells ⟨[c,b,.slice (some ⟨H4.next,0,none⟩) T.Rt.length T.Rt.length,n]⟩ 25 true)) 62 T.N.length (by omega)
 simp only[Heap.next_set] at mk2
 have vn:=(sl1 (rp.sl h.n)).2.2.1
 refine zS ?_
 have zf:=And.intro b4.2<|And.intro x4.2<|And.intro b5.2<|And.intro x5.2<|And.intro @hrl<|And.intro @hnl<|And.intro @mk1<|@mk2
 refine V.dz ?_ ?_ rfl ?_
 ·exact zM
 ·simp only[dcAll,dcOk,wantD,List.cons_append,List.nil_append,true_and,and_true]
  have zf:=And.intro b4.2<|And.intro b5.2<|@hnl
  exact⟨fun _=>⟨_,_,_,rfl,rfl,rfl,(by simp only[D5,hF,hA,↓reduceIte,qD,qE];simp[inBound];omega),fun _=>⟨_,_,_,r5.2,inb_rs⟩⟩,zR,zR,fun _=>⟨_,_,_,rfl,rfl,rfl,(by simp only[D5,hF,hA,↓reduceIte,qD,qE];simp[inBound]),fun _=>⟨_,_,_,cells_alloc _ _ _ _,inb_rs⟩⟩⟩
 have rs1 : ∀ (X : Heap) (i k : Nat) (e : TypeId),Bx X i ((List.replicate k ((0 : Int),(0 : Int))).map r2).flatten e→RS X (.slice (some ⟨i,0,none⟩) k k) (List.replicate k ((0 : Int),(0 : Int))):=by
  intro X i k e hb
  have:=Sw.flat (w:=2) (c:=k) (l:=(List.replicate k ((0 : Int),(0 : Int))).map r2) hb.1 hb.2 (RS_len _) (by simp)
  rw[List.length_map,List.length_replicate] at this
  exact this
 refine V.heap (fun X=>Grow H X∧Bx X H3.next [c,b,.slice (some ⟨H4.next,0,none⟩) T.Rt.length T.Rt.length,.slice (some ⟨A5.next,0,none⟩) T.N.length T.N.length] 25∧RS X (.slice (some ⟨H4.next,0,none⟩) T.Rt.length T.Rt.length) (List.replicate T.Rt.length (0,0))∧RS X (.slice (some ⟨A5.next,0,none⟩) T.N.length T.N.length) (List.replicate T.N.length (0,0))) ⟨?_,?_,?_,?_⟩ ?_
 ·have:=g14.trans g5
  have:=g13.1
  exact zW
 ·exact⟨by simp only[Heap.next_set,Heap.next_alloc];omega,cells_set _ _ _ _ _⟩
 ·refine rs1 _ _ _ 62 ?_
  have lr5:=r5.1
  exact ((r5.set (by omega) _).alloc _).set (by omega) _
 ·refine rs1 _ _ _ 62 ?_
  refine Bx.set ?_ (by omega) _
  exact Bx.newAt (by simp only[Heap.next_set])
 clear mk1 mk2 r5 b5 x5 b4 x4 rs1
 generalize Value.slice (some ⟨H4.next,0,none⟩) T.Rt.length T.Rt.length=r' at *
 generalize Value.slice (some ⟨A5.next,0,none⟩) T.N.length T.N.length=n' at *
 rintro X1 ⟨gx,x1,hr',hn'⟩
 have tv0 : TV X1 c b r' n' ⟨T.C,T.B,List.replicate T.Rt.length (0,0),List.replicate T.N.length (0,0)⟩:=⟨(h.grow gx).c,(h.grow gx).b,hr',hn'⟩
 have z1 : ∀ i,(List.replicate T.Rt.length ((0 : Int),(0 : Int))).getD i (0,0)=(0,0):=by
  intro i
  rw[List.getD_eq_getElem?_getD,List.getElem?_replicate]
  split<;>rfl
 have z2 : ∀ i,(List.replicate T.N.length ((0 : Int),(0 : Int))).getD i (0,0)=(0,0):=by
  intro i
  rw[List.getD_eq_getElem?_getD,List.getElem?_replicate]
  split<;>rfl
 obtain⟨T0,hT0⟩ : ∃ T0 : Tb,T0=⟨T.C,T.B,List.replicate T.Rt.length (0,0),List.replicate T.N.length (0,0)⟩:=⟨_,rfl⟩
 rw[← hT0] at tv0
 have hzR : ∀ i,T0.Rt.getD i (0,0)=(0,0):=by rw[hT0];exact z1
 have hzN : ∀ i,T0.N.getD i (0,0)=(0,0):=by rw[hT0];exact z2
 have hcc : Nest RS H c T0.C:=by rw[hT0];exact h.c
 have hbb : RS H b T0.B:=by rw[hT0];exact h.b
 clear hT0 z1 z2 hr' hn'
 refine zS ?_
 refine V.run ?_
 have zf:=x1.2
 refine VI.sz 2 ?_
 simp only[ds]
 refine VI.callR zA (f53_ok (bits:=0) hR hcc hbb gx tv0 (hw.grow gx)) zA (fun w2 X2 ⟨gx2,yc,yb,yr,yn,xf,xb,xd,xm,s,hw2,⟨i1,i2,i3,i4⟩,⟨j1,j2,j3,j4⟩,_,hl⟩=>?_)
 subst hw2
 have k1:=(sl1 i1).1
 have k2:=(sl1 i2).1
 have k3:=(sl1 i3).1
 have k4:=(sl1 i4).1
 have o1:=(sl1 j1).1
 have o2:=(sl1 j2).1
 have o3:=(sl1 j3).1
 have o4:=(sl1 j4).1
 have zf:=And.intro @k1<|And.intro @k2<|And.intro @k3<|And.intro @k4<|And.intro @o1<|And.intro @o2<|And.intro @o3<|@o4
 refine VI.lz ?_
 refine V.heap (fun X=>Grow X2 X∧Bx X X2.next [yc,yb,yr,yn] 25) ⟨?_,?_⟩ ?_
 ·exact zW
 ·exact zB
 rintro X3 ⟨gx3,y3⟩
 refine zS ?_
 refine V.l0 ?_
 refine zS ?_
 refine V.condP zP (fun ht=>?_) (fun ht=>?_)
 ·refine zS ?_
  refine V.run ?_
  refine VI.callA rfl (f20_ok _) zA (fun H6 g6=>?_)
  refine VI.l0 ?_
  refine zS ?_
  refine V.ret (V.rets rfl (Lv.retF (by simp +contextual (disch:=first|omega|simp only[nx];omega) only[D1,cells_alloc_at,cells_alloc_ne,cells_set_at,cells_set_ne,yres,yres1,yresL,qA,qB,qC,D5,hF,hA,↓reduceIte,qD,qE];rfl) ?_))
  rfl
 have h1 : lv T0 ws 0:=by
  by_cases hh : lv T0 ws 0
  ·exact hh
  ·exact absurd (by simp[hh]) ht
 clear ht
 obtain⟨tv,_,_⟩:=hl h1
 have tv:=tv.grow gx3
 have e1:=h1.2.2
 obtain⟨hf',hv'⟩:=flt_0.1 e1
 have s1 : sh (lT T0 ws 0):=shs hf' hv'
 have hok : ok (lT T0 ws 0) u0:=tru_ok hf' hv' (lv_tru hw.bd h1)
 have hzR' : ∀ i,(lT T0 ws 0).Rt.getD i (0,0)=(0,0):=hzR
 have hzN' : ∀ i,(lT T0 ws 0).N.getD i (0,0)=(0,0):=hzN
 generalize lT T0 ws 0=Y at *
 have hf1:=hf'.1
 have hf2:=hf'.2
 have hv1:=hv'.1
 refine zS ?_
 refine V.run ?_
 have zf:=y3.2
 refine VI.sz 1 ?_
 simp only[ds]
 refine VI.callR zA (f22_ok tv s1) zA (fun w6 X6 ⟨g6,ca,ba,ra,na,hw6,tv6⟩=>?_)
 subst hw6
 refine VI.callR zA (f31_v tv6 s1 e1) zA (fun w7 X7 ⟨g7,sb,hw7,hb7⟩=>?_)
 subst hw7
 have g37:=g6.trans g7
 have y7:=y3.grow g37
 have tv7:=tv.grow g37
 rw[if_pos hok]
 have hB : Nest RS X7 sb (bdl (bnd Y u0) Y.C.length (grp Y)):=by
  rcases hb7 with⟨q,_⟩|⟨_,q⟩
  ·exact absurd hok q
  ·exact q
 have hBl:=hB.len X7
 rw[bdl_len] at hBl
 have hycl:=tv7.c.len X7
 refine VI.l0 ?_
 refine zS ?_
 have zf:=And.intro y7.2<|And.intro @hBl<|@hycl
 refine V.lz ?_
 refine zS ?_
 refine V.condP zP (fun hq=>?_) (fun hq=>?_)
 ·exact absurd hq (by simp)
 refine zS ?_
 refine V.l0 ?_
 refine zS ?_
 refine V.re [(6,PT X2.next),(10,sb),(12,I 0)] (N:=107) zF zK ?_
 clear hF hA
 intro t hF hA
 simp only[Kn,and_true] at hA
 refine V.loop (fun w t m X=>∃ (k : Nat),k≤Y.C.length∧w=Y.C.length-k∧m=[]∧Grow X7 X∧Full 107 t∧Kn [(6,PT X2.next),(10,sb),(12,I k)] t) Y.C.length ?_ ?_
 ·exact⟨0,by omega,by omega,rfl,.refl _,zF,zK⟩
 clear hF hA
 rintro w t m X ⟨k,hk,rfl,rfl,hg,hF,hA⟩
 simp only[Kn,and_true] at hA
 have hBx:=hB.grow rp hg
 have hBl':=hBx.len X
 rw[bdl_len] at hBl'
 have yx:=y7.grow hg
 refine zS ?_
 have zf:=@hBl'
 refine V.lz ?_
 refine zS ?_
 refine V.condP zP (fun hlt=>?_) (fun hlt=>?_)
 ·have hk' : k<(bdl (bnd Y u0) Y.C.length (grp Y)).length:=by rw[bdl_len];omega
  obtain⟨p,row,hp,hrow⟩:=hBx.at rp hk'
  obtain⟨hr1,hr2⟩:=hrow X (.refl _)
  have hp':=hp .i64
  have hrl:=hr2.len X
  rw[bdl_row] at hrl
  have vr:=(sl1 (rp.sl hr2)).2.2.1
  refine zS ?_
  refine V.draw ?_
  have zf:=And.intro @hp'<|And.intro @hr1<|And.intro @hrl<|yx.2
  refine VD.nz 6 ?_
  simp only[ds]
  refine VD.callA zA (f34_ok (tv7.grow hg)) zA (fun Z gz=>?_)
  have hr1z:=(hrow Z gz).1
  have hrlz:=(hr2.len Z)
  rw[bdl_row] at hrlz
  have m1:=gz.1
  refine VD.d0 ?_ ?_ rfl ?_
  ·exact zM
  ·simp only[dcAll,dcOk,wantD,List.cons_append,List.nil_append,true_and,and_true]
   have zf:=And.intro @hr1<|And.intro @hr1z<|And.intro @hrl<|@hrlz
   exact⟨zR,zR⟩
  refine zS ?_
  refine V.condP zP (fun hq=>?_) (fun hq=>?_)
  ·exact absurd hq (by simp)
  refine zS ?_
  refine V.l0 ?_
  refine zS ?_
  have hgZ:=hg.trans gz
  refine V.loop (fun w t m X=>∃ (g : Nat),g≤grp Y∧w=grp Y-g∧m=[]∧Grow X7 X∧Full 107 t∧Kn [(6,PT X2.next),(10,sb),(12,I k),(13,I (g+1))] t) (grp Y) ?_ ?_
  ·exact⟨0,by omega,by omega,rfl,hgZ,zF,zK⟩
  clear hF hA hg hBx hBl' yx hrow hr1 hr2 hrl hr1z hrlz gz hgZ hp hp' m1 vr
  rintro w t mm X ⟨g,hgl,rfl,rfl,hg,hF,hA⟩
  simp only[Kn,and_true] at hA
  have hBx:=hB.grow rp hg
  obtain⟨p,row,hp,hrow⟩:=hBx.at rp hk'
  obtain⟨hr1,hr2⟩:=hrow X (.refl _)
  have hp':=hp .i64
  have hrl:=hr2.len X
  rw[bdl_row] at hrl
  have ew : IntKind.i64.wrap ((grp Y : Int)-1)=(grp Y : Int)-1:=wrap_i64 (by omega) (by omega)
  refine zS ?_
  have zf:=And.intro @hp'<|And.intro @hr1<|And.intro @hrl<|@ew
  refine V.lz ?_
  refine zS ?_
  refine V.condP zP (fun hc=>?_) (fun hc=>?_)
  ·obtain⟨hc1,hc2⟩ : (g : Int)+1<(grp Y : Int)-1∧(0 : Int)<k:=by
    first
     | omega
     | (simp at hc;omega)
   obtain⟨k,rfl⟩ : ∃ j,k=j+1:=⟨k-1,by omega⟩
   have hk0 : k<(bdl (bnd Y u0) Y.C.length (grp Y)).length:=by omega
   obtain⟨p0,row0,hp0,hrow0⟩:=hBx.at rp hk0
   obtain⟨hr01,hr02⟩:=hrow0 X (.refl _)
   have hp0':=hp0 .i64
   have ek : IntKind.i64.wrap (((k+1 : Nat) : Int)-1)=(k : Int):=by
    have : ((k+1 : Nat) : Int)-1=(k : Int):=by omega
    rw[this]
    exact wrap_i64 (by omega) (by omega)
   have eg : IntKind.i64.wrap ((g : Int)+1-1)=(g : Int):=by
    have : (g : Int)+1-1=(g : Int):=by omega
    rw[this]
    exact wrap_i64 (by omega) (by omega)
   obtain⟨i1',o1',q1,q2⟩:=hr2.at (k:=g+1) (by rw[bdl_row];omega)
   obtain⟨i2',o2',q3,q4⟩:=hr02.at (k:=g) (by rw[bdl_row];omega)
   have q2':=(q2 X (.refl _)).1
   have q4':=(q4 X (.refl _)).1
   rw[bdl_at] at q2' q4'
   have est:=still hf' hv' hok hzR' hzN' (c:=k) (g:=g) (by rw[bdl_len] at hk';omega) (by omega)
   rw[est] at q2'
   have eg1 : ((g+1 : Nat) : Int)=(g : Int)+1:=by omega
   rw[eg1] at q1
   obtain⟨v,w1,w2,w3,w4,_⟩:=bnd_iff hf' hv' hok (x:=k) (y:=g) (by rw[bdl_len] at hk';omega) (by omega)
   rw[va0_some w1] at q2' q4'
   have hb4:=bd_4 (show k<4 by rw[bdl_len] at hk';omega)
   have hne:=neq69s (r:=v) w2 w3 (by omega)
   refine zS ?_
   have zf:=And.intro @hp'<|And.intro @hr1<|And.intro @hp0'<|And.intro @hr01<|And.intro @ek<|And.intro @eg<|And.intro @q1<|And.intro @q2'<|And.intro @q3<|And.intro @q4'<|@hne
   refine V.dz ?_ ?_ rfl ?_
   ·exact zM
   ·simp only[dcAll,dcOk,wantD,List.cons_append,List.nil_append,true_and,and_true]
   refine zS ?_
   refine V.condF zA ?_
   refine zS ?_
   refine V.l0 ?_
   refine V.nil (Or.inl ⟨rfl,grp Y-(g+1),by omega,?_⟩)
   exact⟨g+1,by omega,rfl,rfl,hg,zF,zK⟩
  ·refine V.exit ?_
   refine zX ?_
   refine V.nil (Or.inr ⟨by simp,?_⟩)
   refine zX ?_
   refine zS ?_
   refine V.l0 ?_
   refine V.nil (Or.inl ⟨rfl,Y.C.length-(k+1),by omega,?_⟩)
   exact⟨k+1,by rw[bdl_len] at hk';omega,rfl,rfl,hg,zF,zK⟩
 ·refine V.exit ?_
  refine zX ?_
  refine V.nil (Or.inr ⟨by simp,?_⟩)
  refine zX ?_
  refine zS ?_
  refine V.run ?_
  refine VI.callA rfl (f20_ok _) zA (fun H6 g6=>?_)
  refine VI.l0 ?_
  refine zS ?_
  refine V.ret (V.rets rfl (Lv.retF (by simp +contextual (disch:=first|omega|simp only[nx];omega) only[D1,cells_alloc_at,cells_alloc_ne,cells_set_at,cells_set_ne,yres,yres1,yresL,qA,qB,qC,D5,hF,hA,↓reduceIte,qD,qE];rfl) ?_))
  rfl
theorem f14_all {H : Heap} {c b r n x : Value} {T : Tb} {ws : List Int} (hR : Ro H) (h : TV H c b r n T) (hw : Sl H x (ws.map fun v=>.int .u16 v)) (hb : ∀ v∈ws,0≤v∧v≤65535) : F Try.prog 14 ⟨[.agg ⟨[c,b,r,n]⟩,x]⟩ H (fun w _=>w=.bool true):=f14_ok hR h ⟨hw,fun v hv=>by have:=hb v hv;omega⟩
end Go.Xe.TFX
/- Tables and truths that come in: what lies where. Conditions: none. -/
namespace Go.Xe.TFX
open Go Go.Xe Go.Proofs
open Go.Xe.Flw
abbrev shR : Sh:=.pair (.int .i64) (.pair (.int .i64) .unit)
abbrev shRs : Sh:=.slice 2 shR
abbrev shT : Sh:=.pair (.slice 1 shRs) (.pair shRs (.pair shRs (.pair shRs .unit)))
theorem rs_of {A : Heap} {cs : List Value} {y : Ty shRs} (h : Sem A shRs cs y) : ∃ v L,cs=[v]∧RS A v L:=by
 obtain⟨v,rows,rfl,h1,h2,_,h3⟩:=h
 refine⟨v,y.map fun x=>(x.1,x.2.1),rfl,?_⟩
 have e : rows=(y.map fun x=>(x.1,x.2.1)).map r2:=by
  apply List.ext_getElem
  ·simp[h2]
  ·intro k k1 k2
   have hk : k<y.length:=by omega
   obtain⟨c1,c2,e1,⟨rfl,_⟩,d1,d2,e2,⟨rfl,_⟩,e3⟩:=h3 k rows[k] y[k] (by simp) (by simp[hk])
   rw[e1,e2,e3]
   simp[r2]
 have:=h1.sw
 rw[e] at this
 exact this
theorem nest_of {α : Type} {s : Sh} {R : Heap→Value→α→Prop} {A : Heap} (hR : ∀ cs y,Sem A s cs y→∃ v L,cs=[v]∧R A v L) {cs : List Value} {y : Ty (.slice 1 s)} (h : Sem A (.slice 1 s) cs y) : ∃ v L,cs=[v]∧Nest R A v L:=by
 obtain⟨v,rows,rfl,h1,h2,_,h3⟩:=h
 obtain⟨Z,hz1,hz2⟩:=list_of (α:=Value×α) (p:=fun i x=>rows[i]?=some [x.1]∧R A x.1 x.2) rows.length (fun i hi=>by
  have hk : i<(y : List (Ty s)).length:=by omega
  obtain⟨v,L,e,hr⟩:=hR _ _ (h3 i rows[i] ((y : List (Ty s))[i]) (by simp) (by simp[hk]))
  exact⟨(v,L),by simp[hi,e],hr⟩)
 refine⟨v,Z.map (·.2),rfl,Z.map (·.1),?_,by simp,?_⟩
 ·have e : rows=(Z.map (·.1)).map fun x=>[x]:=by
   apply List.ext_getElem
   ·simp[hz1]
   ·intro k k1 k2
    have:=(hz2 k Z[k] (by simp[hz1,k1])).1
    rw[List.getElem?_eq_getElem k1,Option.some.injEq] at this
    rw[this]
    simp
  rw[e] at h1
  exact h1.one
 ·intro k x r hx hr
  rw[List.getElem?_map] at hx hr
  cases hq : Z[k]? with
  | none=>rw[hq] at hx;cases hx
  | some q=>
   rw[hq] at hx hr
   cases hx;cases hr
   exact (hz2 k q hq).2
theorem tv_of {A : Heap} {l : List Value} {y : Ty shT} (h : Sem A shT l y) : ∃ c b r n T,l=[c,b,r,n]∧TV A c b r n T:=by
 obtain⟨c1,c2,rfl,h1,d1,d2,rfl,h2,e1,e2,rfl,h3,f1,f2,rfl,h4,h5⟩:=h
 obtain⟨c,C,rfl,hc⟩:=nest_of (R:=RS) (fun cs y h=>rs_of h) h1
 obtain⟨b,B,rfl,hb⟩:=rs_of h2
 obtain⟨r,Rt,rfl,hr⟩:=rs_of h3
 obtain⟨n,N,rfl,hn⟩:=rs_of h4
 have h5' : f2=[]:=h5
 subst h5'
 exact⟨c,b,r,n,⟨C,B,Rt,N⟩,rfl,hc,hb,hr,hn⟩
end Go.Xe.TFX
/- Rules of reasoning over the executable reading of the model's code (part Z16): arguments, by what their types allow. Conditions: none; for every program. -/
namespace Go.Xe
open Go Go.RowKit Go.ChangeShapes Go.WideShapes
theorem okWide_agg {P : Program} {w : World} {r : Reach} {base : Nat} {t : TypeId} {v : Value} {fs : Array Field} (ht : P.underlying t=some (.struct fs)) (h : Value.okWide P w r base t v) : ∃ cs,v=.agg cs:=by
 unfold Value.okWide at h
 rw[ht] at h
 obtain⟨cs,h,_⟩:=h
 exact⟨cs,h⟩
end Go.Xe
/- The end of a call that has changed nothing of what was there: what a statement asks of the memory behind it. Conditions: as post_of_same's, but that new memory may be frozen. -/
namespace Go.Xe
open Go Go.RowKit Go.ChangeShapes Go.WideShapes
variable {H : Type} {enc : TypeId×Value→H} {P : Program}
theorem post_of_old {f : Func} {s : ChangeSpec} {apart fresh handsOn again : Bool} {W W' : World} {args : Array Value} {v : Value} {ds gs : List (DataW H)} {before pa pv : List MemPlace}
  (hW : DataW.Whole enc P f.params.toList s.vars apart W args.toList ds gs before)
  (hres : ∀ (b : Nat) (sp : Nat→Bool) (hd : Bool),DataW.TrodAll enc P W' b sp hd f.resultTypes.toList (v.resultList f.resultTypes.size) (s.fn H (ds++gs)).results [])
  (hargs : ∀ sp : Nat→Bool,(∀ p∈before,sp p.block=true)→DataW.TrodAll enc P W' 0 sp true f.params.toList args.toList (s.fn H (ds++gs)).args pa)
  (hvars : ∀ sp : Nat→Bool,(∀ p∈before,sp p.block=true)→DataW.TrodVars enc P W' sp s.vars (s.fn H (ds++gs)).vars pv)
  (hps : before=pa++pv) (hk : W.keptBut W' (·∈before)) (hfz : ∀ a : Addr,a.block<W.heap.size→W'.frozen? a=W.frozen? a)
  (hok : ∀ (j : Nat) (t : TypeId) (r : Value),f.resultTypes[j]?=some t→(v.resultList f.resultTypes.size)[j]?=some r→Value.okWide P W' .any 0 t r) :
  s.post enc P f apart fresh handsOn again W args v W':=by
 have old : ∀ p∈before,p.block<W.heap.size:=fun p hp=>hW.lt p hp
 have hold : ∀ p∈before,(fun b=>decide (b<W.heap.size)) p.block=true:=fun p hp=>by simpa using old p hp
 subst hps
 refine⟨ds,gs,_,[],pa,pv,hW,hres _ _ _,hargs _ hold,hvars _ hold,World.keptBut_mono (fun p hp=>⟨hp,.inr (List.mem_append.1 hp)⟩) hk,fun _=>?_⟩
 obtain⟨_,_,_,_,_,hz,hn⟩:=hW
 refine⟨hok,_,_,([]++pa)++pv,⟨[]++pa,pv,trodAll_append (hargs _ (fun _ _=>rfl)) (hres _ _ _),hvars _ (fun _ _=>rfl),rfl,?_,?_⟩,?_⟩
 ·intro b off hp
  have hp' : MemPlace.cell b off∈pa++pv:=by simpa using hp
  rw[hfz _ (old _ hp')]
  exact hz b off hp'
 ·intro ha
  simpa using hn ha
 ·intro p hp _
  simpa using hp
end Go.Xe
