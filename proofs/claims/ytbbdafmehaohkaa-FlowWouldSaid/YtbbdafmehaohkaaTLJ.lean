/- The truth that is picked is one of the table that lives. Conditions: none. -/
import Derived.Test.YtbbdafmehaohkaaTKH
-- MOD TF
namespace Go.Xe.TFX
open Go Go.Xe Go.Proofs
open Nat renaming reduceLeDiff → qA, reduceSub → qB, reduceAdd → qC, reduceEqDiff → qD, reduceLT → qE
open Int renaming reduceNegSucc → qF, reduceEq → qG
open Go.Xe.V renaming seq → sA, block → sB, scope → sC, skip → sD, close → sE
open Go.Xe renaming pth → P
open Go.Xe.Flw
set_option maxRecDepth 100000
set_option maxHeartbeats 3200000
set_option linter.unusedSimpArgs false
theorem cra_pt {T : Tb} {s : Int×Int→Int} {x y : Nat} (_ : y<grp T) : cra T (pt s) (x+1) y=(if y+1=grp T then add2 (add2 (T.N.getD y (0,0)) (few (T.Rt.getD y (0,0)) (s ((x : Int),(y : Int)-1)),mst (T.Rt.getD y (0,0)) (s ((x : Int),(y : Int)-1)))) (few (T.Rt.getD (y+1) (0,0)) (s ((x : Int),(y : Int))),mst (T.Rt.getD (y+1) (0,0)) (s ((x : Int),(y : Int)))) else add2 (T.N.getD y (0,0)) (few (T.Rt.getD y (0,0)) (s ((x : Int),(y : Int)-1)),mst (T.Rt.getD y (0,0)) (s ((x : Int),(y : Int)-1)))):=by
 have hx : ¬ ((x+1 : Nat) : Int)=0:=by omega
 have e0 : ((x+1 : Nat) : Int)-1=(x : Int):=by omega
 have e1 : ((y : Int)-1+1).toNat=y:=by omega
 have e2 : ((y : Int)+1).toNat=y+1:=by omega
 unfold cra car
 rw[if_neg hx]
 unfold pso src
 rw[if_neg hx]
 by_cases hl : y+1=grp T
 ·rw[if_pos (by omega),if_pos hl]
  simp only[List.map_cons,List.map_nil,tt,List.foldl_cons,List.foldl_nil,sv,pt,Option.getD_some,e0,e1,e2]
 ·rw[if_neg (by omega),if_neg hl]
  simp only[List.map_cons,List.map_nil,tt,List.foldl_cons,List.foldl_nil,sv,pt,Option.getD_some,e0,e1]
end Go.Xe.TFX
/- The statement FlowFails: the function. Conditions: none. -/
-- MOD TF
namespace Go.Xe.TFX
open Go Go.Xe Go.Proofs
open Nat renaming reduceLeDiff → qA, reduceSub → qB, reduceAdd → qC, reduceEqDiff → qD, reduceLT → qE
open Int renaming reduceNegSucc → qF, reduceEq → qG
open Go.Xe.V renaming seq → sA, block → sB, scope → sC, skip → sD, close → sE
open Go.Xe renaming pth → P
open Go.Xe.Flw
set_option maxRecDepth 100000
set_option maxHeartbeats 3200000
set_option linter.unusedSimpArgs false
theorem f31_v {H : Heap} {c b r n : Value} {T : Tb} (h : TV H c b r n T) (hs : sh T) (h0 : flt T=0) : F Try.prog 31 ⟨[.agg ⟨[c,b,r,n]⟩]⟩ H (fun w X=>Grow H X∧∃ s,w=.tuple ⟨[s,I (if ok T u0 then 0 else 9)]⟩∧((¬ ok T u0∧s=.slice none 0 0)∨(ok T u0∧Nest RS X s (bdl (bnd T u0) T.C.length (grp T))))):=by
 refine F.mono (f31_ok h hs) (fun w X ⟨g,hw⟩=>⟨g,?_⟩)
 rcases hw with⟨h1,_⟩|⟨_,h1,rfl⟩|⟨_,h1,s,rfl,h2⟩
 ·exact absurd h0 h1
 ·exact⟨_,by rw[if_neg h1],.inl ⟨h1,rfl⟩⟩
 ·exact⟨s,by rw[if_pos h1],.inr ⟨h1,h2⟩⟩
end Go.Xe.TFX
/- The statement FlowStill: the function. Conditions: none. -/
-- MOD TF
namespace Go.Xe.TFX
open Go Go.Xe Go.Proofs
open Nat renaming reduceLeDiff → qA, reduceSub → qB, reduceAdd → qC, reduceEqDiff → qD, reduceLT → qE
open Int renaming reduceNegSucc → qF, reduceEq → qG
open Go.Xe.V renaming seq → sA, block → sB, scope → sC, skip → sD, close → sE
open Go.Xe renaming pth → P
open Go.Xe.Flw
set_option maxRecDepth 100000
set_option maxHeartbeats 3200000
set_option linter.unusedSimpArgs false
theorem few_z (n : Int) : few (0,0) n=n:=by unfold few;simp
theorem mst_z (n : Int) : mst (0,0) n=n:=by unfold mst;simp
theorem rng_eq {v w : R2} (h1 : v.1≤v.2) (h2 : w.1≤w.2) (h : ∀ n,isIn n v↔isIn n w) : v=w:=by
 have a:=(h v.1).1 ⟨Int.le_refl _,h1⟩
 have b:=(h v.2).1 ⟨h1,Int.le_refl _⟩
 have c:=(h w.1).2 ⟨Int.le_refl _,h2⟩
 have d:=(h w.2).2 ⟨h2,Int.le_refl _⟩
 unfold isIn at a b c d
 obtain⟨v1,v2⟩:=v
 obtain⟨w1,w2⟩:=w
 simp only at *
 rw[Prod.mk.injEq]
 omega
theorem still {T : Tb} (hf : fit T) (hv : val T) (hok : ok T u0) (hR : ∀ i,T.Rt.getD i (0,0)=(0,0)) (hN : ∀ i,T.N.getD i (0,0)=(0,0)) {c g : Nat} (hc : c+1<T.C.length) (hg : g+2<grp T) : va0 (bnd T u0) (((c+1 : Nat) : Int),((g+1 : Nat) : Int))=va0 (bnd T u0) ((c : Int),(g : Int)):=by
 obtain⟨v,a1,a2,a3,_,a4⟩:=bnd_iff hf hv hok (x:=c+1) (y:=g+1) hc (by omega)
 obtain⟨w,b1,b2,b3,_,b4⟩:=bnd_iff hf hv hok (x:=c) (y:=g) (by omega) (by omega)
 rw[va0_some a1,va0_some b1]
 have key : ∀ s,Tru T u0 s→s (((c+1 : Nat) : Int),((g+1 : Nat) : Int))=s ((c : Int),(g : Int)):=by
  intro s hs
  have h:=hs.car (c+1) (g+1) hc (by omega)
  have e : ((g+1 : Nat) : Int)-1=(g : Int):=by omega
  rw[cra_pt (by omega),if_neg (by omega),hR,hN,e,few_z,mst_z] at h
  unfold isIn add2 at h
  simp only at h
  omega
 refine rng_eq a3 b3 (fun n=>?_)
 rw[a4,b4]
 constructor
 ·rintro⟨s,hs,rfl⟩
  exact⟨s,hs,(key s hs).symm⟩
 ·rintro⟨s,hs,rfl⟩
  exact⟨s,hs,key s hs⟩
theorem key69 {a b : Int} (ha : (Lit.int .i64 a).wf=true) (hb : (Lit.int .i64 b).wf=true) : (keyOf Try.prog 69 (.agg ⟨A2 a b⟩)).isSome=true:=by
 have c3 : Try.prog.cellsOf 3=1:=by kernel_rfl
 have c48 : Try.prog.cellsOf 69=2:=by kernel_rfl
 have h5 : (Program.keyType Try.prog 69 && (Value.agg ⟨[I a,I b]⟩).formed Try.prog 69)=true:=by kernel_rfl
 obtain⟨n,hn⟩ : ∃ n,Try.prog.types.size+1=n+2:=⟨Try.prog.types.size-1,by have : 2≤Try.prog.types.size:=Nat.le_of_ble_eq_true (by kernel_rfl);omega⟩
 unfold keyOf
 simp only[Try.underlying69]
 rw[if_pos h5,hn]
 unfold Program.keyLits
 simp only[Try.underlying69,c48]
 have e : (Value.agg ⟨[I a,I b]⟩).cells.toList=[I a,I b]:=rfl
 rw[e,if_pos ⟨rfl,by simp⟩]
 simp[c3,kl_int ha,kl_int hb]
theorem bdl_len (f : Sf) (K G : Nat) : (bdl f K G).length=K:=by simp[bdl]
theorem bdl_row (f : Sf) {K G c : Nat} (h : c<(bdl f K G).length) : (bdl f K G)[c].length=G:=by simp[bdl]
theorem bdl_at (f : Sf) {K G c g : Nat} (h : c<(bdl f K G).length) (hg : g<(bdl f K G)[c].length) : (bdl f K G)[c][g]=va0 f ((c : Int),(g : Int)):=by simp[bdl]
end Go.Xe.TFX
/- A table with another count: the program of the statements. Conditions: none. -/
-- MOD TF
namespace Go.Xe.TFX
open Go Go.Xe Go.Proofs
open Nat renaming reduceLeDiff → qA, reduceSub → qB, reduceAdd → qC, reduceEqDiff → qD, reduceLT → qE
open Int renaming reduceNegSucc → qF, reduceEq → qG
open Go.Xe.V renaming seq → sA, block → sB, scope → sC, skip → sD, close → sE
open Go.Xe renaming pth → P
open Go.Xe.Flw
set_option maxRecDepth 100000
set_option maxHeartbeats 3200000
set_option linter.unusedSimpArgs false
end Go.Xe.TFX
/- The statement FlowEnds: the function. Conditions: none. -/
-- MOD TF
namespace Go.Xe.TFX
open Go Go.Xe Go.Proofs
open Nat renaming reduceLeDiff → qA, reduceSub → qB, reduceAdd → qC, reduceEqDiff → qD, reduceLT → qE
open Int renaming reduceNegSucc → qF, reduceEq → qG
open Go.Xe.V renaming seq → sA, block → sB, scope → sC, skip → sD, close → sE
open Go.Xe renaming pth → P
open Go.Xe.Flw
set_option maxRecDepth 100000
set_option maxHeartbeats 3200000
set_option linter.unusedSimpArgs false
theorem cns_u0 (T : Tb) (x y : Nat) : cns T u0 x y=(T.C.getD x []).getD y (0,0):=by
 unfold cns
 rw[if_neg (by simp)]
end Go.Xe.TFX
/- What the functions of the layer flow come to: the range in which a count would have to be. Conditions: none. -/
-- MOD TF
namespace Go.Xe.TFX
open Go Go.Xe Go.Proofs
open Nat renaming reduceLeDiff → qA, reduceSub → qB, reduceAdd → qC, reduceEqDiff → qD, reduceLT → qE
open Int renaming reduceNegSucc → qF, reduceEq → qG
open Go.Xe.V renaming seq → sA, block → sB, scope → sC, skip → sD, close → sE
open Go.Xe renaming pth → P
open Go.Xe.Flw
set_option maxRecDepth 100000
set_option maxHeartbeats 3200000
set_option linter.unusedSimpArgs false
noncomputable def d84 : FCode:=(.seq (.run (.go (.box 74 (tm 1)) (P 4)::
[])) (.draw 11 (.go (.move (tm 0)) (P 6)::
.go (.fieldAddr 0 (tm 4)) (P 7)::
.go (.load1 (tm 7)) (P 8)::
.go (.fieldAddr 1 (tm 4)) (P 9)::
.go (.load1 (tm 9)) (P 10)::
.go (.move (tm 2)) (P 11)::
.go (.nilCheck (tm 6)) (P 12)::
.go (.fieldAddr 4 (tm 12)) (P 13)::
.go (.indexAddr (some 4) 4 (tm 13) (tm 8)) (P 14)::
.go (.indexAddr (some 4) 1 (tm 14) (tm 10)) (P 15)::
.un (.store 1 (tm 15) (tm 11))::
[]) [.ok,.ok,.ok,.ok,.ok,.ok,.ok,.ok,.ok,.ok,.ok]))
theorem de84 : @compF Try.prog (Gl.none Try.prog) Try.f84 3=.mk d84 (mkTT 16) [(P 0),(P 1),(P 2)] []:=by kernel_rfl
theorem dg84 : Try.prog.funcs[84]?=some Try.f84:=Try.func84
theorem do84 : okF Try.prog Try.f84=true:=by kernel_rfl
noncomputable def d122 : FCode:=(.seq (.run (.go (.box 74 (tm 1)) (P 3)::
.go (.move (.con (.int .i64 (.ofNat 0)))) (P 4)::
[])) (.seq (.seq (.run (.go (.move (tm 0)) (P 6)::
.go (.len 0 (tm 6)) (P 7)::
.go (.move (.con (.int .i64 (.ofNat 0)))) (P 8)::
[])) (.block 0 (.loop (.seq (.run (.go (.bin .lss 3 (tm 8) (tm 7)) (P 9)::
[])) (.seq (.cond (tm 9) .skip (.exit 0)) (.seq (.block 1 (.seq (.run (.go (.move (tm 8)) (P 10)::
.go (.move (tm 10)) (P 5)::
[])) (.seq (.draw 6 (.go (.loadN 2 (tm 3)) (P 11)::
.go (.move (tm 0)) (P 12)::
.go (.move (tm 5)) (P 13)::
.go (.indexAddr none 2 (tm 12) (tm 13)) (P 14)::
.go (.loadN 2 (tm 14)) (P 15)::
.go (.bin .eql 74 (tm 11) (tm 15)) (P 16)::
[]) [.ok,.ok,.ok,.ok,.ok,.ok]) (.cond (tm 16) (.seq (.run (.go (.move (tm 5)) (P 17)::
.go (.move (tm 17)) (P 4)::
[])) .ret) .skip)))) (.run (.go (.bin .add 3 (tm 8) (.con (.int .i64 (.ofNat 1)))) (P 18)::
.go (.move (tm 18)) (P 8)::
[])))))))) (.seq (.run (.go (.move (.con (.int .i64 (.negSucc 0)))) (P 4)::
[])) .ret)))
theorem de122 : @compF Try.prog (Gl.none Try.prog) Try.f122 2=.mk d122 (mkTT 19) [(P 0),(P 1)] [.tmp (P 4)]:=by kernel_rfl
theorem dg122 : Try.prog.funcs[122]?=some Try.f122:=Try.func122
theorem do122 : okF Try.prog Try.f122=true:=by kernel_rfl
noncomputable def d82 : FCode:=(.seq (.run (.go (.box 74 (tm 1)) (P 3)::
.go (.move (.con (.bool false))) (P 4)::
[])) (.seq (.run (.go (.move (tm 0)) (P 5)::
.go (.loadN 2 (tm 3)) (P 6)::
.go (.call (.con (.func (.func 122) ⟨[]⟩ ⟨[]⟩)) [(tm 5),(tm 6)]) (P 7)::
.go (.bin .geq 3 (tm 7) (.con (.int .i64 (.ofNat 0)))) (P 8)::
.go (.move (tm 8)) (P 4)::
[])) .ret))
theorem de82 : @compF Try.prog (Gl.none Try.prog) Try.f82 2=.mk d82 (mkTT 9) [(P 0),(P 1)] [.tmp (P 4)]:=by kernel_rfl
theorem dg82 : Try.prog.funcs[82]?=some Try.f82:=Try.func82
theorem do82 : okF Try.prog Try.f82=true:=by kernel_rfl
theorem LG_put {c b r n : Value} {u : Nat→Bool} {j : Nat} {o : Bool} (hj : j<16) : (LG c b r n u).set (4+j) (.bool o)=LG c b r n (fun i=>if i=j then o else u i):=by
 unfold LG
 rw[List.append_assoc,List.set_append_right _ _ (by simp),List.set_append_left _ _ (by simp[An];omega)]
 have e : 4+j-[c,b,r,n].length=j:=by simp
 rw[e,An_set,List.append_assoc]
 congr 2
 refine An_cong (fun i _=>?_)
 by_cases hi : i=j
 ·simp[hi]
 ·simp[hi]
theorem f84_ok {H : Heap} {c b r n : Value} {u : Nat→Bool} {p k g : Nat} {o : Bool} (hb : Bx H p (LG c b r n u) 135) (hk : k<4) (hg : g<4) : F Try.prog 84 ⟨[PT p,.agg ⟨A2 k g⟩,.bool o]⟩ H (fun _ X=>GrowX p H X∧Bx X p (LG c b r n (fun i=>if i=k*4+g then o else u i)) 135):=by
 have hi1:=fun i=>idx_arr4 (len:=4) (o:=4) (i:=i) (k:=k) (kd:=.i64) hk
 have hi2:=fun i=>idx_arr (len:=4) (o:=4+k*4) (i:=i) (k:=g) (kd:=.i64) hg
 have hp:=LG_put (c:=c) (b:=b) (r:=r) (n:=n) (u:=u) (j:=k*4+g) (o:=o) (by omega)
 have e : 4+(k*4+g)=4+k*4+g:=by omega
 rw[e] at hp
 have hll:=LG_len (c:=c) (b:=b) (r:=r) (n:=n) (u:=u)
 have lb:=hb.1
 have hlt : 4+k*4+g<(LG c b r n u).length:=by rw[hll];omega
 refine F.entryL rfl dg84 do84 de84 rfl (by kernel_rfl) ?_
 simp only[sets]
 refine V.re [(0,PT p),(1,.agg ⟨A2 k g⟩),(2,.bool o)] (N:=16) zE zY ?_
 intro t hF hA
 simp only[Kn,and_true] at hA
 refine zS ?_
 refine V.l0 ?_
 refine V.heap (fun X=>Grow H X∧Bx X H.next (A2 k g) 74) ⟨?_,?_⟩ ?_
 ·exact zW
 ·exact zB
 rintro H1 ⟨g1,b1⟩
 have hb1:=hb.grow g1
 refine zS ?_
 have zf:=And.intro b1.2<|And.intro @hi1<|And.intro @hi2<|And.intro hb1.2<|@hlt
 refine V.dz ?_ ?_ rfl ?_
 ·exact zM
 ·simp only[dcAll,dcOk,wantD,List.cons_append,List.nil_append,true_and,and_true]
 rw[hp]
 refine zS ?_
 refine V.nil (Lv.normal rfl ⟨⟨by simp only[Heap.next_set];exact g1.1,fun i hi hne=>?_⟩,by simp only[Heap.next_set];exact hb1.1,cells_set _ _ _ _ _⟩)
 rw[Heap.get_set,if_neg hne]
 exact g1.2 i hi
def ixc (z : Int×Int) : List (Int×Int)→Nat→Int
 | [],_=>-1
 | y::L,k=>if z=y then (k : Int) else ixc z L (k+1)
theorem ixc_nn {z : Int×Int} : ∀ {L : List (Int×Int)} {k : Nat},(0≤ixc z L k)↔z∈L
 | [],_=>by simp[ixc]
 | y::L,k=>by
  simp only[ixc]
  split
  ·rename_i h
   simp[h]
  ·rename_i h
   rw[ixc_nn]
   simp[h]
def okI (z : Int×Int) : Prop:=(Lit.int .i64 z.1).wf=true∧(Lit.int .i64 z.2).wf=true
theorem key74 {a b : Int} (ha : (Lit.int .i64 a).wf=true) (hb : (Lit.int .i64 b).wf=true) : (keyOf Try.prog 74 (.agg ⟨A2 a b⟩)).isSome=true:=by
 have c3 : Try.prog.cellsOf 3=1:=by kernel_rfl
 have c48 : Try.prog.cellsOf 74=2:=by kernel_rfl
 have h5 : (Program.keyType Try.prog 74 && (Value.agg ⟨[I a,I b]⟩).formed Try.prog 74)=true:=by kernel_rfl
 obtain⟨n,hn⟩ : ∃ n,Try.prog.types.size+1=n+2:=⟨Try.prog.types.size-1,by have : 2≤Try.prog.types.size:=Nat.le_of_ble_eq_true (by kernel_rfl);omega⟩
 unfold keyOf
 simp only[Try.underlying74]
 rw[if_pos h5,hn]
 unfold Program.keyLits
 simp only[Try.underlying74,c48]
 have e : (Value.agg ⟨[I a,I b]⟩).cells.toList=[I a,I b]:=rfl
 rw[e,if_pos ⟨rfl,by simp⟩]
 simp[c3,kl_int ha,kl_int hb]
theorem eql74 {z y : Int×Int} (hz : okI z) (hy : okI y) : xbinOp Try.prog .eql 74 (.agg ⟨A2 z.1 z.2⟩) (.agg ⟨A2 y.1 y.2⟩)=some (.bool (decide (z=y))):=by
 have h1 : xbin Try.prog .eql 74 (.agg ⟨A2 z.1 z.2⟩) (.agg ⟨A2 y.1 y.2⟩)=none:=rfl
 have h2 : xbinStr .eql (.agg ⟨A2 z.1 z.2⟩) (.agg ⟨A2 y.1 y.2⟩)=none:=rfl
 have h3 : xeqNil Try.prog false 74 (.agg ⟨A2 z.1 z.2⟩) (.agg ⟨A2 y.1 y.2⟩)=none:=by
  unfold xeqNil
  simp only[Try.underlying74]
 have h4 : keyedB Try.prog 74=true:=by kernel_rfl
 have h5 : Try.prog.eqGuardType Try.prog.depth 74=false:=by kernel_rfl
 unfold xbinOp
 rw[h1,h2]
 simp only[h3]
 unfold xeqAgg
 simp only[Try.underlying74]
 rw[if_pos ⟨h4,rfl,rfl,key74 hz.1 hz.2,key74 hy.1 hy.2,h5⟩]
 obtain⟨a,b⟩:=z
 obtain⟨c,d⟩:=y
 simp[valEq,cellsEq,cellEq]
theorem f122_ok {H : Heap} {x : Value} {L : List (Int×Int)} {z : Int×Int} (h : Sw 2 H x (L.map c2)) (hl : L.length≤1000) (hz : okI z) (hy : ∀ y∈L,okI y) : Gives Try.prog 122 [x,.agg ⟨A2 z.1 z.2⟩] H (I (ixc z L 0)):=by
 have hlen:=fun X (g : Grow H X)=>(h.grow g).len
 simp only[List.length_map] at hlen
 refine F.entryL rfl dg122 do122 de122 rfl (by kernel_rfl) ?_
 simp only[sets]
 refine V.re [(0,x),(1,.agg ⟨A2 z.1 z.2⟩)] (N:=19) zE zY ?_
 intro t hF hA
 simp only[Kn,and_true] at hA
 refine zS ?_
 refine V.l0 ?_
 refine V.heap (fun X=>Grow H X∧Bx X H.next (A2 z.1 z.2) 74) ⟨?_,?_⟩ ?_
 ·exact zW
 ·exact zB
 rintro H1 ⟨g1,b1⟩
 have hl1:=hlen H1 g1
 refine zS ?_
 have zf:=@hl1
 refine V.lz ?_
 refine zS ?_
 refine V.re [(0,x),(3,PT H.next),(7,I L.length),(8,I 0)] (N:=19) zF zK ?_
 clear hF hA
 intro t hF hA
 simp only[Kn,and_true] at hA
 refine V.loop (fun w t m X=>∃ (k : Nat),k≤L.length∧w=L.length-k∧m=[]∧X=H1∧ixc z L 0=ixc z (L.drop k) k∧Full 19 t∧Kn [(0,x),(3,PT H.next),(7,I L.length),(8,I k)] t) L.length ?_ ?_
 ·exact⟨0,by omega,by omega,rfl,rfl,rfl,zF,zK⟩
 clear hF hA
 rintro w t m X ⟨k,hk,rfl,rfl,rfl,hix,hF,hA⟩
 simp only[Kn,and_true] at hA
 refine zS ?_
 refine V.l0 ?_
 refine zS ?_
 refine V.condP zP (fun hlt=>?_) (fun hlt=>?_)
 ·have hk' : k<L.length:=by omega
  obtain⟨p,hp1,hp2⟩:=h.get (w:=2) (by decide) (n:=(k : Int)) (k:=k) (x:=c2 L[k]) (kd:=.i64) (by rw[List.getElem?_map,List.getElem?_eq_getElem hk'];rfl) rfl
  have hp3:=hp2 X g1
  have he:=eql74 hz (hy _ (List.getElem_mem hk'))
  have ed : L.drop k=L[k]::L.drop (k+1):=List.drop_eq_getElem_cons hk'
  rw[ed] at hix
  simp only[ixc] at hix
  change yloadN 2 X p=some (.agg ⟨A2 (L[k]).1 (L[k]).2⟩) at hp3
  refine zS ?_
  refine V.l0 ?_
  refine zS ?_
  have zf:=And.intro b1.2<|And.intro @hp1<|And.intro @hp3<|@he
  refine V.dz ?_ ?_ rfl ?_
  ·exact zM
  ·simp only[dcAll,dcOk,wantD,List.cons_append,List.nil_append,true_and,and_true]
  refine zS ?_
  refine V.condP zP (fun heq=>?_) (fun heq=>?_)
  ·rw[if_pos heq] at hix
   refine zS ?_
   refine V.l0 ?_
   refine zS ?_
   refine V.ret (V.rets rfl (Or.inr ⟨by simp,V.rets rfl (Lv.retG (by simp +contextual (disch:=first|omega|simp only[nx];omega) only[D1,cells_alloc_at,cells_alloc_ne,cells_set_at,cells_set_ne,yres,yres1,yresL,qA,qB,qC,D5,hF,hA,↓reduceIte,qD,qE];rfl) ?_ ?_)⟩))
   ·exact g1
   ·rw[hix]
  ·rw[if_neg heq] at hix
   refine zS ?_
   refine V.l0 ?_
   refine V.nil (Or.inl ⟨rfl,L.length-(k+1),by omega,?_⟩)
   exact⟨k+1,hk',rfl,rfl,rfl,hix,zF,zK⟩
 ·obtain rfl : k=L.length:=by omega
  refine V.exit ?_
  refine zX ?_
  refine V.nil (Or.inr ⟨by simp,?_⟩)
  refine zX ?_
  refine zS ?_
  refine V.l0 ?_
  refine zS ?_
  refine V.ret (V.rets rfl (Lv.retG (by simp +contextual (disch:=first|omega|simp only[nx];omega) only[D1,cells_alloc_at,cells_alloc_ne,cells_set_at,cells_set_ne,yres,yres1,yresL,qA,qB,qC,D5,hF,hA,↓reduceIte,qD,qE];rfl) ?_ ?_))
  ·exact g1
  ·rw[hix,List.drop_length]
   rfl
theorem f82_ok {H : Heap} {x : Value} {L : List (Int×Int)} {z : Int×Int} (h : Sw 2 H x (L.map c2)) (hl : L.length≤1000) (hz : okI z) (hy : ∀ y∈L,okI y) : Gives Try.prog 82 [x,.agg ⟨A2 z.1 z.2⟩] H (.bool (decide (z∈L))):=by
 refine F.entryL rfl dg82 do82 de82 rfl (by kernel_rfl) ?_
 simp only[sets]
 refine V.re [(0,x),(1,.agg ⟨A2 z.1 z.2⟩)] (N:=9) zE zY ?_
 intro t hF hA
 simp only[Kn,and_true] at hA
 refine zS ?_
 refine V.l0 ?_
 refine V.heap (fun X=>Grow H X∧Bx X H.next (A2 z.1 z.2) 74) ⟨?_,?_⟩ ?_
 ·exact zW
 ·exact zB
 rintro H1 ⟨g1,b1⟩
 refine zS ?_
 refine V.run ?_
 have zf:=b1.2
 refine VI.sz 2 ?_
 simp only[ds]
 refine VI.callA rfl (f122_ok (h.grow g1) hl hz hy) zA (fun H2 g2=>?_)
 refine VI.l0 ?_
 refine zS ?_
 refine V.ret (V.rets rfl (Lv.retG (by simp +contextual (disch:=first|omega|simp only[nx];omega) only[D1,cells_alloc_at,cells_alloc_ne,cells_set_at,cells_set_ne,yres,yres1,yresL,qA,qB,qC,D5,hF,hA,↓reduceIte,qD,qE];rfl) ?_ ?_))
 ·exact g1.trans g2
 ·rw[decide_eq_decide.2 ixc_nn]
end Go.Xe.TFX
/- What the functions of the layer flow come to: the range in which a count would have to be. Conditions: none. -/
-- MOD TF
namespace Go.Xe.TFX
open Go Go.Xe Go.Proofs
open Nat renaming reduceLeDiff → qA, reduceSub → qB, reduceAdd → qC, reduceEqDiff → qD, reduceLT → qE
open Int renaming reduceNegSucc → qF, reduceEq → qG
open Go.Xe.V renaming seq → sA, block → sB, scope → sC, skip → sD, close → sE
open Go.Xe renaming pth → P
open Go.Xe.Flw
set_option maxRecDepth 100000
set_option maxHeartbeats 3200000
set_option linter.unusedSimpArgs false
noncomputable def d40 : FCode:=(.seq (.run (.go (.box 38 (tm 0)) (P 2)::
.go (.box 74 (tm 1)) (P 3)::
.go (.alloc 69 [(.int .i64 (.ofNat 0)),(.int .i64 (.ofNat 0))]) (P 4)::
.go (.move (.con (.int .i64 (.ofNat 0)))) (P 5)::
[])) (.seq (.run (.go (.loadN 4 (tm 2)) (P 11)::
.go (.call (.con (.func (.func 72) ⟨[]⟩ ⟨[]⟩)) [tm 11]) (P 12)::
.go (.move (tm 12)) (P 10)::
.go (.extract (tm 10) 0) (P 13)::
.go (.extract (tm 10) 1) (P 14)::
.go (.alloc 135 [(.slice none 0 0),(.slice none 0 0),(.slice none 0 0),(.slice none 0 0),(.bool false),(.bool false),(.bool false),(.bool false),(.bool false),(.bool false),(.bool false),(.bool false),(.bool false),(.bool false),(.bool false),(.bool false),(.bool false),(.bool false),(.bool false),(.bool false),.nilFunc,.nilFunc]) (P 6)::
.un (.store 22 (tm 6) (tm 13))::
.go (.move (tm 14)) (P 7)::
[])) (.seq (.seq (.run (.go (.move (tm 7)) (P 15)::
.go (.bin .neq 33 (tm 15) (.con (.int .i64 (.ofNat 0)))) (P 16)::
[])) (.cond (tm 16) (.seq (.run (.go (.build [(.int .i64 (.ofNat 0)),(.int .i64 (.ofNat 0))] []) (P 17)::
.go (.move (tm 7)) (P 18)::
.un (.store 2 (tm 4) (tm 17))::
.go (.move (tm 18)) (P 5)::
[])) .ret) .skip)) (.seq (.seq (.draw 6 (.go (.loadN 22 (tm 6)) (P 19)::
.go (.call (.con (.func (.func 74) ⟨[]⟩ ⟨[]⟩)) [tm 19]) (P 20)::
.go (.call (.con (.func (.func 83) ⟨[]⟩ ⟨[]⟩)) [tm 20]) (P 21)::
.go (.loadN 2 (tm 3)) (P 22)::
.go (.call (.con (.func (.func 82) ⟨[]⟩ ⟨[]⟩)) [(tm 21),(tm 22)]) (P 23)::
.go (.un .not (tm 23)) (P 24)::
[]) [.ok,.ok,.ok,.rd none (.loadN 2 (tm 3)) (some (P 22)) [0,2],.ok,.ok]) (.cond (tm 24) (.seq (.run (.go (.build [(.int .i64 (.ofNat 0)),(.int .i64 (.ofNat 0))] []) (P 25)::
.un (.store 2 (tm 4) (tm 25))::
.go (.move (.con (.int .i64 (.ofNat 2)))) (P 5)::
[])) .ret) .skip)) (.seq (.run (.go (.loadN 2 (tm 3)) (P 26)::
.go (.call (.con (.func (.func 84) ⟨[]⟩ ⟨[]⟩)) [(tm 6),(tm 26),(.con (.bool true))]) (P 27)::
[])) (.seq (.run (.go (.loadN 22 (tm 6)) (P 29)::
.go (.call (.con (.func (.func 73) ⟨[]⟩ ⟨[]⟩)) [tm 29]) (P 30)::
.go (.move (tm 30)) (P 28)::
.go (.extract (tm 28) 0) (P 31)::
.go (.extract (tm 28) 1) (P 32)::
.go (.move (tm 31)) (P 8)::
.go (.move (tm 32)) (P 9)::
[])) (.seq (.seq (.run (.go (.move (tm 9)) (P 33)::
.go (.un .not (tm 33)) (P 34)::
[])) (.cond (tm 34) (.seq (.run (.go (.build [(.int .i64 (.ofNat 0)),(.int .i64 (.ofNat 0))] []) (P 35)::
.un (.store 2 (tm 4) (tm 35))::
.go (.move (.con (.int .i64 (.ofNat 9)))) (P 5)::
[])) .ret) .skip)) (.seq (.run (.go (.move (tm 8)) (P 36)::
.go (.loadN 2 (tm 3)) (P 37)::
.go (.lookup 74 (.agg ⟨[(.int .i64 (.ofNat 0)),(.int .i64 (.ofNat 0))]⟩) (tm 36) (tm 37) false) (P 38)::
.un (.store 2 (tm 4) (tm 38))::
.go (.move (.con (.int .i64 (.ofNat 0)))) (P 5)::
[])) .ret))))))))
theorem de40 : @compF Try.prog (Gl.none Try.prog) Try.f40 2=.mk d40 (mkTT 39) [(P 0),(P 1)] [.many (P 4) 2,.tmp (P 5)]:=by kernel_rfl
theorem dg40 : Try.prog.funcs[40]?=some Try.f40:=Try.func40
theorem do40 : okF Try.prog Try.f40=true:=by kernel_rfl
def cz (K G : Nat) : List (Int×Int):=(cel K G).map fun q=>((q.1 : Int),(q.2 : Int))
theorem cz_cl (K G : Nat) : cl K G (K*G)=(cz K G).map c2:=by
 unfold cl cz
 rw[List.take_of_length_le (by rw[cel_len];exact Nat.le_refl _),List.map_map]
 rfl
theorem cz_len (K G : Nat) : (cz K G).length=K*G:=by simp[cz,cel_len]
theorem cz_mem {K G : Nat} {z : Int×Int} : z∈cz K G↔∃ k g : Nat,k<K∧g<G∧z=((k : Int),(g : Int)):=by
 unfold cz cel
 rw[List.mem_map]
 constructor
 ·rintro⟨q,hq,rfl⟩
  obtain⟨j,hj,rfl⟩:=List.mem_map.1 hq
  have hj:=List.mem_range.1 hj
  have hG : 0<G:=Nat.pos_of_ne_zero (fun h=>by rw[h] at hj;simp at hj)
  exact⟨j/G,j%G,(Nat.div_lt_iff_lt_mul hG).2 hj,Nat.mod_lt _ hG,rfl⟩
 ·rintro⟨k,g,hk,hg,rfl⟩
  refine⟨(k,g),List.mem_map.2 ⟨k*G+g,List.mem_range.2 (cel_lt hk hg),?_⟩,rfl⟩
  have hq : (k*G+g)/G=k:=by rw[Nat.mul_comm,Nat.mul_add_div (by omega),Nat.div_eq_of_lt hg,Nat.add_zero]
  have hr : (k*G+g)%G=g:=by rw[Nat.mul_comm,Nat.mul_add_mod,Nat.mod_eq_of_lt hg]
  rw[hq,hr]
theorem okI_s {x y : Int} (h1 : -1000≤x) (h2 : x≤1000) (h3 : -1000≤y) (h4 : y≤1000) : okI (x,y):=⟨wf_k h1 h2,wf_k h3 h4⟩
def u1 (k g : Nat) : Nat→Bool:=fun i=>if i=k*4+g then true else u0 i
theorem f40_ok {H : Heap} {c b r n : Value} {T : Tb} {z : Int×Int} (h : TV H c b r n T) (hs : sh T) (hz : okI z) : F Try.prog 40 ⟨[.agg ⟨[c,b,r,n]⟩,.agg ⟨A2 z.1 z.2⟩]⟩ H (fun w X=>Grow H X∧((flt T≠0∧w=.tuple ⟨[.agg ⟨A2 0 0⟩,I (flt T)]⟩)∨(flt T=0∧z∉cz T.C.length (grp T)∧w=.tuple ⟨[.agg ⟨A2 0 0⟩,I 2]⟩)∨(flt T=0∧∃ k g : Nat,k<T.C.length∧g<grp T∧z=((k : Int),(g : Int))∧((¬ ok T (u1 k g)∧w=.tuple ⟨[.agg ⟨A2 0 0⟩,I 9]⟩)∨(ok T (u1 k g)∧w=.tuple ⟨[.agg ⟨r2 (va0 (bnd T (u1 k g)) z)⟩,I 0]⟩))))):=by
 have lok:=LG_ok (u:=u0) h.c.isS (rp.sl h.b) (rp.sl h.r) (rp.sl h.n)
 have hset:=LG_set (c:=c) (b:=b) (r:=r) (n:=n) (u:=u0) (l:=LG0) rfl
 have l0 : LG0.length=22:=rfl
 refine F.entryL rfl dg40 do40 de40 rfl (by kernel_rfl) ?_
 simp only[sets]
 refine V.re [(0,.agg ⟨[c,b,r,n]⟩),(1,.agg ⟨A2 z.1 z.2⟩)] (N:=39) zE zY ?_
 intro t hF hA
 simp only[Kn,and_true] at hA
 refine zS ?_
 refine V.l0 ?_
 refine V.heap (fun X=>Grow H X∧Bx X H.next [c,b,r,n] 38∧Bx X (H.next+1) (A2 z.1 z.2) 74∧Bx X (H.next+2) (A2 0 0) 69) ⟨?_,?_,?_,?_⟩ ?_
 ·exact zW
 ·exact zB
 ·exact zB
 ·exact zB
 rintro H1 ⟨g1,b1,z1,r1⟩
 refine zS ?_
 refine V.run ?_
 have zf:=b1.2
 refine VI.sz 1 ?_
 simp only[ds]
 refine VI.callA rfl (f72_ok (h.grow g1) hs) zA (fun H2 g2=>?_)
 have z2:=z1.grow g2
 have r2':=r1.grow g2
 have g12:=g1.trans g2
 have lr2:=r2'.1
 by_cases h0 : flt T=0
 ·rw[if_pos h0]
  obtain⟨hf,hv⟩:=flt_0.1 h0
  have hf1:=hf.1
  have hf2:=hf.2
  have hv1:=hv.1
  have hvB:=hv.2.1
  have hKG : T.C.length*grp T≤1000:=Nat.le_trans (Nat.mul_le_mul hf1 hf2) (by decide)
  unfold LG0 at hset l0
  simp only[List.cons_append,List.nil_append] at hset l0
  have zf:=And.intro @LG_len<|And.intro @lok<|And.intro @hset<|@l0
  refine VI.lz ?_
  refine V.heap (fun X=>Grow H X∧Bx X (H.next+1) (A2 z.1 z.2) 74∧Bx X (H.next+2) (A2 0 0) 69∧Bx X H2.next (LG c b r n u0) 135) ⟨?_,?_,?_,?_⟩ ?_
  ·exact zW
  ·exact zB
  ·exact zB
  ·exact zB
  rintro H3 ⟨g3,z3,r3,c3⟩
  have n3:=c3.1
  have m2:=g12.1
  refine zS ?_
  refine V.l0 ?_
  refine zS ?_
  refine V.condP zP (fun hq=>?_) (fun hq=>?_)
  ·exact absurd h0 hq
  refine zS ?_
  refine V.draw ?_
  have zf:=And.intro c3.2<|And.intro @LG_t22<|@LG_len
  refine VD.nz 1 ?_
  simp only[ds]
  refine VD.callR zA (f74_ok (c:=c) (b:=b) (r:=r) (n:=n) (u:=u0) (H:=H3)) zA (fun v4 H4 ⟨p,hp,hp1,g4,p4⟩=>?_)
  subst hp
  have np:=p4.1
  have g34:=g3.trans g4
  have hDin : ∀ j,Din p H.next j→j<H4.next∧H4.get j=H4.get j:=by
   intro j hj
   rcases hj with rfl|hj
   ·exact⟨np,rfl⟩
   ·have q1:=g3.1
    have q2:=g4.1
    exact⟨by omega,rfl⟩
  refine VD.callR zA (f83_ok (f119_iter h g34 p4 (by omega) (by omega)) hKG (Nat.le_refl _) hDin) zA (fun v5 H5 ⟨g5,o5⟩=>?_)
  have z5:=(z3.grow g4).grow g5
  rw[cz_cl] at o5
  have osw:=o5.sw (by intro x hx;obtain⟨y,_,rfl⟩:=List.mem_map.1 hx;rfl)
  have zf:=z5.2
  refine VD.nz 1 ?_
  simp only[ds]
  have hcz : ∀ y∈cz T.C.length (grp T),okI y:=by
   intro y hy
   obtain⟨k,g,hk,hg,rfl⟩:=cz_mem.1 hy
   exact okI_s (by omega) (by omega) (by omega) (by omega)
  refine VD.callA zA (f82_ok osw (by rw[cz_len];exact hKG) hz hcz) zA (fun H6 g6=>?_)
  have c6:=((c3.grow g4).grow g5).grow g6
  have z6:=z5.grow g6
  have r6:=((r3.grow g4).grow g5).grow g6
  have m4:=g4.1
  have m5:=g5.1
  have m6:=g6.1
  have g36:=(g34.trans g5).trans g6
  have z4:=z3.grow g4
  refine VD.d0 ?_ ?_ rfl ?_
  ·exact zM
  ·simp only[dcAll,dcOk,wantD,List.cons_append,List.nil_append,true_and,and_true]
   have zf:=And.intro z3.2<|And.intro z4.2<|And.intro z5.2<|z6.2
   exact zR
  have lr6:=r6.1
  have lz6:=z6.1
  have lc6:=c6.1
  refine zS ?_
  refine V.condP zP (fun hin=>?_) (fun hin=>?_)
  ·have hin' : z∉cz T.C.length (grp T):=hin
   refine zS ?_
   have zf:=r6.2
   refine V.lz ?_
   refine zS ?_
   refine V.ret (V.rets rfl (Lv.retF (by simp +contextual (disch:=first|omega|simp only[nx];omega) only[D1,cells_alloc_at,cells_alloc_ne,cells_set_at,cells_set_ne,yres,yres1,yresL,qA,qB,qC,D5,hF,hA,↓reduceIte,qD,qE,cells_set];rfl) ?_))
   refine⟨g36.set (by omega) _,.inr (.inl ⟨h0,hin',rfl⟩)⟩
  ·have hin' : z∈cz T.C.length (grp T):=Decidable.not_not.1 hin
   obtain⟨k,g,hk,hg,hzz⟩:=cz_mem.1 hin'
   have ez1 : z.1=(k : Int):=by rw[hzz]
   have ez2 : z.2=(g : Int):=by rw[hzz]
   rw[ez1,ez2] at z6
   refine zS ?_
   refine V.run ?_
   have zf:=z6.2
   refine VI.sz 1 ?_
   simp only[ds]
   refine VI.callR zA (f84_ok (o:=true) c6 (show k<4 by omega) (show g<4 by omega)) zA (fun w7 H7 ⟨g7,c7⟩=>?_)
   refine VI.l0 ?_
   change Bx H7 H2.next (LG c b r n (u1 k g)) 135 at c7
   have z7:=z6.growX g7 (by omega)
   have r7:=r6.growX g7 (by omega)
   have m7:=g7.1
   have gH7 : Grow H H7:=⟨by have:=g36.1;omega,fun q hq=>by rw[g7.2 q (by have:=g36.1;omega) (by omega),g36.2 q hq]⟩
   refine zS ?_
   refine V.run ?_
   have zf:=And.intro c7.2<|And.intro @LG_t22<|@LG_len
   refine VI.sz 1 ?_
   simp only[ds]
   refine VI.callR zA (f73_ok (u:=u1 k g) (h.grow gH7) hf hv) zA (fun w8 H8 ⟨g8,hw⟩=>?_)
   have z8:=z7.grow g8
   have r8:=r7.grow g8
   have gH8:=gH7.trans g8
   have lr8:=r8.1
   have lz8:=z8.1
   have hxy : okK ((k : Int),(g : Int)):=⟨by simp only;omega,by simp only;omega⟩
   rcases hw with⟨hok,i,rfl,m8,_⟩|⟨hok,rfl⟩
   ·have li:=m8.lt
    obtain⟨v,w1,w2,w3,w4,_⟩:=bnd_iff hf hv hok hk hg
    have lk:=m8.look hxy
    have w1' : bk T (fw T (u1 k g) (T.C.length*grp T)) (T.C.length*grp T) ((k : Int),(g : Int))=some v:=w1
    rw[w1'] at lk
    simp only[Option.getD_some] at lk
    refine VI.l0 ?_
    refine zS ?_
    refine V.l0 ?_
    refine zS ?_
    refine V.condF zA ?_
    refine zS ?_
    have zf:=And.intro z8.2<|And.intro r8.2<|@lk
    refine V.lz ?_
    refine zS ?_
    refine V.ret (V.rets rfl (Lv.retF (by simp +contextual (disch:=first|omega|simp only[nx];omega) only[D1,cells_alloc_at,cells_alloc_ne,cells_set_at,cells_set_ne,yres,yres1,yresL,qA,qB,qC,D5,hF,hA,↓reduceIte,qD,qE,cells_set];rfl) ?_))
    refine⟨gH8.set (by omega) _,.inr (.inr ⟨h0,k,g,hk,hg,hzz,.inr ⟨hok,?_⟩⟩)⟩
    rw[hzz,va0_some w1]
   ·refine VI.l0 ?_
    refine zS ?_
    refine V.l0 ?_
    refine zS ?_
    refine V.condT zA ?_
    refine zS ?_
    have zf:=r8.2
    refine V.lz ?_
    refine zS ?_
    refine V.ret (V.rets rfl (Lv.retF (by simp +contextual (disch:=first|omega|simp only[nx];omega) only[D1,cells_alloc_at,cells_alloc_ne,cells_set_at,cells_set_ne,yres,yres1,yresL,qA,qB,qC,D5,hF,hA,↓reduceIte,qD,qE,cells_set];rfl) ?_))
    exact⟨gH8.set (by omega) _,.inr (.inr ⟨h0,k,g,hk,hg,hzz,.inl ⟨hok,rfl⟩⟩)⟩
 ·rw[if_neg h0]
  unfold LG0
  simp only[List.cons_append,List.nil_append]
  refine VI.l0 ?_
  refine zS ?_
  refine V.l0 ?_
  refine zS ?_
  refine V.condP zP (fun hq=>?_) (fun hq=>?_)
  ·refine zS ?_
   have zf:=r2'.2
   refine V.lz ?_
   refine zS ?_
   refine V.ret (V.rets rfl (Lv.retF (by simp +contextual (disch:=first|omega|simp only[nx];omega) only[D1,cells_alloc_at,cells_alloc_ne,cells_set_at,cells_set_ne,yres,yres1,yresL,qA,qB,qC,D5,hF,hA,↓reduceIte,qD,qE,cells_set];rfl) ?_))
   refine⟨?_,.inl ⟨h0,rfl⟩⟩
   exact zW
  ·exact absurd h0 hq
end Go.Xe.TFX
/- The statement FlowWould: what the range in which a count would have to be means. Conditions: none. -/
-- MOD TF
namespace Go.Xe.TFX
open Go Go.Xe Go.Proofs
open Nat renaming reduceLeDiff → qA, reduceSub → qB, reduceAdd → qC, reduceEqDiff → qD, reduceLT → qE
open Int renaming reduceNegSucc → qF, reduceEq → qG
open Go.Xe.V renaming seq → sA, block → sB, scope → sC, skip → sD, close → sE
open Go.Xe renaming pth → P
open Go.Xe.Flw
set_option maxRecDepth 100000
set_option maxHeartbeats 3200000
set_option linter.unusedSimpArgs false
noncomputable def d52 : FCode:=(.seq (.run (.go (.alloc 69 [(.int .i64 (.ofNat 0)),(.int .i64 (.ofNat 0))]) (P 4)::
[])) (.seq (.run (.go (.move (tm 0)) (P 5)::
.go (.move (tm 1)) (P 6)::
.go (.build [(.int .i64 (.ofNat 0)),(.int .i64 (.ofNat 0))] [(0,1,(tm 5)),(1,1,(tm 6))]) (P 7)::
.un (.store 2 (tm 4) (tm 7))::
[])) .ret))
theorem de52 : @compF Try.prog (Gl.none Try.prog) Try.f52 2=.mk d52 (mkTT 8) [(P 0),(P 1)] [.many (P 4) 2]:=by kernel_rfl
theorem dg52 : Try.prog.funcs[52]?=some Try.f52:=Try.func52
theorem do52 : okF Try.prog Try.f52=true:=by kernel_rfl
theorem f52_ok (a b : Int) (H : Heap) : Gives Try.prog 52 [I a,I b] H (.agg ⟨A2 a b⟩):=by
 refine F.entryL rfl dg52 do52 de52 rfl (by kernel_rfl) ?_
 simp only[sets]
 refine V.re [(0,I a),(1,I b)] (N:=8) zE zY ?_
 intro t hF hA
 simp only[Kn,and_true] at hA
 refine zS ?_
 refine V.l0 ?_
 refine zS ?_
 refine V.l0 ?_
 refine zS ?_
 refine V.ret (V.rets rfl (Lv.retG (by simp +contextual (disch:=first|omega|simp only[nx];omega) only[D1,cells_alloc_at,cells_alloc_ne,cells_set_at,cells_set_ne,yres,yres1,yresL,qA,qB,qC,D5,hF,hA,↓reduceIte,qD,qE];rfl) ?_ ?_))
 ·exact zW
 ·rfl
theorem eql69 {a b c d : Int} (ha : (Lit.int .i64 a).wf=true) (hb : (Lit.int .i64 b).wf=true) (hc : (Lit.int .i64 c).wf=true) (hd : (Lit.int .i64 d).wf=true) : xbinOp Try.prog .eql 69 (.agg ⟨A2 a b⟩) (.agg ⟨A2 c d⟩)=some (.bool (decide (a=c∧b=d))):=by
 have h1 : xbin Try.prog .eql 69 (.agg ⟨A2 a b⟩) (.agg ⟨A2 c d⟩)=none:=rfl
 have h2 : xbinStr .eql (.agg ⟨A2 a b⟩) (.agg ⟨A2 c d⟩)=none:=rfl
 have h3 : xeqNil Try.prog false 69 (.agg ⟨A2 a b⟩) (.agg ⟨A2 c d⟩)=none:=by
  unfold xeqNil
  simp only[Try.underlying69]
 have h4 : keyedB Try.prog 69=true:=by kernel_rfl
 have h5 : Try.prog.eqGuardType Try.prog.depth 69=false:=by kernel_rfl
 unfold xbinOp
 rw[h1,h2]
 simp only[h3]
 unfold xeqAgg
 simp only[Try.underlying69]
 rw[if_pos ⟨h4,rfl,rfl,key69 ha hb,key69 hc hd,h5⟩]
 simp[valEq,cellsEq,cellEq]
theorem eql69s {a b : Int} (h1 : 0≤a) (h2 : a≤1000000) (h3 : 0≤b) (h4 : b≤1000000) : xbinOp Try.prog .eql 69 (.agg ⟨A2 a b⟩) (.agg ⟨A2 a b⟩)=some (.bool true):=by
 have w1 : (Lit.int .i64 a).wf=true:=by
  simp only[Lit.wf,Bool.and_eq_true,decide_eq_true_eq]
  show (-9223372036854775808 : Int)≤a∧a≤9223372036854775807
  omega
 have w2 : (Lit.int .i64 b).wf=true:=by
  simp only[Lit.wf,Bool.and_eq_true,decide_eq_true_eq]
  show (-9223372036854775808 : Int)≤b∧b≤9223372036854775807
  omega
 rw[eql69 w1 w2 w1 w2]
 simp
theorem w_tru {T : Tb} {k g : Nat} {s : Int×Int→Int} (hf : fit T) (hv : val T) (hk : k<T.C.length) (hg : g<grp T) : Tru T u0 s↔Tru T (u1 k g) s∧isIn (s ((k : Int),(g : Int))) ((T.C.getD k []).getD g (0,0)):=by
 have hrow : g<(T.C[k]).length:=by rw[(hv.2.2.2.2.1 _ (List.getElem_mem hk)).1];exact hg
 have hwi:=(hv.2.2.2.2.1 _ (List.getElem_mem hk)).2 _ (List.getElem_mem hrow)
 have hf2:=hf.2
 have hn : ∀ x y : Nat,y<grp T→¬ (x=k∧y=g)→cns T (u1 k g) x y=cns T u0 x y:=by
  intro x y hy hh
  unfold cns u1
  by_cases e : x*4+y=k*4+g
  ·exact absurd ⟨by omega,by omega⟩ hh
  ·rw[if_neg e]
 have he : cns T (u1 k g) k g=(0,9223372036854775807):=by
  unfold cns u1
  simp
 constructor
 ·intro h
  have h0:=h.own k g hk hg
  have h00:=h0
  rw[cns_u0] at h0
  refine⟨⟨h.b,fun x y hx hy=>?_,h.car⟩,h0⟩
  by_cases hh : x=k∧y=g
  ·obtain⟨rfl,rfl⟩:=hh
   rw[he]
   rw[gd hk,gd hrow] at h0
   unfold isIn at h0 ⊢
   have q1:=hwi.1
   have q2:=hwi.2.2
   simp only at q1 q2 ⊢
   omega
  ·rw[hn x y hy hh]
   exact h.own x y hx hy
 ·rintro⟨h,h0⟩
  refine⟨h.b,fun x y hx hy=>?_,h.car⟩
  by_cases hh : x=k∧y=g
  ·obtain⟨rfl,rfl⟩:=hh
   rw[cns_u0]
   exact h0
  ·rw[← hn x y hy hh]
   exact h.own x y hx hy
theorem w_ok {T : Tb} {k g : Nat} (hf : fit T) (hv : val T) (hk : k<T.C.length) (hg : g<grp T) (h : ok T u0) : ok T (u1 k g):=by
 obtain⟨s,hs⟩:=ok_tru hf hv h
 exact tru_ok hf hv ((w_tru hf hv hk hg).1 hs).1
theorem would {T : Tb} {k g : Nat} (hf : fit T) (hv : val T) (hk : k<T.C.length) (hg : g<grp T) (h : ok T (u1 k g)) : ∃ w o : R2,va0 (bnd T (u1 k g)) ((k : Int),(g : Int))=w∧(T.C.getD k []).getD g (0,0)=o∧0≤w.1∧w.1≤w.2∧w.2≤bd k∧0≤o.1∧o.1≤o.2∧o.2≤500∧(ok T u0↔(com w o).1≤(com w o).2)∧(ok T u0→va0 (bnd T u0) ((k : Int),(g : Int))=com w o):=by
 have hrow : g<(T.C[k]).length:=by rw[(hv.2.2.2.2.1 _ (List.getElem_mem hk)).1];exact hg
 have hwi:=(hv.2.2.2.2.1 _ (List.getElem_mem hk)).2 _ (List.getElem_mem hrow)
 obtain⟨w,w1,w2,w3,w4,w5⟩:=bnd_iff hf hv h hk hg
 have eo : (T.C.getD k []).getD g (0,0)=(T.C[k])[g]:=by rw[gd hk,gd hrow]
 have hiff : ∀ s,Tru T u0 s↔Tru T (u1 k g) s∧isIn (s ((k : Int),(g : Int))) ((T.C.getD k []).getD g (0,0)):=fun s=>w_tru hf hv hk hg
 rw[eo] at hiff ⊢
 obtain⟨o1,o2,o3⟩:=hwi
 generalize (T.C[k])[g]=o at *
 have mem : ∀ n,isIn n w∧isIn n o↔∃ s,Tru T u0 s∧s ((k : Int),(g : Int))=n:=by
  intro n
  rw[w5]
  constructor
  ·rintro⟨⟨s,hs,e⟩,ho⟩
   exact⟨s,(hiff s).2 ⟨hs,by rw[e];exact ho⟩,e⟩
  ·rintro⟨s,hs,e⟩
   have:=(hiff s).1 hs
   exact⟨⟨s,this.1,e⟩,by rw[← e];exact this.2⟩
 refine⟨w,o,va0_some w1,rfl,w2,w3,w4,o1,o2,o3,?_,?_⟩
 ·constructor
  ·intro hok
   obtain⟨s,hs⟩:=ok_tru hf hv hok
   obtain⟨m1,m2⟩:=(mem _).2 ⟨s,hs,rfl⟩
   unfold isIn at m1 m2
   unfold com
   simp only
   omega
  ·intro hle
   obtain⟨s,hs,_⟩:=(mem (com w o).1).1 (by
    unfold com at hle ⊢
    unfold isIn
    simp only at hle ⊢
    omega)
   exact tru_ok hf hv hs
 ·intro hok
  obtain⟨v,v1,v2,v3,v4,v5⟩:=bnd_iff hf hv hok hk hg
  rw[va0_some v1]
  have a1:=(mem v.1).2 ((v5 _).1 ⟨Int.le_refl _,v3⟩)
  have a2:=(mem v.2).2 ((v5 _).1 ⟨v3,Int.le_refl _⟩)
  have a3 : isIn (com w o).1 v:=(v5 _).2 ((mem _).1 (by
   unfold isIn at a1 a2 ⊢
   unfold com
   simp only
   omega))
  have a4 : isIn (com w o).2 v:=(v5 _).2 ((mem _).1 (by
   unfold isIn at a1 a2 ⊢
   unfold com
   simp only
   omega))
  have : v=(v.1,v.2):=rfl
  rw[this]
  unfold com at a3 a4 ⊢
  unfold isIn at a1 a2 a3 a4
  simp only at a3 a4
  refine Prod.ext ?_ ?_
  ·simp only
   omega
  ·simp only
   omega
end Go.Xe.TFX
