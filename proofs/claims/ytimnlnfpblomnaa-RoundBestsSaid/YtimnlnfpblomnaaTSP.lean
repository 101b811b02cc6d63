/- What the functions of the layer round come to: ProveRounding. Conditions: none. -/
import Derived.Test.YtimnlnfpblomnaaTSM
noncomputable section
namespace Go.Xe.TRX
open Go Go.Xe Go.Proofs
open Nat renaming reduceLeDiff ->qA, reduceSub ->qB, reduceAdd ->qC, reduceEqDiff ->qD, reduceLT ->qE
open Int renaming reduceNegSucc ->qF, reduceEq ->qG
open Go.Xe.V renaming seq ->sA, block ->sB, scope ->sC, skip ->sD, close ->sE
open Go.Xe renaming pth ->P
open Go.Xe.Rnd
set_option maxRecDepth 100000
set_option maxHeartbeats 3200000
set_option linter.unusedSimpArgs false
def d76 : FCode:=(.seq (.run (.go (.box 89 (tm 0)) (P 3)::
.go (.move (.con (.bool false))) (P 6)::
[])) (.seq (.draw 19 (.go (.loadN 8 (tm 3)) (P 7)::
.go (.move (tm 2)) (P 8)::
.go (.call (.con (.func (.func 64) ⟨[]⟩ ⟨[]⟩)) [tm 8]) (P 9)::
.go (.fieldAddr 0 (tm 3)) (P 10)::
.go (.fieldAddr 1 (tm 10)) (P 11)::
.go (.load1 (tm 11)) (P 12)::
.go (.move (tm 1)) (P 13)::
.go (.indexAddr none 1 (tm 12) (tm 13)) (P 14)::
.go (.load1 (tm 14)) (P 15)::
.go (.call (.con (.func (.func 64) ⟨[]⟩ ⟨[]⟩)) [tm 15]) (P 16)::
.go (.call (.con (.func (.func 75) ⟨[]⟩ ⟨[]⟩)) [(tm 7),(tm 9),(tm 16)]) (P 17)::
.go (.move (tm 17)) (P 18)::
.gd (P 18) true (.fieldAddr 0 (tm 3)) (P 19)::
.gd (P 18) true (.loadN 3 (tm 19)) (P 20)::
.gd (P 18) true (.move (tm 1)) (P 21)::
.gd (P 18) true (.move (tm 2)) (P 22)::
.gd (P 18) true (.call (.con (.func (.func 86) ⟨[]⟩ ⟨[]⟩)) [(tm 20),(tm 21),(tm 22)]) (P 23)::
.go (.pick (tm 18) (tm 23) (.con (.bool false))) (P 24)::
.go (.move (tm 24)) (P 6)::
[]) [.rd none (.loadN 8 (tm 3)) (some (P 7)) [3,10],.ok,.ok,.ok,.ok,.rd none (.load1 (tm 11)) (some (P 12)) [0],.ok,.ok,.rd none (.load1 (tm 14)) (some (P 15)) [0],.ok,.ok,.ok,.ok,.ok,.ok,.ok,.ok,.ok,.ok]) .ret))
theorem de76 : @compF Try.prog (Gl.none Try.prog) Try.f76 3=.mk d76 (mkTT 25) [(P 0),(P 1),(P 2)] [.tmp (P 6)]:=by kernel_rfl
theorem dg76 : Try.prog.funcs[76]?=some Try.f76:=Try.func76
theorem do76 : okF Try.prog Try.f76=true:=by kernel_rfl
def d77 : FCode:=(.seq (.run (.go (.box 89 (tm 0)) (P 2)::
.go (.box 87 (tm 1)) (P 3)::
.go (.move (.con (.bool false))) (P 4)::
[])) (.seq (.seq (.run (.go (.loadN 4 (tm 3)) (P 7)::
.go (.move (.con (.int .i64 (.ofNat 0)))) (P 8)::
[])) (.block 0 (.loop (.seq (.run (.go (.bin .lss 3 (tm 8) (.con (.int .i64 (.ofNat 4)))) (P 9)::
[])) (.seq (.cond (tm 9) .skip (.exit 0)) (.seq (.block 1 (.seq (.run (.go (.move (tm 8)) (P 10)::
.go (.index 4 1 true (tm 7) (tm 8)) (P 11)::
.go (.move (tm 10)) (P 5)::
.go (.move (tm 11)) (P 6)::
[])) (.seq (.draw 8 (.go (.loadN 8 (tm 2)) (P 12)::
.go (.move (tm 6)) (P 13)::
.go (.move (tm 5)) (P 14)::
.go (.fieldAddr 4 (tm 2)) (P 15)::
.go (.indexAddr (some 4) 1 (tm 15) (tm 14)) (P 16)::
.go (.load1 (tm 16)) (P 17)::
.go (.call (.con (.func (.func 75) ⟨[]⟩ ⟨[]⟩)) [(tm 12),(tm 13),(tm 17)]) (P 18)::
.go (.un .not (tm 18)) (P 19)::
[]) [.ok,.ok,.ok,.ok,.ok,.ok,.ok,.ok]) (.cond (tm 19) (.seq (.run (.go (.move (.con (.bool false))) (P 4)::
[])) .ret) .skip)))) (.run (.go (.bin .add 3 (tm 8) (.con (.int .i64 (.ofNat 1)))) (P 20)::
.go (.move (tm 20)) (P 8)::
[])))))))) (.seq (.draw 8 (.go (.loadN 8 (tm 2)) (P 21)::
.go (.sliceSlow 87 (tm 3) none none) (P 22)::
.go (.call (.con (.func (.func 64) ⟨[]⟩ ⟨[]⟩)) [tm 22]) (P 23)::
.go (.fieldAddr 4 (tm 2)) (P 24)::
.go (.sliceSlow 87 (tm 24) none none) (P 25)::
.go (.call (.con (.func (.func 64) ⟨[]⟩ ⟨[]⟩)) [tm 25]) (P 26)::
.go (.call (.con (.func (.func 75) ⟨[]⟩ ⟨[]⟩)) [(tm 21),(tm 23),(tm 26)]) (P 27)::
.go (.move (tm 27)) (P 4)::
[]) [.rd none (.loadN 8 (tm 2)) (some (P 21)) [3,6],.ok,.ok,.ok,.rd none (.sliceSlow 87 (tm 24) none none) (some (P 25)) [0],.ok,.ok,.ok]) .ret)))
theorem de77 : @compF Try.prog (Gl.none Try.prog) Try.f77 2=.mk d77 (mkTT 28) [(P 0),(P 1)] [.tmp (P 4)]:=by kernel_rfl
theorem dg77 : Try.prog.funcs[77]?=some Try.f77:=Try.func77
theorem do77 : okF Try.prog Try.f77=true:=by kernel_rfl
def rd (b r n : Int) : Prop:=r=lo b n\/r=hi b n
instance (b r n : Int) : Decidable (rd b r n):=by unfold rd;infer_instance
def al (T : Tb) (r : Nat) (row : List Int) : Prop:=rd T.b (sm row) (sm (T.C.getD r []))/\kp T r row
instance (T : Tb) (r : Nat) (row : List Int) : Decidable (al T r row):=by unfold al;infer_instance
theorem gdl {l : List (List Int)} {k : Nat} (h : k<l.length) : l.getD k []=l[k]:=by
 rw[List.getD_eq_getElem?_getD,List.getElem?_eq_getElem h];rfl
theorem f76_ok {H : Heap} {c f s y : Value} {T : Tb} {d : Nat->Int} {r : Nat} {row : List Int} (h : BV H c f s T) (hy : RI H y row) (hr : r<T.C.length) (hb : 2<=T.b/\T.b<=100) (n1 : T.F.length<=1048576) (n2 : row.length<=20) (hrow : ∀ v∈row,0<=v/\v<=20000) (n3 : T.C[r].length<=20) (hC : ∀ v∈T.C[r],0<=v/\v<=20000) : Gives Try.prog 76 [.agg ⟨bl T.b c f s d⟩,I r,y] H (.bool (decide (al T r row))):=by
 obtain⟨pc,nc,cc,ec⟩:=h.t.c.isS
 obtain⟨pf,nf,cf,ef⟩:=h.t.f.isS
 obtain⟨ps,ns,cs,es⟩:=h.s.isS
 have vv : vEq 3 (.agg ⟨bl T.b c f s d⟩) (.agg ⟨bl T.b c f s d⟩)=true:=by rw[ec,ef,es];simp[vEq,vEq0,all2]
 have vc : vEq 3 c c=true:=(sl1 h.t.c.isS).2.2.1
 obtain⟨p,u,hp,hu⟩:=h.t.c.at ri hr
 have vu : vEq 3 u u=true:=(sl1 (ri.sl (hu H (.refl _)).2)).2.2.1
 have hpk:=hp .i64
 have hbC:=sm_bound (c:=20000) hC
 refine F.entryL rfl dg76 do76 de76 rfl (by kernel_rfl) ?_
 simp only[sets]
 refine V.re [(0,.agg ⟨bl T.b c f s d⟩),(1,I r),(2,y)] (N:=25) zE zY ?_
 intro t hF hA
 simp only[Kn,and_true] at hA
 refine zS ?_
 refine V.l0 ?_
 refine V.heap (λX=>Grow H X/\Bx X H.next (bl T.b c f s d) 89) ⟨?_,?_⟩ ?_
 ·exact zW
 ·exact zB
 rintro H1 ⟨g1,b1⟩
 refine zS ?_
 refine V.draw ?_
 have zf:=b1.2
 refine VD.nz 2 ?_
 simp only[ds]
 refine VD.callA zA (f64_ok (⟨ri.grow g1 hy⟩ : LS H1 y row) n2 (λv hv=>by have:=hrow v hv;omega)) zA (λH2 g2=>?_)
 have b2:=b1.grow g2
 have g12:=g1.trans g2
 have hu2:=(hu H2 g12).1
 have zf:=aI b2.2<|aI @hpk<|@hu2
 refine VD.nz 6 ?_
 simp only[ds]
 refine VD.callA zA (f64_ok (⟨(hu H2 g12).2⟩ : LS H2 u T.C[r]) n3 (λv hv=>by have:=hC v hv;omega)) zA (λH3 g3=>?_)
 have b3:=b2.grow g3
 have g13:=g12.trans g3
 refine VD.callA zA (f75_ok (n:=sm T.C[r]) (sm row) (h.grow g13) hb (by omega)) zA (λH4 g4=>?_)
 have b4:=b3.grow g4
 have g14:=g13.trans g4
 have zf:=b4.2
 refine VD.nz 5 ?_
 simp only[ds]
 first|refine VD.callGt zG (λhc=>zI) (λhc=>f86_ok (r:=r) (h.t.grow g14) (ri.grow g14 hy) n1 (by omega)) (λhc=>zI) (λH5 g5=>?_)|refine VD.callGf zG (λhc=>zI) (λhc=>f86_ok (r:=r) (h.t.grow g14) (ri.grow g14 hy) n1 (by omega)) (λhc=>zI) (λH5 g5=>?_)
 have m2:=g2.1
 have m3:=g3.1
 have m4:=g4.1
 have m5:=g5.1
 have hu1:=(hu H1 g1).1
 have hu3:=(hu H3 g13).1
 refine VD.d0 ?_ ?_ rfl ?_
 ·exact zM
 ·simp only[dcAll,dcOk,wantD,List.cons_append,List.nil_append,true_and,and_true]
  have zf:=aI b1.2<|aI b2.2<|aI b3.2<|aI @hu1<|aI @hu2<|@hu3
  exact⟨zR,zR,zR⟩
 refine zS ?_
 refine V.ret (V.rets rfl (Lv.retG (by simp +contextual (disch:=first|omega|simp only[nx];omega) only[D1,cells_alloc_at,cells_alloc_ne,cells_set_at,cells_set_ne,yres,yres1,yresL,qA,qB,qC,D5,hF,hA,↓reduceIte,qD,qE];rfl) ?_ ?_))
 ·exact g14.trans g5
 ·congr 1
  rw[decide_eq_decide]
  unfold al
  rw[gdl hr]
  exact Iff.rfl
theorem bl_at {b : Int} {c f s : Value} {d : Nat->Int} {i : Nat} (h : i<4) : (bl b c f s d)[4+i]?=some (I (d i)):=by
 rcases (show i=0\/i=1\/i=2\/i=3 by omega) with rfl|rfl|rfl|rfl<;>rfl
theorem yi4 {d : Nat->Int} {i : Nat} (h : i<4) : yindex 4 1 true (.agg ⟨Q4 d⟩) (I (i : Nat))=some (I (d i)):=by
 simp only[yindex]
 rw[if_pos ⟨by omega,by omega⟩,if_pos trivial,Int.toNat_natCast,Nat.mul_one,arr_get,Q4_at h]
theorem info3 : ∃ inf,Try.prog.info? 3=some inf/\inf.size=1:=by
 have c3 : Try.prog.cellsOf 3=1:=by kernel_rfl
 cases h3 : Try.prog.info? 3 with
 | none=>simp[Program.cellsOf,h3] at c3
 | some inf=>exact⟨inf,rfl,by simpa [Program.cellsOf,h3] using c3⟩
theorem slc87 {p o : Nat} : xslice Try.prog 87 (.pointer (some ⟨p,o,none⟩)) none none none=some (.slice (some ⟨p,o,none⟩) 4 4):=by
 obtain⟨inf,h3,hs⟩:=info3
 have e : ∀ x y : Nat,xbound none x y=some x:=λ_ _=>rfl
 unfold xslice
 simp only[Try.underlying87,h3,e]
 rw[if_neg (by omega),Nat.zero_mul,Nat.add_zero,Nat.sub_zero]
def l4 (d : Nat->Int) : List Int:=[d 0,d 1,d 2,d 3]
theorem ls_q4 {X : Heap} {p : Nat} {d : Nat->Int} {e : TypeId} (b : Bx X p (Q4 d) e) : LS X (.slice (some ⟨p,0,none⟩) 4 4) (l4 d):=
 ⟨.at b.1 b.2 (Nat.le_refl _) rfl (by simp) (λk x hx=>by simpa [Li,l4] using hx)⟩
theorem ls_bl {X : Heap} {p : Nat} {b : Int} {c f s : Value} {d : Nat->Int} {e : TypeId} (h : Bx X p (bl b c f s d) e) : LS X (.slice (some ⟨p,4,none⟩) 4 4) (l4 d):=
 ⟨.at h.1 h.2 (Nat.le_refl _) rfl (by simp) (λk x hx=>by
  have hk : k<4:=by
   have:=(List.getElem?_eq_some_iff.1 hx).1
   simpa [Li,l4] using this
  rw[arr_get,bl_at hk,<- hx]
  rcases (show k=0\/k=1\/k=2\/k=3 by omega) with rfl|rfl|rfl|rfl<;>rfl)⟩
def als (b : Int) (g d : Nat->Int) : Prop:=(∀ i,i<4->rd b (g i) (d i))/\rd b (sm (l4 g)) (sm (l4 d))
instance (b : Int) (g d : Nat->Int) : Decidable (als b g d):=by unfold als;infer_instance
theorem f77_ok {H : Heap} {c f s : Value} {T : Tb} {d g : Nat->Int} (h : BV H c f s T) (hb : 2<=T.b/\T.b<=100) (hd : ∀ i,0<=d i/\d i<=200000) (hg : ∀ i,0<=g i/\g i<=200000) : Gives Try.prog 77 [.agg ⟨bl T.b c f s d⟩,.agg ⟨Q4 g⟩] H (.bool (decide (als T.b g d))):=by
 obtain⟨pc,nc,cc,ec⟩:=h.t.c.isS
 obtain⟨pf,nf,cf,ef⟩:=h.t.f.isS
 obtain⟨ps,ns,cs,es⟩:=h.s.isS
 have vv : vEq 3 (.agg ⟨bl T.b c f s d⟩) (.agg ⟨bl T.b c f s d⟩)=true:=by rw[ec,ef,es];simp[vEq,vEq0,all2]
 refine F.entryL rfl dg77 do77 de77 rfl (by kernel_rfl) ?_
 simp only[sets]
 refine V.re [(0,.agg ⟨bl T.b c f s d⟩),(1,.agg ⟨Q4 g⟩)] (N:=28) zE zY ?_
 intro t hF hA
 simp only[Kn,and_true] at hA
 refine zS ?_
 refine V.l0 ?_
 refine V.heap (λX=>Grow H X/\Bx X H.next (bl T.b c f s d) 89/\Bx X (H.next+1) (Q4 g) 87) ⟨?_,?_,?_⟩ ?_
 ·exact zW
 ·exact zB
 ·exact zB
 rintro H1 ⟨g1,b1,c1⟩
 refine zS ?_
 have zf:=c1.2
 refine V.lz ?_
 refine zS ?_
 refine V.loop (λz t m X=>∃ (k : Nat),k<=4/\z=4-k/\m=[]/\Grow H1 X/\(∀ i,i<k->rd T.b (g i) (d i))/\Full 28 t/\Kn [(2,PT H.next),(3,PT (H.next+1)),(7,.agg ⟨Q4 g⟩),(8,I k)] t) 4 ?_ ?_
 ·exact⟨0,by omega,by omega,rfl,.refl _,λi hi=>by omega,zF,zK⟩
 clear hF hA
 rintro z t m X ⟨k,hk,rfl,rfl,hgr,hall,hF,hA⟩
 simp only[Kn,and_true] at hA
 have bX:=b1.grow hgr
 have cX:=c1.grow hgr
 have gX:=g1.trans hgr
 refine zS ?_
 refine V.l0 ?_
 refine zS ?_
 refine V.condP zP (λhlt=>?_) (λhlt=>?_)
 ·have hk4 : k<4:=by omega
  have yk:=yi4 (d:=g) hk4
  have ix : yindexAddr (some 4) 1 (.pointer (some ⟨H.next,4,none⟩)) (I (k : Nat))=some (.pointer (some ⟨H.next,4+k,none⟩)):=idx4 hk4
  have lat:=bl_at (b:=T.b) (c:=c) (f:=f) (s:=s) (d:=d) hk4
  have hdk:=hd k
  refine zS ?_
  have zf:=@yk
  refine V.lz ?_
  refine zS ?_
  refine V.draw ?_
  have zf:=bX.2
  refine VD.nz 3 ?_
  simp only[ds]
  have bX2:=bX.2
  generalize hB : bl T.b c f s d=BB at bX2 lat
  have zf:=aI @ix<|aI @bX2<|aI @lat<|@arr_get
  refine VD.nz 3 ?_
  simp only[ds]
  subst hB
  refine VD.callA zA (f75_ok (g k) (h.grow gX) hb (n:=d k) (by omega)) zA (λY gy=>?_)
  have m2:=gy.1
  refine VD.d0 ?_ ?_ rfl ?_
  ·exact zM
  ·simp only[dcAll,dcOk,wantD,List.cons_append,List.nil_append,true_and,and_true]
  refine zS ?_
  refine V.condP zP (λhno=>?_) (λhno=>?_)
  ·refine zS ?_
   refine V.l0 ?_
   refine zS ?_
   refine V.ret (V.rets rfl (Or.inr ⟨by simp,V.rets rfl (Lv.retG (by simp +contextual (disch:=first|omega|simp only[nx];omega) only[D1,cells_alloc_at,cells_alloc_ne,cells_set_at,cells_set_ne,yres,yres1,yresL,qA,qB,qC,D5,hF,hA,↓reduceIte,qD,qE];rfl) ?_ ?_)⟩))
   ·exact gX.trans gy
   ·exact congrArg _ (decide_eq_false (λhh=>hno (hh.1 k hk4))).symm
  ·refine zS ?_
   refine V.l0 ?_
   refine V.nil (Or.inl ⟨rfl,4-(k+1),by omega,?_⟩)
   refine⟨k+1,by omega,rfl,rfl,hgr.trans gy,λi hi=>?_,zF,zK⟩
   by_cases e : i=k
   ·subst e;exact Decidable.not_not.1 hno
   ·exact hall i (by omega)
 ·obtain rfl : k=4:=by omega
  have hl4 : ∀ e : Nat->Int,(∀ i,0<=e i/\e i<=200000)->∀ v∈l4 e,0<=v/\v<=1000000:=by
   intro e he v hv
   simp only[l4,List.mem_cons,List.not_mem_nil,or_false] at hv
   rcases hv with rfl|rfl|rfl|rfl
   ·have:=he 0;omega
   ·have:=he 1;omega
   ·have:=he 2;omega
   ·have:=he 3;omega
  have hsd:=sm_bound (hl4 d hd)
  have e4 : (l4 d).length=4:=rfl
  have hs4 : 0<=sm (l4 d)/\sm (l4 d)<=800000:=by
   have h0:=hd 0;have h1:=hd 1;have h2:=hd 2;have h3:=hd 3
   simp only[l4,sm];omega
  refine V.exit ?_
  refine zX ?_
  refine V.nil (Or.inr ⟨by simp,?_⟩)
  refine zX ?_
  refine zS ?_
  refine V.draw ?_
  have zf:=aI bX.2<|aI @slc87<|@om0
  refine VD.nz 2 ?_
  simp only[ds]
  refine VD.callA zA (f64_ok (ls_q4 cX) (by simp[l4]) (hl4 g hg)) zA (λY gy=>?_)
  have bY:=bX.grow gy
  have zf:=aI @slc87<|@om0
  refine VD.nz 2 ?_
  simp only[ds]
  refine VD.callA zA (f64_ok (ls_bl bY) (by simp[l4]) (hl4 d hd)) zA (λZ gz=>?_)
  have bZ:=bY.grow gz
  refine VD.callA zA (f75_ok (sm (l4 g)) (h.grow ((gX.trans gy).trans gz)) hb (n:=sm (l4 d)) (by omega)) zA (λW gw=>?_)
  have m2:=gy.1
  have m3:=gz.1
  have m4:=gw.1
  refine VD.d0 ?_ ?_ rfl ?_
  ·exact zM
  ·simp only[dcAll,dcOk,wantD,List.cons_append,List.nil_append,true_and,and_true]
   have zf:=aI bX.2<|aI bY.2<|aI bZ.2<|aI @slc87<|@om0
   exact⟨zR,zR⟩
  refine zS ?_
  refine V.ret (V.rets rfl (Lv.retG (by simp +contextual (disch:=first|omega|simp only[nx];omega) only[D1,cells_alloc_at,cells_alloc_ne,cells_set_at,cells_set_ne,yres,yres1,yresL,qA,qB,qC,D5,hF,hA,↓reduceIte,qD,qE];rfl) ?_ ?_))
  ·exact ((gX.trans gy).trans gz).trans gw
  ·congr 1
   rw[decide_eq_decide]
   exact⟨λhh=>⟨hall,hh⟩,λhh=>hh.2⟩
def isr (T : Tb) (N : List (List Int)) : Prop:=(∀ r,r<N.length->(∀ k,k<(N.getD r []).length->rd T.b ((N.getD r []).getD k 0) ((T.C.getD r []).getD k 0))/\al T r (N.getD r []))/\als T.b (due N) (due T.C)
instance (T : Tb) (N : List (List Int)) : Decidable (isr T N):=by unfold isr;infer_instance
end Go.Xe.TRX
-- MOD TR
namespace Go.Xe.TRX
open Go Go.Xe Go.Proofs
open Nat renaming reduceLeDiff ->qA, reduceSub ->qB, reduceAdd ->qC, reduceEqDiff ->qD, reduceLT ->qE
open Int renaming reduceNegSucc ->qF, reduceEq ->qG
open Go.Xe.V renaming seq ->sA, block ->sB, scope ->sC, skip ->sD, close ->sE
open Go.Xe renaming pth ->P
open Go.Xe.Rnd
set_option maxRecDepth 100000
set_option maxHeartbeats 3200000
set_option linter.unusedSimpArgs false
def prv (T : Tb) (N : List (List Int)) (q : Int) : Prop:=ce T N=0/\chg T.C N<=q/\isr T N
instance (T : Tb) (N : List (List Int)) (q : Int) : Decidable (prv T N q):=by unfold prv;infer_instance
end Go.Xe.TRX
-- MOD TR
namespace Go.Xe.TRX
open Go Go.Xe Go.Proofs
open Nat renaming reduceLeDiff ->qA, reduceSub ->qB, reduceAdd ->qC, reduceEqDiff ->qD, reduceLT ->qE
open Int renaming reduceNegSucc ->qF, reduceEq ->qG
open Go.Xe.V renaming seq ->sA, block ->sB, scope ->sC, skip ->sD, close ->sE
open Go.Xe renaming pth ->P
open Go.Xe.Rnd
set_option maxRecDepth 100000
set_option maxHeartbeats 3200000
set_option linter.unusedSimpArgs false
def d44 : FCode:=(.seq (.run (.go (.box 25 (tm 0)) (P 1)::
.go (.move (.con (.int .i64 (.ofNat 0)))) (P 2)::
[])) (.seq (.seq (.run (.go (.fieldAddr 1 (tm 1)) (P 3)::
.go (.load1 (tm 3)) (P 4)::
.go (.len 0 (tm 4)) (P 5)::
.go (.bin .eql 3 (tm 5) (.con (.int .i64 (.ofNat 0)))) (P 6)::
[])) (.cond (tm 6) (.seq (.run (.go (.move (.con (.int .i64 (.ofNat 0)))) (P 2)::
[])) .ret) .skip)) (.seq (.run (.go (.fieldAddr 1 (tm 1)) (P 7)::
.go (.load1 (tm 7)) (P 8)::
.go (.indexAddr none 1 (tm 8) (.con (.int .i64 (.ofNat 0)))) (P 9)::
.go (.load1 (tm 9)) (P 10)::
.go (.len 0 (tm 10)) (P 11)::
.go (.move (tm 11)) (P 2)::
[])) .ret)))
theorem de44 : @compF Try.prog (Gl.none Try.prog) Try.f44 1=.mk d44 (mkTT 12) [(P 0)] [.tmp (P 2)]:=by kernel_rfl
theorem dg44 : Try.prog.funcs[44]?=some Try.f44:=Try.func44
theorem do44 : okF Try.prog Try.f44=true:=by kernel_rfl
def d24 : FCode:=(.seq (.run (.go (.box 25 (tm 0)) (P 2)::
.go (.move (.con (.bool false))) (P 4)::
[])) (.seq (.seq (.run (.go (.move (.con (.int .i64 (.ofNat 0)))) (P 5)::
[])) (.block 0 (.loop (.seq (.seq (.run (.go (.move (tm 5)) (P 6)::
.go (.move (tm 1)) (P 7)::
.go (.len 0 (tm 7)) (P 8)::
.go (.bin .lss 3 (tm 6) (tm 8)) (P 9)::
[])) (.cond (tm 9) .skip (.exit 0))) (.seq (.block 1 (.seq (.draw 8 (.go (.move (tm 1)) (P 12)::
.go (.move (tm 5)) (P 13)::
.go (.indexAddr none 1 (tm 12) (tm 13)) (P 14)::
.go (.load1 (tm 14)) (P 15)::
.go (.len 0 (tm 15)) (P 16)::
.go (.loadN 3 (tm 2)) (P 17)::
.go (.call (.con (.func (.func 44) ⟨[]⟩ ⟨[]⟩)) [tm 17]) (P 18)::
.go (.bin .neq 3 (tm 16) (tm 18)) (P 19)::
[]) [.ok,.ok,.ok,.rd none (.load1 (tm 14)) (some (P 15)) [7],.rd none (.len 0 (tm 15)) (some (P 16)) [7],.ok,.ok,.ok]) (.cond (tm 19) (.seq (.run (.go (.move (.con (.bool false))) (P 4)::
[])) .ret) .skip))) (.run (.go (.move (tm 5)) (P 10)::
.go (.bin .add 3 (tm 10) (.con (.int .i64 (.ofNat 1)))) (P 11)::
.go (.move (tm 11)) (P 5)::
[]))))))) (.seq (.run (.go (.move (tm 1)) (P 20)::
.go (.len 0 (tm 20)) (P 21)::
.go (.fieldAddr 1 (tm 2)) (P 22)::
.go (.load1 (tm 22)) (P 23)::
.go (.len 0 (tm 23)) (P 24)::
.go (.bin .eql 3 (tm 21) (tm 24)) (P 25)::
.go (.move (tm 25)) (P 4)::
[])) .ret)))
theorem de24 : @compF Try.prog (Gl.none Try.prog) Try.f24 2=.mk d24 (mkTT 26) [(P 0),(P 1)] [.tmp (P 4)]:=by kernel_rfl
theorem dg24 : Try.prog.funcs[24]?=some Try.f24:=Try.func24
theorem do24 : okF Try.prog Try.f24=true:=by kernel_rfl
def d26 : FCode:=(.seq (.run (.go (.box 25 (tm 0)) (P 2)::
.go (.move (.con (.int .i64 (.ofNat 0)))) (P 4)::
[])) (.seq (.run (.go (.move (.con (.int .i64 (.ofNat 0)))) (P 5)::
[])) (.seq (.seq (.run (.go (.move (.con (.int .i64 (.ofNat 0)))) (P 6)::
[])) (.block 0 (.loop (.seq (.seq (.run (.go (.move (tm 6)) (P 8)::
.go (.move (tm 1)) (P 9)::
.go (.len 0 (tm 9)) (P 10)::
.go (.bin .lss 3 (tm 8) (tm 10)) (P 11)::
[])) (.cond (tm 11) .skip (.exit 0))) (.seq (.block 1 (.seq (.run (.go (.move (.con (.int .i64 (.ofNat 0)))) (P 7)::
[])) (.block 2 (.loop (.seq (.seq (.run (.go (.move (tm 7)) (P 14)::
.go (.move (tm 1)) (P 15)::
.go (.move (tm 6)) (P 16)::
.go (.indexAddr none 1 (tm 15) (tm 16)) (P 17)::
.go (.load1 (tm 17)) (P 18)::
.go (.len 0 (tm 18)) (P 19)::
.go (.bin .lss 3 (tm 14) (tm 19)) (P 20)::
[])) (.cond (tm 20) .skip (.exit 2))) (.seq (.block 3 (.draw 36 (.go (.move (tm 5)) (P 23)::
.go (.move (tm 1)) (P 24)::
.go (.move (tm 6)) (P 25)::
.go (.indexAddr none 1 (tm 24) (tm 25)) (P 26)::
.go (.load1 (tm 26)) (P 27)::
.go (.move (tm 7)) (P 28)::
.go (.indexAddr none 1 (tm 27) (tm 28)) (P 29)::
.go (.load1 (tm 29)) (P 30)::
.go (.fieldAddr 1 (tm 2)) (P 31)::
.go (.load1 (tm 31)) (P 32)::
.go (.move (tm 6)) (P 33)::
.go (.indexAddr none 1 (tm 32) (tm 33)) (P 34)::
.go (.load1 (tm 34)) (P 35)::
.go (.move (tm 7)) (P 36)::
.go (.indexAddr none 1 (tm 35) (tm 36)) (P 37)::
.go (.load1 (tm 37)) (P 38)::
.go (.bin .sub 3 (tm 30) (tm 38)) (P 39)::
.go (.fieldAddr 1 (tm 2)) (P 40)::
.go (.load1 (tm 40)) (P 41)::
.go (.move (tm 6)) (P 42)::
.go (.indexAddr none 1 (tm 41) (tm 42)) (P 43)::
.go (.load1 (tm 43)) (P 44)::
.go (.move (tm 7)) (P 45)::
.go (.indexAddr none 1 (tm 44) (tm 45)) (P 46)::
.go (.load1 (tm 46)) (P 47)::
.go (.move (tm 1)) (P 48)::
.go (.move (tm 6)) (P 49)::
.go (.indexAddr none 1 (tm 48) (tm 49)) (P 50)::
.go (.load1 (tm 50)) (P 51)::
.go (.move (tm 7)) (P 52)::
.go (.indexAddr none 1 (tm 51) (tm 52)) (P 53)::
.go (.load1 (tm 53)) (P 54)::
.go (.bin .sub 3 (tm 47) (tm 54)) (P 55)::
.go (.mm true [(tm 39),(tm 55)]) (P 56)::
.go (.bin .add 3 (tm 23) (tm 56)) (P 57)::
.go (.move (tm 57)) (P 5)::
[]) [.ok,.ok,.ok,.ok,.ok,.ok,.ok,.ok,.ok,.ok,.ok,.ok,.ok,.ok,.ok,.ok,.ok,.ok,.ok,.ok,.ok,.ok,.ok,.ok,.ok,.ok,.ok,.ok,.ok,.ok,.ok,.ok,.ok,.ok,.ok,.ok])) (.run (.go (.move (tm 7)) (P 21)::
.go (.bin .add 3 (tm 21) (.con (.int .i64 (.ofNat 1)))) (P 22)::
.go (.move (tm 22)) (P 7)::
[])))))))) (.run (.go (.move (tm 6)) (P 12)::
.go (.bin .add 3 (tm 12) (.con (.int .i64 (.ofNat 1)))) (P 13)::
.go (.move (tm 13)) (P 6)::
[]))))))) (.seq (.run (.go (.move (tm 5)) (P 58)::
.go (.move (tm 58)) (P 4)::
[])) .ret))))
theorem de26 : @compF Try.prog (Gl.none Try.prog) Try.f26 2=.mk d26 (mkTT 59) [(P 0),(P 1)] [.tmp (P 4)]:=by kernel_rfl
theorem dg26 : Try.prog.funcs[26]?=some Try.f26:=Try.func26
theorem do26 : okF Try.prog Try.f26=true:=by kernel_rfl
theorem f44_ok {H : Heap} {c f : Value} {T : Tb} (h : TV H c f T) : Gives Try.prog 44 [.agg ⟨[I T.b,c,f]⟩] H (I (cols T)):=by
 have hl : ∀ X,ylen 0 X c=some (I T.C.length):=h.c.len
 refine F.entryL rfl dg44 do44 de44 rfl (by kernel_rfl) ?_
 simp only[sets]
 refine V.re [(0,.agg ⟨[I T.b,c,f]⟩)] (N:=12) zE zY ?_
 intro t hF hA
 simp only[Kn,and_true] at hA
 refine zS ?_
 refine V.l0 ?_
 refine V.heap (λX=>Grow H X/\Bx X H.next [I T.b,c,f] 25) ⟨?_,?_⟩ ?_
 ·exact zW
 ·exact zB
 rintro H1 ⟨g1,b1⟩
 refine zS ?_
 have zf:=aI b1.2<|@hl
 refine V.lz ?_
 refine zS ?_
 refine V.condP zP (λh1=>?_) (λh1=>?_)
 ·refine zS ?_
  refine V.l0 ?_
  refine zS ?_
  refine V.ret (V.rets rfl (Lv.retG (by simp +contextual (disch:=first|omega|simp only[nx];omega) only[D1,cells_alloc_at,cells_alloc_ne,cells_set_at,cells_set_ne,yres,yres1,yresL,qA,qB,qC,D5,hF,hA,↓reduceIte,qD,qE];rfl) ?_ ?_))
  ·exact g1
  ·have : T.C=[]:=List.length_eq_zero_iff.1 (by omega)
   simp[cols,this]
 ·have hk : 0<T.C.length:=by omega
  obtain⟨p,x,hp,hx⟩:=h.c.at ri hk
  obtain⟨hx1,hx2⟩:=hx _ g1
  have hp0 : yindexAddr none 1 c (I 0)=some p:=hp .i64
  have hxl:=hx2.len
  refine zS ?_
  have zf:=aI b1.2<|aI @hp0<|aI @hx1<|@hxl
  refine V.lz ?_
  refine zS ?_
  refine V.ret (V.rets rfl (Lv.retG (by simp +contextual (disch:=first|omega|simp only[nx];omega) only[D1,cells_alloc_at,cells_alloc_ne,cells_set_at,cells_set_ne,yres,yres1,yresL,qA,qB,qC,D5,hF,hA,↓reduceIte,qD,qE];rfl) ?_ ?_))
  ·exact g1
  ·rw[cols_0 hk]
theorem f24_ok {H : Heap} {c f y : Value} {T : Tb} {N : List (List Int)} (h : TV H c f T) (hy : Nest RI H y N) (n1 : N.length<=1048576) : Gives Try.prog 24 [.agg ⟨[I T.b,c,f]⟩,y] H (.bool (decide ((∀ row∈N,row.length=cols T)/\N.length=T.C.length))):=by
 have hl : ∀ X,ylen 0 X c=some (I T.C.length):=h.c.len
 have hln : ∀ X,ylen 0 X y=some (I N.length):=hy.len
 refine F.entryL rfl dg24 do24 de24 rfl (by kernel_rfl) ?_
 simp only[sets]
 refine V.re [(0,.agg ⟨[I T.b,c,f]⟩),(1,y)] (N:=26) zE zY ?_
 intro t hF hA
 simp only[Kn,and_true] at hA
 refine zS ?_
 refine V.l0 ?_
 refine V.heap (λX=>Grow H X/\Bx X H.next [I T.b,c,f] 25) ⟨?_,?_⟩ ?_
 ·exact zW
 ·exact zB
 rintro H1 ⟨g1,b1⟩
 refine zS ?_
 refine V.l0 ?_
 refine zS ?_
 refine V.loop (λz t m X=>∃ (k : Nat),k<=N.length/\z=N.length-k/\m=[]/\Grow H1 X/\(∀ row∈N.take k,row.length=cols T)/\Full 26 t/\Kn [(1,y),(2,PT H.next),(5,I k)] t) N.length ?_ ?_
 ·exact⟨0,by omega,by omega,rfl,.refl _,by simp,zF,zK⟩
 clear hF hA
 rintro z t m X ⟨k,hk,rfl,rfl,hg,hall,hF,hA⟩
 simp only[Kn,and_true] at hA
 have bX:=b1.grow hg
 have gX:=g1.trans hg
 refine zS ?_
 have zf:=@hln
 refine V.lz ?_
 refine zS ?_
 refine V.condP zP (λhlt=>?_) (λhlt=>?_)
 ·have hlt' : k<N.length:=by omega
  obtain⟨p,u,hp,hu⟩:=hy.at ri hlt'
  obtain⟨hu1,hu2⟩:=hu X gX
  have hpk:=hp .i64
  have hul:=hu2.len
  have vu : vEq 3 u u=true:=(sl1 (ri.sl hu2)).2.2.1
  refine zS ?_
  refine V.draw ?_
  have zf:=aI @hpk<|aI @hu1<|aI @hul<|bX.2
  refine VD.nz 6 ?_
  simp only[ds]
  refine VD.callA zA (f44_ok (h.grow gX)) zA (λY gy=>?_)
  have hu1Y:=(hu Y (gX.trans gy)).1
  have m2:=gy.1
  refine VD.d0 ?_ ?_ rfl ?_
  ·exact zM
  ·simp only[dcAll,dcOk,wantD,List.cons_append,List.nil_append,true_and,and_true]
   have zf:=aI @hu1<|aI @hu1Y<|@hul
   exact⟨zR,zR⟩
  refine zS ?_
  refine V.condP zP (λhno=>?_) (λhno=>?_)
  ·refine zS ?_
   refine V.l0 ?_
   refine zS ?_
   refine V.ret (V.rets rfl (Or.inr ⟨by simp,V.rets rfl (Lv.retG (by simp +contextual (disch:=first|omega|simp only[nx];omega) only[D1,cells_alloc_at,cells_alloc_ne,cells_set_at,cells_set_ne,yres,yres1,yresL,qA,qB,qC,D5,hF,hA,↓reduceIte,qD,qE];rfl) ?_ ?_)⟩))
   ·exact gX.trans gy
   ·exact congrArg _ (decide_eq_false (λhh=>hno (by have:=hh.1 _ (List.getElem_mem hlt');omega))).symm
  ·refine zS ?_
   refine V.l0 ?_
   refine V.nil (Or.inl ⟨rfl,N.length-(k+1),by omega,?_⟩)
   refine⟨k+1,hlt',rfl,rfl,hg.trans gy,λrow hr=>?_,zF,zK⟩
   rw[tk1 hlt'] at hr
   rcases List.mem_append.1 hr with hr|hr
   ·exact hall row hr
   ·rw[List.mem_singleton.1 hr];omega
 ·obtain rfl : k=N.length:=by omega
  rw[List.take_length] at hall
  refine V.exit ?_
  refine zX ?_
  refine V.nil (Or.inr ⟨by simp,?_⟩)
  refine zX ?_
  refine zS ?_
  have zf:=aI @hln<|aI bX.2<|@hl
  refine V.lz ?_
  refine zS ?_
  refine V.ret (V.rets rfl (Lv.retG (by simp +contextual (disch:=first|omega|simp only[nx];omega) only[D1,cells_alloc_at,cells_alloc_ne,cells_set_at,cells_set_ne,yres,yres1,yresL,qA,qB,qC,D5,hF,hA,↓reduceIte,qD,qE];rfl) ?_ ?_))
  ·exact gX
  ·congr 1
   rw[decide_eq_decide]
   exact⟨λhh=>⟨hall,by omega⟩,λhh=>by have:=hh.2;omega⟩
theorem f26_ok {H : Heap} {c f y : Value} {T : Tb} {N : List (List Int)} (h : TV H c f T) (hy : Nest RI H y N) (hf : fits T) (hv : valid T) (hc : can T N) : Gives Try.prog 26 [.agg ⟨[I T.b,c,f]⟩,y] H (I (chg T.C N)):=by
 obtain⟨k1,k2,k3,k4,k5⟩:=can_sh hf hv hc
 have hln : ∀ X,ylen 0 X y=some (I N.length):=hy.len
 refine F.entryL rfl dg26 do26 de26 rfl (by kernel_rfl) ?_
 simp only[sets]
 refine V.re [(0,.agg ⟨[I T.b,c,f]⟩),(1,y)] (N:=59) zE zY ?_
 intro t hF hA
 simp only[Kn,and_true] at hA
 refine zS ?_
 refine V.l0 ?_
 refine V.heap (λX=>Grow H X/\Bx X H.next [I T.b,c,f] 25) ⟨?_,?_⟩ ?_
 ·exact zW
 ·exact zB
 rintro H1 ⟨g1,b1⟩
 refine zS ?_
 refine V.l0 ?_
 refine zS ?_
 refine V.l0 ?_
 refine zS ?_
 refine V.loop (λz t m X=>∃ (k : Nat),k<=N.length/\z=N.length-k/\m=[]/\X=H1/\Full 59 t/\Kn [(1,y),(2,PT H.next),(5,I (chg T.C (N.take k))),(6,I k)] t) N.length ?_ ?_
 ·refine⟨0,by omega,by omega,rfl,rfl,?_⟩
  rw[List.take_zero,chg_nil]
  exact⟨zF,zK⟩
 clear hF hA
 rintro z t m X ⟨k,hk,rfl,rfl,hX,hF,hA⟩
 obtain rfl : H1=X:=hX.symm
 simp only[Kn,and_true] at hA
 refine zS ?_
 have zf:=@hln
 refine V.lz ?_
 refine zS ?_
 refine V.condP zP (λhlt=>?_) (λhlt=>?_)
 ·have hlt' : k<N.length:=by omega
  have hltc : k<T.C.length:=by omega
  obtain⟨p,u,hp,hu⟩:=hy.at ri hlt'
  obtain⟨hu1,hu2⟩:=hu H1 g1
  have hpk:=hp .i64
  have hul:=hu2.len
  obtain⟨p',u',hp',hu'⟩:=h.c.at ri hltc
  obtain⟨hu1',hu2'⟩:=hu' H1 g1
  have hpk':=hp' .i64
  have hCk:=k3 _ (List.getElem_mem hltc)
  have hNk:=k4 _ (List.getElem_mem hlt')
  have hle:=k5 _ (List.getElem_mem hltc) _ (List.getElem_mem hlt')
  have hrl : (N[k]).length=(T.C[k]).length:=by
   have q1:=(hc.2 _ (List.getElem_mem hlt')).1
   have q2:=(hv.2.2.1 _ (List.getElem_mem hltc)).1
   omega
  have hbd:=chg_bd (A:=100*20000) (by decide) (a:=T.C) (b:=N.take k) (λr hr s hs=>by
   obtain⟨q1,q2⟩:=dist_bd (A:=20000) (by decide) (k3 r hr).2 (k4 s (List.mem_of_mem_take hs))
   have:=(k3 r hr).1
   exact⟨q1,by omega⟩)
  have hlk : (N.take k).length=k:=by rw[List.length_take];omega
  rw[hlk] at hbd
  have hcs:=chg_take hltc hlt'
  refine zS ?_
  refine V.l0 ?_
  refine zS ?_
  refine V.loop (λz t m X=>∃ (j : Nat),j<=(N[k]).length/\z=(N[k]).length-j/\m=[]/\X=H1/\Full 59 t/\Kn [(1,y),(2,PT H.next),(5,I (chg T.C (N.take k)+dist ((T.C[k]).take j) N[k])),(6,I k),(7,I j)] t) (N[k]).length ?_ ?_
  ·refine⟨0,by omega,by omega,rfl,rfl,?_⟩
   rw[List.take_zero,dist_nil,Int.add_zero]
   exact⟨zF,zK⟩
  clear hF hA
  rintro z t m X ⟨j,hj,rfl,rfl,hX,hF,hA⟩
  obtain rfl : H1=X:=hX.symm
  simp only[Kn,and_true] at hA
  refine zS ?_
  have zf:=aI @hpk<|aI @hu1<|@hul
  refine V.lz ?_
  refine zS ?_
  refine V.condP zP (λhltj=>?_) (λhltj=>?_)
  ·have hj1 : j<(N[k]).length:=by omega
   have hj2 : j<(T.C[k]).length:=by omega
   obtain⟨w,hw,hww⟩:=hu2.at hj1
   have hw1:=hww H1 (.refl _)
   obtain⟨w',hw',hww'⟩:=hu2'.at hj2
   have hw1':=hww' H1 (.refl _)
   have hds:=dist_take hj2 hj1
   have hdb:=dist_bd (by decide) (a:=(T.C[k]).take j) (λv hv=>hCk.2 v (List.mem_of_mem_take hv)) hNk
   have hlj : ((T.C[k]).take j).length=j:=by rw[List.length_take];omega
   rw[hlj] at hdb
   have b1j:=hCk.2 _ (List.getElem_mem hj2)
   have b2j:=hNk _ (List.getElem_mem hj1)
   have emx : (if (T.C[k])[j]-(N[k])[j] > (N[k])[j]-(T.C[k])[j] then (T.C[k])[j]-(N[k])[j] else (N[k])[j]-(T.C[k])[j])=max ((N[k])[j]-(T.C[k])[j]) ((T.C[k])[j]-(N[k])[j]):=by split<;>omega
   have ead : chg T.C (N.take k)+dist ((T.C[k]).take j) N[k]+max ((N[k])[j]-(T.C[k])[j]) ((T.C[k])[j]-(N[k])[j])=chg T.C (N.take k)+dist ((T.C[k]).take (j+1)) N[k]:=by rw[hds];omega
   refine zS ?_
   have zf:=aI @hpk<|aI @hu1<|aI @hw<|aI @hw1<|aI b1.2<|aI @hpk'<|aI @hu1'<|aI @hw'<|aI @hw1'<|aI @emx<|@ead
   refine V.dz ?_ ?_ rfl ?_
   ·exact zM
   ·simp only[dcAll,dcOk,wantD,List.cons_append,List.nil_append,true_and,and_true]
   refine zS ?_
   refine V.l0 ?_
   refine V.nil (Or.inl ⟨rfl,(N[k]).length-(j+1),by omega,?_⟩)
   exact⟨j+1,hj1,rfl,rfl,rfl,zF,zK⟩
  ·obtain rfl : j=(N[k]).length:=by omega
   have e1 : (T.C[k]).take (N[k]).length=T.C[k]:=List.take_of_length_le (by omega)
   rw[e1,<- hcs] at hA
   refine V.exit ?_
   refine zX ?_
   refine V.nil (Or.inr ⟨by simp,?_⟩)
   refine zX ?_
   refine zS ?_
   refine V.l0 ?_
   refine V.nil (Or.inl ⟨rfl,N.length-(k+1),by omega,?_⟩)
   exact⟨k+1,hlt',rfl,rfl,rfl,zF,zK⟩
 ·obtain rfl : k=N.length:=by omega
  rw[List.take_length] at hA
  refine V.exit ?_
  refine zX ?_
  refine V.nil (Or.inr ⟨by simp,?_⟩)
  refine zX ?_
  refine zS ?_
  refine V.l0 ?_
  refine zS ?_
  refine V.ret (V.rets rfl (Lv.retG (by simp +contextual (disch:=first|omega|simp only[nx];omega) only[D1,cells_alloc_at,cells_alloc_ne,cells_set_at,cells_set_ne,yres,yres1,yresL,qA,qB,qC,D5,hF,hA,↓reduceIte,qD,qE];rfl) ?_ ?_))
  ·exact g1
  ·rfl
end Go.Xe.TRX
end
