/- What the functions of the layer round come to: ProveRounding. Conditions: none. -/
import Derived.Test.YtimnlnfpblomnaaTSM
-- MOD TR
namespace Go.Xe.TRX
open Go Go.Xe Go.Proofs
open Nat renaming reduceLeDiff → qA, reduceSub → qB, reduceAdd → qC, reduceEqDiff → qD, reduceLT → qE
open Int renaming reduceNegSucc → qF, reduceEq → qG
open Go.Xe.V renaming seq → sA, block → sB, scope → sC, skip → sD, close → sE
open Go.Xe renaming pth → P
open Go.Xe.Rnd
set_option maxRecDepth 100000
set_option maxHeartbeats 3200000
set_option linter.unusedSimpArgs false
noncomputable def d76 : FCode:=(.seq (.run (.go (.box 89 (tm 0)) (P 3)::
.go (.move (.con (.bool false))) (P 6)::
[])) (.seq (.draw 19 (.go (.loadN 8 (tm 3)) (P 7)::
.go (.move (tm 2)) (P 8)::
.go (.call (.con (.func (.func 64) ⟨[]⟩ ⟨[]⟩)) [tm 8]) (P 9)::
.go (.fieldAddr 0 (tm 3)) (P 10)::
.go (.fieldAddr 1 (tm 10)) (P 11)::
.go (.load1 (tm 11)) (P 12)::
.go (.move (tm 1)) (P 13)::
.go (.indexAddr none 1 (tm 12) (tm 13)) (P 14)::
.go (.load1 (tm 14)) (P 15)::
.go (.call (.con (.func (.func 64) ⟨[]⟩ ⟨[]⟩)) [tm 15]) (P 16)::
.go (.call (.con (.func (.func 75) ⟨[]⟩ ⟨[]⟩)) [(tm 7),(tm 9),(tm 16)]) (P 17)::
.go (.move (tm 17)) (P 18)::
.gd (P 18) true (.fieldAddr 0 (tm 3)) (P 19)::
.gd (P 18) true (.loadN 3 (tm 19)) (P 20)::
.gd (P 18) true (.move (tm 1)) (P 21)::
.gd (P 18) true (.move (tm 2)) (P 22)::
.gd (P 18) true (.call (.con (.func (.func 86) ⟨[]⟩ ⟨[]⟩)) [(tm 20),(tm 21),(tm 22)]) (P 23)::
.go (.pick (tm 18) (tm 23) (.con (.bool false))) (P 24)::
.go (.move (tm 24)) (P 6)::
[]) [.rd none (.loadN 8 (tm 3)) (some (P 7)) [3,10],.ok,.ok,.ok,.ok,.rd none (.load1 (tm 11)) (some (P 12)) [0],.ok,.ok,.rd none (.load1 (tm 14)) (some (P 15)) [0],.ok,.ok,.ok,.ok,.ok,.ok,.ok,.ok,.ok,.ok]) .ret))
theorem de76 : @compF Try.prog (Gl.none Try.prog) Try.f76 3=.mk d76 (mkTT 25) [(P 0),(P 1),(P 2)] [.tmp (P 6)]:=by kernel_rfl
theorem dg76 : Try.prog.funcs[76]?=some Try.f76:=Try.func76
theorem do76 : okF Try.prog Try.f76=true:=by kernel_rfl
noncomputable def d77 : FCode:=(.seq (.run (.go (.box 89 (tm 0)) (P 2)::
.go (.box 87 (tm 1)) (P 3)::
.go (.move (.con (.bool false))) (P 4)::
[])) (.seq (.seq (.run (.go (.loadN 4 (tm 3)) (P 7)::
.go (.move (.con (.int .i64 (.ofNat 0)))) (P 8)::
[])) (.block 0 (.loop (.seq (.run (.go (.bin .lss 3 (tm 8) (.con (.int .i64 (.ofNat 4)))) (P 9)::
[])) (.seq (.cond (tm 9) .skip (.exit 0)) (.seq (.block 1 (.seq (.run (.go (.move (tm 8)) (P 10)::
.go (.index 4 1 true (tm 7) (tm 8)) (P 11)::
.go (.move (tm 10)) (P 5)::
.go (.move (tm 11)) (P 6)::
[])) (.seq (.draw 8 (.go (.loadN 8 (tm 2)) (P 12)::
.go (.move (tm 6)) (P 13)::
.go (.move (tm 5)) (P 14)::
.go (.fieldAddr 4 (tm 2)) (P 15)::
.go (.indexAddr (some 4) 1 (tm 15) (tm 14)) (P 16)::
.go (.load1 (tm 16)) (P 17)::
.go (.call (.con (.func (.func 75) ⟨[]⟩ ⟨[]⟩)) [(tm 12),(tm 13),(tm 17)]) (P 18)::
.go (.un .not (tm 18)) (P 19)::
[]) [.ok,.ok,.ok,.ok,.ok,.ok,.ok,.ok]) (.cond (tm 19) (.seq (.run (.go (.move (.con (.bool false))) (P 4)::
[])) .ret) .skip)))) (.run (.go (.bin .add 3 (tm 8) (.con (.int .i64 (.ofNat 1)))) (P 20)::
.go (.move (tm 20)) (P 8)::
[])))))))) (.seq (.draw 8 (.go (.loadN 8 (tm 2)) (P 21)::
.go (.sliceSlow 87 (tm 3) none none) (P 22)::
.go (.call (.con (.func (.func 64) ⟨[]⟩ ⟨[]⟩)) [tm 22]) (P 23)::
.go (.fieldAddr 4 (tm 2)) (P 24)::
.go (.sliceSlow 87 (tm 24) none none) (P 25)::
.go (.call (.con (.func (.func 64) ⟨[]⟩ ⟨[]⟩)) [tm 25]) (P 26)::
.go (.call (.con (.func (.func 75) ⟨[]⟩ ⟨[]⟩)) [(tm 21),(tm 23),(tm 26)]) (P 27)::
.go (.move (tm 27)) (P 4)::
[]) [.rd none (.loadN 8 (tm 2)) (some (P 21)) [3,6],.ok,.ok,.ok,.rd none (.sliceSlow 87 (tm 24) none none) (some (P 25)) [0],.ok,.ok,.ok]) .ret)))
theorem de77 : @compF Try.prog (Gl.none Try.prog) Try.f77 2=.mk d77 (mkTT 28) [(P 0),(P 1)] [.tmp (P 4)]:=by kernel_rfl
theorem dg77 : Try.prog.funcs[77]?=some Try.f77:=Try.func77
theorem do77 : okF Try.prog Try.f77=true:=by kernel_rfl
def rd (b r n : Int) : Prop:=r=lo b n∨r=hi b n
instance (b r n : Int) : Decidable (rd b r n):=by unfold rd;infer_instance
def al (T : Tb) (r : Nat) (row : List Int) : Prop:=rd T.b (sm row) (sm (T.C.getD r []))∧kp T r row
instance (T : Tb) (r : Nat) (row : List Int) : Decidable (al T r row):=by unfold al;infer_instance
theorem gdl {l : List (List Int)} {k : Nat} (h : k<l.length) : l.getD k []=l[k]:=by
 rw[List.getD_eq_getElem?_getD,List.getElem?_eq_getElem h];rfl
theorem f76_ok {H : Heap} {c f s y : Value} {T : Tb} {d : Nat→Int} {r : Nat} {row : List Int} (h : BV H c f s T) (hy : RI H y row) (hr : r<T.C.length) (hb : 2≤T.b∧T.b≤100) (n1 : T.F.length≤1048576) (n2 : row.length≤20) (hrow : ∀ v∈row,0≤v∧v≤20000) (n3 : T.C[r].length≤20) (hC : ∀ v∈T.C[r],0≤v∧v≤20000) : Gives Try.prog 76 [.agg ⟨bl T.b c f s d⟩,I r,y] H (.bool (decide (al T r row))):=by
 obtain⟨pc,nc,cc,ec⟩:=h.t.c.isS
 obtain⟨pf,nf,cf,ef⟩:=h.t.f.isS
 obtain⟨ps,ns,cs,es⟩:=h.s.isS
 have vv : vEq 3 (.agg ⟨bl T.b c f s d⟩) (.agg ⟨bl T.b c f s d⟩)=true:=by rw[ec,ef,es];simp[vEq,vEq0,all2]
 have vc : vEq 3 c c=true:=(sl1 h.t.c.isS).2.2.1
 obtain⟨p,u,hp,hu⟩:=h.t.c.at ri hr
 have vu : vEq 3 u u=true:=(sl1 (ri.sl (hu H (.refl _)).2)).2.2.1
 have hpk:=hp .i64
 have hbC:=sm_bound (c:=20000) hC
 refine F.entryL rfl dg76 do76 de76 rfl (by kernel_rfl) ?_
 simp only[sets]
 refine V.re [(0,.agg ⟨bl T.b c f s d⟩),(1,I r),(2,y)] (N:=25) zE zY ?_
 intro t hF hA
 simp only[Kn,and_true] at hA
 refine zS ?_
 refine V.l0 ?_
 refine V.heap (fun X=>Grow H X∧Bx X H.next (bl T.b c f s d) 89) ⟨?_,?_⟩ ?_
 ·exact zW
 ·exact zB
 rintro H1 ⟨g1,b1⟩
 refine zS ?_
 refine V.draw ?_
 have zf:=b1.2
 refine VD.nz 2 ?_
 simp only[ds]
 refine VD.callA zA (f64_ok (⟨ri.grow g1 hy⟩ : LS H1 y row) n2 (fun v hv=>by have:=hrow v hv;omega)) zA (fun H2 g2=>?_)
 have b2:=b1.grow g2
 have g12:=g1.trans g2
 have hu2:=(hu H2 g12).1
 have zf:=And.intro b2.2<|And.intro @hpk<|@hu2
 refine VD.nz 6 ?_
 simp only[ds]
 refine VD.callA zA (f64_ok (⟨(hu H2 g12).2⟩ : LS H2 u T.C[r]) n3 (fun v hv=>by have:=hC v hv;omega)) zA (fun H3 g3=>?_)
 have b3:=b2.grow g3
 have g13:=g12.trans g3
 refine VD.callA zA (f75_ok (n:=sm T.C[r]) (sm row) (h.grow g13) hb (by omega)) zA (fun H4 g4=>?_)
 have b4:=b3.grow g4
 have g14:=g13.trans g4
 have zf:=b4.2
 refine VD.nz 5 ?_
 simp only[ds]
 first|refine VD.callGt zG (fun hc=>zI) (fun hc=>f86_ok (r:=r) (h.t.grow g14) (ri.grow g14 hy) n1 (by omega)) (fun hc=>zI) (fun H5 g5=>?_)|refine VD.callGf zG (fun hc=>zI) (fun hc=>f86_ok (r:=r) (h.t.grow g14) (ri.grow g14 hy) n1 (by omega)) (fun hc=>zI) (fun H5 g5=>?_)
 have m2:=g2.1
 have m3:=g3.1
 have m4:=g4.1
 have m5:=g5.1
 have hu1:=(hu H1 g1).1
 have hu3:=(hu H3 g13).1
 refine VD.d0 ?_ ?_ rfl ?_
 ·exact zM
 ·simp only[dcAll,dcOk,wantD,List.cons_append,List.nil_append,true_and,and_true]
  have zf:=And.intro b1.2<|And.intro b2.2<|And.intro b3.2<|And.intro @hu1<|And.intro @hu2<|@hu3
  exact⟨zR,zR,zR⟩
 refine zS ?_
 refine V.ret (V.rets rfl (Lv.retG (by simp +contextual (disch:=first|omega|simp only[nx];omega) only[D1,cells_alloc_at,cells_alloc_ne,cells_set_at,cells_set_ne,yres,yres1,yresL,qA,qB,qC,D5,hF,hA,↓reduceIte,qD,qE];rfl) ?_ ?_))
 ·exact g14.trans g5
 ·congr 1
  rw[decide_eq_decide]
  unfold al
  rw[gdl hr]
  exact Iff.rfl
theorem bl_at {b : Int} {c f s : Value} {d : Nat→Int} {i : Nat} (h : i<4) : (bl b c f s d)[4+i]?=some (I (d i)):=by
 rcases (show i=0∨i=1∨i=2∨i=3 by omega) with rfl|rfl|rfl|rfl<;>rfl
theorem yi4 {d : Nat→Int} {i : Nat} (h : i<4) : yindex 4 1 true (.agg ⟨Q4 d⟩) (I (i : Nat))=some (I (d i)):=by
 simp only[yindex]
 rw[if_pos ⟨by omega,by omega⟩,if_pos trivial,Int.toNat_natCast,Nat.mul_one,arr_get,Q4_at h]
theorem info3 : ∃ inf,Try.prog.info? 3=some inf∧inf.size=1:=by
 have c3 : Try.prog.cellsOf 3=1:=by kernel_rfl
 cases h3 : Try.prog.info? 3 with
 | none=>simp[Program.cellsOf,h3] at c3
 | some inf=>exact⟨inf,rfl,by simpa [Program.cellsOf,h3] using c3⟩
theorem slc87 {p o : Nat} : xslice Try.prog 87 (.pointer (some ⟨p,o,none⟩)) none none none=some (.slice (some ⟨p,o,none⟩) 4 4):=by
 obtain⟨inf,h3,hs⟩:=info3
 have e : ∀ x y : Nat,xbound none x y=some x:=fun _ _=>rfl
 unfold xslice
 simp only[Try.underlying87,h3,e]
 rw[if_neg (by omega),Nat.zero_mul,Nat.add_zero,Nat.sub_zero]
def l4 (d : Nat→Int) : List Int:=[d 0,d 1,d 2,d 3]
theorem ls_q4 {X : Heap} {p : Nat} {d : Nat→Int} {e : TypeId} (b : Bx X p (Q4 d) e) : LS X (.slice (some ⟨p,0,none⟩) 4 4) (l4 d):=
 ⟨.at b.1 b.2 (Nat.le_refl _) rfl (by simp) (fun k x hx=>by simpa [Li,l4] using hx)⟩
theorem ls_bl {X : Heap} {p : Nat} {b : Int} {c f s : Value} {d : Nat→Int} {e : TypeId} (h : Bx X p (bl b c f s d) e) : LS X (.slice (some ⟨p,4,none⟩) 4 4) (l4 d):=
 ⟨.at h.1 h.2 (Nat.le_refl _) rfl (by simp) (fun k x hx=>by
  have hk : k<4:=by
   have:=(List.getElem?_eq_some_iff.1 hx).1
   simpa [Li,l4] using this
  rw[arr_get,bl_at hk,← hx]
  rcases (show k=0∨k=1∨k=2∨k=3 by omega) with rfl|rfl|rfl|rfl<;>rfl)⟩
def als (b : Int) (g d : Nat→Int) : Prop:=(∀ i,i<4→rd b (g i) (d i))∧rd b (sm (l4 g)) (sm (l4 d))
instance (b : Int) (g d : Nat→Int) : Decidable (als b g d):=by unfold als;infer_instance
theorem f77_ok {H : Heap} {c f s : Value} {T : Tb} {d g : Nat→Int} (h : BV H c f s T) (hb : 2≤T.b∧T.b≤100) (hd : ∀ i,0≤d i∧d i≤200000) (hg : ∀ i,0≤g i∧g i≤200000) : Gives Try.prog 77 [.agg ⟨bl T.b c f s d⟩,.agg ⟨Q4 g⟩] H (.bool (decide (als T.b g d))):=by
 obtain⟨pc,nc,cc,ec⟩:=h.t.c.isS
 obtain⟨pf,nf,cf,ef⟩:=h.t.f.isS
 obtain⟨ps,ns,cs,es⟩:=h.s.isS
 have vv : vEq 3 (.agg ⟨bl T.b c f s d⟩) (.agg ⟨bl T.b c f s d⟩)=true:=by rw[ec,ef,es];simp[vEq,vEq0,all2]
 refine F.entryL rfl dg77 do77 de77 rfl (by kernel_rfl) ?_
 simp only[sets]
 refine V.re [(0,.agg ⟨bl T.b c f s d⟩),(1,.agg ⟨Q4 g⟩)] (N:=28) zE zY ?_
 intro t hF hA
 simp only[Kn,and_true] at hA
 refine zS ?_
 refine V.l0 ?_
 refine V.heap (fun X=>Grow H X∧Bx X H.next (bl T.b c f s d) 89∧Bx X (H.next+1) (Q4 g) 87) ⟨?_,?_,?_⟩ ?_
 ·exact zW
 ·exact zB
 ·exact zB
 rintro H1 ⟨g1,b1,c1⟩
 refine zS ?_
 have zf:=c1.2
 refine V.lz ?_
 refine zS ?_
 refine V.loop (fun z t m X=>∃ (k : Nat),k≤4∧z=4-k∧m=[]∧Grow H1 X∧(∀ i,i<k→rd T.b (g i) (d i))∧Full 28 t∧Kn [(2,PT H.next),(3,PT (H.next+1)),(7,.agg ⟨Q4 g⟩),(8,I k)] t) 4 ?_ ?_
 ·exact⟨0,by omega,by omega,rfl,.refl _,fun i hi=>by omega,zF,zK⟩
 clear hF hA
 rintro z t m X ⟨k,hk,rfl,rfl,hgr,hall,hF,hA⟩
 simp only[Kn,and_true] at hA
 have bX:=b1.grow hgr
 have cX:=c1.grow hgr
 have gX:=g1.trans hgr
 refine zS ?_
 refine V.l0 ?_
 refine zS ?_
 refine V.condP zP (fun hlt=>?_) (fun hlt=>?_)
 ·have hk4 : k<4:=by omega
  have yk:=yi4 (d:=g) hk4
  have ix : yindexAddr (some 4) 1 (.pointer (some ⟨H.next,4,none⟩)) (I (k : Nat))=some (.pointer (some ⟨H.next,4+k,none⟩)):=idx4 hk4
  have lat:=bl_at (b:=T.b) (c:=c) (f:=f) (s:=s) (d:=d) hk4
  have hdk:=hd k
  refine zS ?_
  have zf:=@yk
  refine V.lz ?_
  refine zS ?_
  refine V.draw ?_
  have zf:=bX.2
  refine VD.nz 3 ?_
  simp only[ds]
  have bX2:=bX.2
  generalize hB : bl T.b c f s d=BB at bX2 lat
  have zf:=And.intro @ix<|And.intro @bX2<|And.intro @lat<|@arr_get
  refine VD.nz 3 ?_
  simp only[ds]
  subst hB
  refine VD.callA zA (f75_ok (g k) (h.grow gX) hb (n:=d k) (by omega)) zA (fun Y gy=>?_)
  have m2:=gy.1
  refine VD.d0 ?_ ?_ rfl ?_
  ·exact zM
  ·simp only[dcAll,dcOk,wantD,List.cons_append,List.nil_append,true_and,and_true]
  refine zS ?_
  refine V.condP zP (fun hno=>?_) (fun hno=>?_)
  ·refine zS ?_
   refine V.l0 ?_
   refine zS ?_
   refine V.ret (V.rets rfl (Or.inr ⟨by simp,V.rets rfl (Lv.retG (by simp +contextual (disch:=first|omega|simp only[nx];omega) only[D1,cells_alloc_at,cells_alloc_ne,cells_set_at,cells_set_ne,yres,yres1,yresL,qA,qB,qC,D5,hF,hA,↓reduceIte,qD,qE];rfl) ?_ ?_)⟩))
   ·exact gX.trans gy
   ·exact congrArg _ (decide_eq_false (fun hh=>hno (hh.1 k hk4))).symm
  ·refine zS ?_
   refine V.l0 ?_
   refine V.nil (Or.inl ⟨rfl,4-(k+1),by omega,?_⟩)
   refine⟨k+1,by omega,rfl,rfl,hgr.trans gy,fun i hi=>?_,zF,zK⟩
   by_cases e : i=k
   ·subst e;exact Decidable.not_not.1 hno
   ·exact hall i (by omega)
 ·obtain rfl : k=4:=by omega
  have hl4 : ∀ e : Nat→Int,(∀ i,0≤e i∧e i≤200000)→∀ v∈l4 e,0≤v∧v≤1000000:=by
   intro e he v hv
   simp only[l4,List.mem_cons,List.not_mem_nil,or_false] at hv
   rcases hv with rfl|rfl|rfl|rfl
   ·have:=he 0;omega
   ·have:=he 1;omega
   ·have:=he 2;omega
   ·have:=he 3;omega
  have hsd:=sm_bound (hl4 d hd)
  have e4 : (l4 d).length=4:=rfl
  have hs4 : 0≤sm (l4 d)∧sm (l4 d)≤800000:=by
   have h0:=hd 0;have h1:=hd 1;have h2:=hd 2;have h3:=hd 3
   simp only[l4,sm];omega
  refine V.exit ?_
  refine zX ?_
  refine V.nil (Or.inr ⟨by simp,?_⟩)
  refine zX ?_
  refine zS ?_
  refine V.draw ?_
  have zf:=And.intro bX.2<|And.intro @slc87<|@om0
  refine VD.nz 2 ?_
  simp only[ds]
  refine VD.callA zA (f64_ok (ls_q4 cX) (by simp[l4]) (hl4 g hg)) zA (fun Y gy=>?_)
  have bY:=bX.grow gy
  have zf:=And.intro @slc87<|@om0
  refine VD.nz 2 ?_
  simp only[ds]
  refine VD.callA zA (f64_ok (ls_bl bY) (by simp[l4]) (hl4 d hd)) zA (fun Z gz=>?_)
  have bZ:=bY.grow gz
  refine VD.callA zA (f75_ok (sm (l4 g)) (h.grow ((gX.trans gy).trans gz)) hb (n:=sm (l4 d)) (by omega)) zA (fun W gw=>?_)
  have m2:=gy.1
  have m3:=gz.1
  have m4:=gw.1
  refine VD.d0 ?_ ?_ rfl ?_
  ·exact zM
  ·simp only[dcAll,dcOk,wantD,List.cons_append,List.nil_append,true_and,and_true]
   have zf:=And.intro bX.2<|And.intro bY.2<|And.intro bZ.2<|And.intro @slc87<|@om0
   exact⟨zR,zR⟩
  refine zS ?_
  refine V.ret (V.rets rfl (Lv.retG (by simp +contextual (disch:=first|omega|simp only[nx];omega) only[D1,cells_alloc_at,cells_alloc_ne,cells_set_at,cells_set_ne,yres,yres1,yresL,qA,qB,qC,D5,hF,hA,↓reduceIte,qD,qE];rfl) ?_ ?_))
  ·exact ((gX.trans gy).trans gz).trans gw
  ·congr 1
   rw[decide_eq_decide]
   exact⟨fun hh=>⟨hall,hh⟩,fun hh=>hh.2⟩
def isr (T : Tb) (N : List (List Int)) : Prop:=(∀ r,r<N.length→(∀ k,k<(N.getD r []).length→rd T.b ((N.getD r []).getD k 0) ((T.C.getD r []).getD k 0))∧al T r (N.getD r []))∧als T.b (due N) (due T.C)
instance (T : Tb) (N : List (List Int)) : Decidable (isr T N):=by unfold isr;infer_instance
end Go.Xe.TRX
/- What the functions of the layer round come to: ProveRounding. Conditions: none. -/
-- MOD TR
namespace Go.Xe.TRX
open Go Go.Xe Go.Proofs
open Nat renaming reduceLeDiff → qA, reduceSub → qB, reduceAdd → qC, reduceEqDiff → qD, reduceLT → qE
open Int renaming reduceNegSucc → qF, reduceEq → qG
open Go.Xe.V renaming seq → sA, block → sB, scope → sC, skip → sD, close → sE
open Go.Xe renaming pth → P
open Go.Xe.Rnd
set_option maxRecDepth 100000
set_option maxHeartbeats 3200000
set_option linter.unusedSimpArgs false
def prv (T : Tb) (N : List (List Int)) (q : Int) : Prop:=ce T N=0∧chg T.C N≤q∧isr T N
instance (T : Tb) (N : List (List Int)) (q : Int) : Decidable (prv T N q):=by unfold prv;infer_instance
end Go.Xe.TRX
/- What the functions of the layer round come to: the reference's error of a table, Alike, Change. Conditions: none. -/
-- MOD TR
namespace Go.Xe.TRX
open Go Go.Xe Go.Proofs
open Nat renaming reduceLeDiff → qA, reduceSub → qB, reduceAdd → qC, reduceEqDiff → qD, reduceLT → qE
open Int renaming reduceNegSucc → qF, reduceEq → qG
open Go.Xe.V renaming seq → sA, block → sB, scope → sC, skip → sD, close → sE
open Go.Xe renaming pth → P
open Go.Xe.Rnd
set_option maxRecDepth 100000
set_option maxHeartbeats 3200000
set_option linter.unusedSimpArgs false
noncomputable def d44 : FCode:=(.seq (.run (.go (.box 25 (tm 0)) (P 1)::
.go (.move (.con (.int .i64 (.ofNat 0)))) (P 2)::
[])) (.seq (.seq (.run (.go (.fieldAddr 1 (tm 1)) (P 3)::
.go (.load1 (tm 3)) (P 4)::
.go (.len 0 (tm 4)) (P 5)::
.go (.bin .eql 3 (tm 5) (.con (.int .i64 (.ofNat 0)))) (P 6)::
[])) (.cond (tm 6) (.seq (.run (.go (.move (.con (.int .i64 (.ofNat 0)))) (P 2)::
[])) .ret) .skip)) (.seq (.run (.go (.fieldAddr 1 (tm 1)) (P 7)::
.go (.load1 (tm 7)) (P 8)::
.go (.indexAddr none 1 (tm 8) (.con (.int .i64 (.ofNat 0)))) (P 9)::
.go (.load1 (tm 9)) (P 10)::
.go (.len 0 (tm 10)) (P 11)::
.go (.move (tm 11)) (P 2)::
[])) .ret)))
theorem de44 : @compF Try.prog (Gl.none Try.prog) Try.f44 1=.mk d44 (mkTT 12) [(P 0)] [.tmp (P 2)]:=by kernel_rfl
theorem dg44 : Try.prog.funcs[44]?=some Try.f44:=Try.func44
theorem do44 : okF Try.prog Try.f44=true:=by kernel_rfl
theorem f44_ok {H : Heap} {c f : Value} {T : Tb} (h : TV H c f T) : Gives Try.prog 44 [.agg ⟨[I T.b,c,f]⟩] H (I (cols T)):=by
 have hl : ∀ X,ylen 0 X c=some (I T.C.length):=h.c.len
 refine F.entryL rfl dg44 do44 de44 rfl (by kernel_rfl) ?_
 simp only[sets]
 refine V.re [(0,.agg ⟨[I T.b,c,f]⟩)] (N:=12) zE zY ?_
 intro t hF hA
 simp only[Kn,and_true] at hA
 refine zS ?_
 refine V.l0 ?_
 refine V.heap (fun X=>Grow H X∧Bx X H.next [I T.b,c,f] 25) ⟨?_,?_⟩ ?_
 ·exact zW
 ·exact zB
 rintro H1 ⟨g1,b1⟩
 refine zS ?_
 have zf:=And.intro b1.2<|@hl
 refine V.lz ?_
 refine zS ?_
 refine V.condP zP (fun h1=>?_) (fun h1=>?_)
 ·refine zS ?_
  refine V.l0 ?_
  refine zS ?_
  refine V.ret (V.rets rfl (Lv.retG (by simp +contextual (disch:=first|omega|simp only[nx];omega) only[D1,cells_alloc_at,cells_alloc_ne,cells_set_at,cells_set_ne,yres,yres1,yresL,qA,qB,qC,D5,hF,hA,↓reduceIte,qD,qE];rfl) ?_ ?_))
  ·exact g1
  ·have : T.C=[]:=List.length_eq_zero_iff.1 (by omega)
   simp[cols,this]
 ·have hk : 0<T.C.length:=by omega
  obtain⟨p,x,hp,hx⟩:=h.c.at ri hk
  obtain⟨hx1,hx2⟩:=hx _ g1
  have hp0 : yindexAddr none 1 c (I 0)=some p:=hp .i64
  have hxl:=hx2.len
  refine zS ?_
  have zf:=And.intro b1.2<|And.intro @hp0<|And.intro @hx1<|@hxl
  refine V.lz ?_
  refine zS ?_
  refine V.ret (V.rets rfl (Lv.retG (by simp +contextual (disch:=first|omega|simp only[nx];omega) only[D1,cells_alloc_at,cells_alloc_ne,cells_set_at,cells_set_ne,yres,yres1,yresL,qA,qB,qC,D5,hF,hA,↓reduceIte,qD,qE];rfl) ?_ ?_))
  ·exact g1
  ·rw[cols_0 hk]
end Go.Xe.TRX
