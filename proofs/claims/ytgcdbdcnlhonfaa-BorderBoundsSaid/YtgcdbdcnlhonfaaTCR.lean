/- BorderScaled: streets that weigh more by one factor. Conditions: none. -/
import Derived.Test.YtgcdbdcnlhonfaaTCK
import Derived.Test.YtgcdbdcnlhonfaaTCP
-- MOD TB
namespace Go.Xe.TBX
open Go Go.Xe Go.Proofs
open Nat renaming reduceLeDiff → qA, reduceSub → qB, reduceAdd → qC, reduceEqDiff → qD, reduceLT → qE
open Int renaming reduceNegSucc → qF, reduceEq → qG
open Go.Xe.V renaming seq → sA, block → sB, scope → sC, skip → sD, close → sE
open Go.Xe renaming pth → P
open Go.Xe.Rnd
open Go.Xe.Sea (adl adl_1 adl_at mem_adl pix pix_at pix_adl adl_len)
set_option maxRecDepth 100000
set_option maxHeartbeats 3200000
set_option linter.unusedSimpArgs false
section
variable {c : Int} {M : BM}
end
end Go.Xe.TBX
/- BorderSame: when each street stays in its district. Conditions: none. -/
-- MOD TB
namespace Go.Xe.TBX
open Go Go.Xe Go.Proofs
open Nat renaming reduceLeDiff → qA, reduceSub → qB, reduceAdd → qC, reduceEqDiff → qD, reduceLT → qE
open Int renaming reduceNegSucc → qF, reduceEq → qG
open Go.Xe.V renaming seq → sA, block → sB, scope → sC, skip → sD, close → sE
open Go.Xe renaming pth → P
open Go.Xe.Rnd
open Go.Xe.Sea (adl adl_1 adl_at mem_adl pix pix_at pix_adl adl_len)
set_option maxRecDepth 100000
set_option maxHeartbeats 3200000
set_option linter.unusedSimpArgs false
section
variable {M : BM}
theorem key62 {a b : Int} (ha : (Lit.int .i64 a).wf=true) (hb : (Lit.int .i64 b).wf=true) : (keyOf Try.prog 62 (.agg ⟨A2 a b⟩)).isSome=true:=by
 have c3 : Try.prog.cellsOf 3=1:=by kernel_rfl
 have c48 : Try.prog.cellsOf 62=2:=by kernel_rfl
 have h5 : (Program.keyType Try.prog 62 && (Value.agg ⟨[I a,I b]⟩).formed Try.prog 62)=true:=by kernel_rfl
 obtain⟨n,hn⟩ : ∃ n,Try.prog.types.size+1=n+2:=⟨Try.prog.types.size-1,by have : 2≤Try.prog.types.size:=Nat.le_of_ble_eq_true (by kernel_rfl);omega⟩
 unfold keyOf
 simp only[Try.underlying62]
 rw[if_pos h5,hn]
 unfold Program.keyLits
 simp only[Try.underlying62,c48]
 have e : (Value.agg ⟨[I a,I b]⟩).cells.toList=[I a,I b]:=rfl
 rw[e,if_pos ⟨rfl,by simp⟩]
 simp[c3,kl_int ha,kl_int hb]
theorem neq62 {a b c d : Int} (ha : -1000000≤a∧a≤1000000) (hb : -1000000≤b∧b≤1000000) (hc : -1000000≤c∧c≤1000000) (hd : -1000000≤d∧d≤1000000) : xbinOp Try.prog .neq 62 (.agg ⟨A2 a b⟩) (.agg ⟨A2 c d⟩)=some (.bool (decide (¬ (a=c∧b=d)))):=by
 have w1:=wf_k (x:=a) (by omega) (by omega)
 have w2:=wf_k (x:=b) (by omega) (by omega)
 have w3:=wf_k (x:=c) (by omega) (by omega)
 have w4:=wf_k (x:=d) (by omega) (by omega)
 have h1 : xbin Try.prog .neq 62 (.agg ⟨A2 a b⟩) (.agg ⟨A2 c d⟩)=none:=rfl
 have h2 : xbinStr .neq (.agg ⟨A2 a b⟩) (.agg ⟨A2 c d⟩)=none:=rfl
 have h3 : xeqNil Try.prog true 62 (.agg ⟨A2 a b⟩) (.agg ⟨A2 c d⟩)=none:=by
  unfold xeqNil
  simp only[Try.underlying62]
 have h4 : keyedB Try.prog 62=true:=by kernel_rfl
 have h5 : Try.prog.eqGuardType Try.prog.depth 62=false:=by kernel_rfl
 unfold xbinOp
 rw[h1,h2]
 simp only[h3]
 unfold xeqAgg
 simp only[Try.underlying62]
 rw[if_pos ⟨h4,rfl,rfl,key62 w1 w2,key62 w3 w4,h5⟩]
 simp[valEq,cellsEq,cellEq]
end
theorem fl_getD (l : List Int) : fl l.length (fun q=>l.getD q 0)=l:=by
 apply List.ext_getElem
 ·rw[fl_len]
 ·intro i h1 h2
  rw[fl_at]
  simp[h2]
end Go.Xe.TBX
/- What the functions of the layer border come to: what streets were given, tested. Conditions: none. -/
-- MOD TB
namespace Go.Xe.TBX
open Go Go.Xe Go.Proofs
open Nat renaming reduceLeDiff → qA, reduceSub → qB, reduceAdd → qC, reduceEqDiff → qD, reduceLT → qE
open Int renaming reduceNegSucc → qF, reduceEq → qG
open Go.Xe.V renaming seq → sA, block → sB, scope → sC, skip → sD, close → sE
open Go.Xe renaming pth → P
open Go.Xe.Rnd
open Go.Xe.Sea (adl adl_1 adl_at mem_adl pix pix_at pix_adl adl_len)
set_option maxRecDepth 100000
set_option maxHeartbeats 3200000
set_option linter.unusedSimpArgs false
noncomputable def d99 : FCode:=(.seq (.run (.go (.move (.con (.bool false))) (P 4)::
[])) (.seq (.seq (.run (.go (.move (tm 0)) (P 6)::
.go (.len 0 (tm 6)) (P 7)::
.go (.move (tm 1)) (P 8)::
.go (.len 0 (tm 8)) (P 9)::
.go (.bin .neq 3 (tm 7) (tm 9)) (P 10)::
[])) (.cond (tm 10) (.seq (.run (.go (.move (.con (.bool false))) (P 4)::
[])) .ret) .skip)) (.seq (.seq (.run (.go (.move (tm 0)) (P 11)::
.go (.len 0 (tm 11)) (P 12)::
.go (.move (.con (.int .i64 (.ofNat 0)))) (P 13)::
[])) (.block 0 (.loop (.seq (.run (.go (.bin .lss 3 (tm 13) (tm 12)) (P 14)::
[])) (.seq (.cond (tm 14) .skip (.exit 0)) (.seq (.block 1 (.seq (.run (.go (.move (tm 13)) (P 15)::
.go (.move (tm 15)) (P 5)::
[])) (.seq (.draw 9 (.go (.move (tm 0)) (P 16)::
.go (.move (tm 5)) (P 17)::
.go (.indexAddr none 1 (tm 16) (tm 17)) (P 18)::
.go (.load1 (tm 18)) (P 19)::
.go (.move (tm 1)) (P 20)::
.go (.move (tm 5)) (P 21)::
.go (.indexAddr none 1 (tm 20) (tm 21)) (P 22)::
.go (.load1 (tm 22)) (P 23)::
.go (.bin .neq 3 (tm 19) (tm 23)) (P 24)::
[]) [.ok,.ok,.ok,.ok,.ok,.ok,.ok,.ok,.ok]) (.cond (tm 24) (.seq (.run (.go (.move (.con (.bool false))) (P 4)::
[])) .ret) .skip)))) (.run (.go (.bin .add 3 (tm 13) (.con (.int .i64 (.ofNat 1)))) (P 25)::
.go (.move (tm 25)) (P 13)::
[])))))))) (.seq (.run (.go (.move (.con (.bool true))) (P 4)::
[])) .ret))))
theorem de99 : @compF Try.prog (Gl.none Try.prog) Try.f99 2=.mk d99 (mkTT 26) [(P 0),(P 1)] [.tmp (P 4)]:=by kernel_rfl
theorem dg99 : Try.prog.funcs[99]?=some Try.f99:=Try.func99
theorem do99 : okF Try.prog Try.f99=true:=by kernel_rfl
noncomputable def d64 : FCode:=(.seq (.run (.go (.box 96 (tm 0)) (P 2)::
.go (.move (.con (.bool false))) (P 4)::
[])) (.seq (.run (.go (.alloc 128 [(.int .i64 (.ofNat 0)),(.int .i64 (.ofNat 0)),(.int .i64 (.ofNat 0)),(.int .i64 (.ofNat 0))]) (P 5)::
[])) (.seq (.seq (.run (.go (.move (tm 1)) (P 8)::
.go (.len 0 (tm 8)) (P 9)::
.go (.move (.con (.int .i64 (.ofNat 0)))) (P 10)::
[])) (.block 0 (.loop (.seq (.run (.go (.bin .lss 3 (tm 10) (tm 9)) (P 11)::
[])) (.seq (.cond (tm 11) .skip (.exit 0)) (.seq (.block 1 (.seq (.run (.go (.move (tm 10)) (P 12)::
.go (.indexAddr none 1 (tm 8) (tm 10)) (P 13)::
.go (.load1 (tm 13)) (P 14)::
.go (.move (tm 12)) (P 6)::
.go (.move (tm 14)) (P 7)::
[])) (.seq (.seq (.run (.go (.fieldAddr 0 (tm 2)) (P 15)::
.go (.fieldAddr 2 (tm 15)) (P 16)::
.go (.load1 (tm 16)) (P 17)::
.go (.move (tm 6)) (P 18)::
.go (.indexAddr none 5 (tm 17) (tm 18)) (P 19)::
.go (.fieldAddr 3 (tm 19)) (P 20)::
.go (.loadN 2 (tm 20)) (P 21)::
.go (.move (tm 7)) (P 22)::
.go (.call (.con (.func (.func 85) ⟨[]⟩ ⟨[]⟩)) [(tm 21),(tm 22)]) (P 23)::
.go (.un .not (tm 23)) (P 24)::
[])) (.cond (tm 24) (.seq (.run (.go (.move (.con (.bool false))) (P 4)::
[])) .ret) .skip)) (.run (.go (.move (tm 6)) (P 25)::
.go (.fieldAddr 4 (tm 2)) (P 26)::
.go (.indexAddr (some 8) 1 (tm 26) (tm 25)) (P 27)::
.go (.load1 (tm 27)) (P 28)::
.go (.indexAddr (some 4) 1 (tm 5) (tm 28)) (P 29)::
.go (.load1 (tm 29)) (P 30)::
.go (.move (tm 7)) (P 31)::
.go (.bin .add 3 (tm 30) (tm 31)) (P 32)::
.go (.indexAddr (some 4) 1 (tm 5) (tm 28)) (P 33)::
.un (.store 1 (tm 33) (tm 32))::
[]))))) (.run (.go (.bin .add 3 (tm 10) (.con (.int .i64 (.ofNat 1)))) (P 34)::
.go (.move (tm 34)) (P 10)::
[])))))))) (.seq (.draw 10 (.go (.fieldAddr 0 (tm 2)) (P 35)::
.go (.fieldAddr 0 (tm 35)) (P 36)::
.go (.load1 (tm 36)) (P 37)::
.go (.len 0 (tm 37)) (P 38)::
.go (.sliceSlow 128 (tm 5) none (some (tm 38))) (P 39)::
.go (.fieldAddr 0 (tm 2)) (P 40)::
.go (.fieldAddr 0 (tm 40)) (P 41)::
.go (.load1 (tm 41)) (P 42)::
.go (.call (.con (.func (.func 99) ⟨[]⟩ ⟨[]⟩)) [(tm 39),(tm 42)]) (P 43)::
.go (.move (tm 43)) (P 4)::
[]) [.ok,.ok,.ok,.ok,.ok,.ok,.ok,.ok,.ok,.ok]) .ret))))
theorem de64 : @compF Try.prog (Gl.none Try.prog) Try.f64 2=.mk d64 (mkTT 44) [(P 0),(P 1)] [.tmp (P 4)]:=by kernel_rfl
theorem dg64 : Try.prog.funcs[64]?=some Try.f64:=Try.func64
theorem do64 : okF Try.prog Try.f64=true:=by kernel_rfl
noncomputable def d28 : FCode:=(.seq (.run (.go (.box 34 (tm 0)) (P 2)::
.go (.move (.con (.bool false))) (P 4)::
[])) (.seq (.run (.go (.loadN 4 (tm 2)) (P 5)::
.go (.call (.con (.func (.func 18) ⟨[]⟩ ⟨[]⟩)) [tm 5]) (P 6)::
.go (.bin .eql 29 (tm 6) (.con (.int .i64 (.ofNat 0)))) (P 7)::
.go (.move (tm 7)) (P 8)::
.gd (P 8) true (.move (tm 1)) (P 9)::
.gd (P 8) true (.len 0 (tm 9)) (P 10)::
.gd (P 8) true (.fieldAddr 2 (tm 2)) (P 11)::
.gd (P 8) true (.load1 (tm 11)) (P 12)::
.gd (P 8) true (.len 0 (tm 12)) (P 13)::
.gd (P 8) true (.bin .eql 3 (tm 10) (tm 13)) (P 14)::
.go (.pick (tm 8) (tm 14) (.con (.bool false))) (P 15)::
.go (.move (tm 15)) (P 16)::
.gd (P 16) true (.loadN 4 (tm 2)) (P 17)::
.gd (P 16) true (.call (.con (.func (.func 57) ⟨[]⟩ ⟨[]⟩)) [tm 17]) (P 18)::
.gd (P 16) true (.move (tm 1)) (P 19)::
.gd (P 16) true (.call (.con (.func (.func 64) ⟨[]⟩ ⟨[]⟩)) [(tm 18),(tm 19)]) (P 20)::
.go (.pick (tm 16) (tm 20) (.con (.bool false))) (P 21)::
.go (.move (tm 21)) (P 4)::
[])) .ret))
theorem de28 : @compF Try.prog (Gl.none Try.prog) Try.f28 2=.mk d28 (mkTT 22) [(P 0),(P 1)] [.tmp (P 4)]:=by kernel_rfl
theorem dg28 : Try.prog.funcs[28]?=some Try.f28:=Try.func28
theorem do28 : okF Try.prog Try.f28=true:=by kernel_rfl
theorem f99_ok {H : Heap} {x y : Value} {l1 l2 : List Int} (h1 : LS H x l1) (h2 : LS H y l2) (hn : l1.length≤1048576) : Gives Try.prog 99 [x,y] H (.bool (decide (l1=l2))):=by
 have hl1:=h1.len
 have hl2:=h2.len
 obtain⟨px,nx',cx,rfl⟩:=h1.s.isS
 obtain⟨py,ny',cy,rfl⟩:=h2.s.isS
 refine F.entryL rfl dg99 do99 de99 rfl (by kernel_rfl) ?_
 simp only[sets]
 refine V.re [(0,.slice px nx' cx),(1,.slice py ny' cy)] (N:=26) zE zY ?_
 intro t hF hA
 simp only[Kn,and_true] at hA
 refine zS ?_
 refine V.l0 ?_
 refine zS ?_
 have zf:=And.intro @hl1<|@hl2
 refine V.lz ?_
 refine zS ?_
 refine V.condP zP (fun hne=>?_) (fun hne=>?_)
 ·refine zS ?_
  refine V.l0 ?_
  refine zS ?_
  refine V.ret (V.rets rfl (Lv.retG (by simp +contextual (disch:=first|omega|simp only[nx];omega) only[D1,cells_alloc_at,cells_alloc_ne,cells_set_at,cells_set_ne,yres,yres1,yresL,qA,qB,qC,D5,hF,hA,↓reduceIte,qD,qE];rfl) ?_ ?_))
  ·exact zW
  ·congr 1
   exact (decide_eq_false (fun e=>hne (by rw[e]))).symm
 have hll : l1.length=l2.length:=by omega
 refine zS ?_
 have zf:=@hl1
 refine V.lz ?_
 refine zS ?_
 refine V.loop (fun z t m X=>∃ (k : Nat),k≤l1.length∧z=l1.length-k∧m=[]∧X=H∧l1.take k=l2.take k∧Full 26 t∧Kn [(0,.slice px nx' cx),(1,.slice py ny' cy),(12,I l1.length),(13,I k)] t) l1.length ?_ ?_
 ·exact⟨0,by omega,by omega,rfl,rfl,by simp,zF,zK⟩
 clear hF hA
 rintro z t m X ⟨k,hk,rfl,rfl,hX,htk,hF,hA⟩
 obtain rfl : H=X:=hX.symm
 simp only[Kn,and_true] at hA
 refine zS ?_
 refine V.l0 ?_
 refine zS ?_
 refine V.condP zP (fun hlt=>?_) (fun hlt=>?_)
 ·have hlt1 : k<l1.length:=by omega
  have hlt2 : k<l2.length:=by omega
  obtain⟨p,hp,hx⟩:=h1.at hlt1
  obtain⟨q,hq,hy⟩:=h2.at hlt2
  have hx1:=hx H (.refl _)
  have hy1:=hy H (.refl _)
  refine zS ?_
  refine V.l0 ?_
  refine zS ?_
  have zf:=And.intro @hp<|And.intro @hx1<|And.intro @hq<|@hy1
  refine V.dz ?_ ?_ rfl ?_
  ·exact zM
  ·simp only[dcAll,dcOk,wantD,List.cons_append,List.nil_append,true_and,and_true]
  refine zS ?_
  refine V.condP zP (fun hne2=>?_) (fun hne2=>?_)
  ·refine zS ?_
   refine V.l0 ?_
   refine zS ?_
   refine V.ret (V.rets rfl (Or.inr ⟨by simp,V.rets rfl (Lv.retG (by simp +contextual (disch:=first|omega|simp only[nx];omega) only[D1,cells_alloc_at,cells_alloc_ne,cells_set_at,cells_set_ne,yres,yres1,yresL,qA,qB,qC,D5,hF,hA,↓reduceIte,qD,qE];rfl) ?_ ?_)⟩))
   ·exact zW
   ·congr 1
    refine (decide_eq_false (fun e=>hne2 ?_)).symm
    subst e;rfl
  ·refine zS ?_
   refine V.l0 ?_
   refine V.nil (Or.inl ⟨rfl,l1.length-(k+1),by omega,?_⟩)
   refine⟨k+1,hlt1,rfl,rfl,rfl,?_,zF,zK⟩
   rw[tk1 hlt1,tk1 hlt2,htk,Decidable.not_not.1 hne2]
 ·obtain rfl : k=l1.length:=by omega
  refine V.exit ?_
  refine zX ?_
  refine V.nil (Or.inr ⟨by simp,?_⟩)
  refine zX ?_
  refine zS ?_
  refine V.l0 ?_
  refine zS ?_
  refine V.ret (V.rets rfl (Lv.retG (by simp +contextual (disch:=first|omega|simp only[nx];omega) only[D1,cells_alloc_at,cells_alloc_ne,cells_set_at,cells_set_ne,yres,yres1,yresL,qA,qB,qC,D5,hF,hA,↓reduceIte,qD,qE];rfl) ?_ ?_))
  ·exact zW
  ·congr 1
   refine (decide_eq_true ?_).symm
   rw[List.take_length] at htk
   rw[htk,hll,List.take_length]
def gS (M : BM) (l : List Int) (d k : Nat) : Int:=pS k (fun i=>oldF M i=d) (fun i=>l.getD i 0)
def gvn (M : BM) (l : List Int) : Prop:=(∀ i : Nat,i<M.S.length→loF M i≤l.getD i 0∧l.getD i 0≤hiF M i)∧∀ d : Nat,d<M.O.length→gS M l d M.S.length=M.O.getD d 0
instance (M : BM) (l : List Int) : Decidable (gvn M l):=@instDecidableAnd _ _ (Nat.decidableBallLT _ _) (Nat.decidableBallLT _ _)
theorem gS_1 {M : BM} {l : List Int} {d k : Nat} : gS M l d (k+1)=gS M l d k+if oldF M k=d then l.getD k 0 else 0:=pS_1
theorem fl_eq {n : Nat} {f : Nat→Int} {l : List Int} (h : l.length=n) : fl n f=l↔∀ i,i<n→f i=l.getD i 0:=by
 constructor
 ·intro e i hi
  subst h
  rw[← e]
  simp[fl,hi]
 ·intro e
  subst h
  rw[fl_cong e,fl_getD]
theorem gS_bd {M : BM} {l : List Int} {d k : Nat} (G : VM M) (hk : k≤M.S.length) (h : ∀ i : Nat,i<k→loF M i≤l.getD i 0∧l.getD i 0≤hiF M i) : 0≤gS M l d k∧gS M l d k≤80000:=by
 have:=pS_bd (n:=k) (P:=fun i=>oldF M i=d) (f:=fun i=>l.getD i 0) (c:=10000) (by omega) (fun i hi=>by
  have:=G.lh (i:=i) (by omega)
  have:=h i hi
  omega)
 have:=G.s8
 unfold gS
 omega
theorem f64_ok {H : Heap} {o s j x : Value} {M : BM} {N : Int} {mi : Nat} {l : List Int} (h : MV H o s j M) (G : VM M) (hx : LS H x l) (hn : l.length=M.S.length) : Gives Try.prog 64 [.agg ⟨ac o s j N (oldF M) (newF M) (MPm mi)⟩,x] H (.bool (decide (gvn M l))):=by
 have hlo:=h.o.len
 have hlx:=hx.len
 have hS8:=G.s8
 have hO4:=G.o4
 obtain⟨po,no,co,rfl⟩:=h.o.s.isS
 obtain⟨ps,ns,cs,rfl⟩:=h.s.isS
 obtain⟨pj,nj,cj,rfl⟩:=h.j.isS
 obtain⟨px,nx',cx,rfl⟩:=hx.s.isS
 refine F.entryL rfl dg64 do64 de64 rfl (by kernel_rfl) ?_
 simp only[sets]
 refine V.re [(0,.agg ⟨ac (.slice po no co) (.slice ps ns cs) (.slice pj nj cj) N (oldF M) (newF M) (MPm mi)⟩),(1,.slice px nx' cx)] (N:=44) zE zY ?_
 intro t hF hA
 simp only[Kn,and_true] at hA
 refine zS ?_
 refine V.l0 ?_
 refine zS ?_
 refine V.l0 ?_
 refine V.heap (fun X=>Grow H X∧Bx X H.next (ac (.slice po no co) (.slice ps ns cs) (.slice pj nj cj) N (oldF M) (newF M) (MPm mi)) 96∧Bx X (H.next+1) (n4 fun d : Nat=>gS M l d 0) 128) ⟨?_,?_,?_⟩ ?_
 ·exact zW
 ·exact zB
 ·have e : n4 (fun d : Nat=>gS M l d 0)=n4 fun _=>0:=rfl
  rw[e,← n4_0];exact zB
 rintro H1 ⟨g1,b1,c1⟩
 refine zS ?_
 have zf:=@hlx
 refine V.lz ?_
 refine zS ?_
 refine V.loop (fun z t mm X=>∃ (k : Nat),k≤l.length∧z=l.length-k∧mm=[]∧Grow H X∧Bx X H.next (ac (.slice po no co) (.slice ps ns cs) (.slice pj nj cj) N (oldF M) (newF M) (MPm mi)) 96∧Bx X (H.next+1) (n4 fun d : Nat=>gS M l d k) 128∧(∀ i : Nat,i<k→loF M i≤l.getD i 0∧l.getD i 0≤hiF M i)∧Full 44 t∧Kn [(2,PT H.next),(5,PT (H.next+1)),(8,.slice px nx' cx),(9,I l.length),(10,I k)] t) l.length ?_ ?_
 ·exact⟨0,by omega,by omega,rfl,g1,b1,c1,(fun i hi=>absurd hi (by omega)),zF,zK⟩
 clear hF hA g1 b1 c1
 rintro z t mm X ⟨k,hk,rfl,rfl,gX,bX,cX,hall,hF,hA⟩
 simp only[Kn,and_true] at hA
 refine zS ?_
 refine V.l0 ?_
 refine zS ?_
 refine V.condP zP (fun hlt=>?_) (fun hlt=>?_)
 ·have hlt' : k<l.length:=by omega
  have hlt2 : k<M.S.length:=by omega
  obtain⟨lp,lp1,lp2⟩:=hx.at hlt'
  have lp3:=lp2 X gX
  have eg : l[k]=l.getD k 0:=gD hlt'
  obtain⟨y,hy⟩ : ∃ y,y=l.getD k 0:=⟨_,rfl⟩
  rw[eg,← hy] at lp3
  obtain⟨si,so',s1,s2⟩:=h.s.at hlt2
  have s3:=(s2 X gX).2.2.2.2.2.2
  rw[← loF_at hlt2,← hiF_at hlt2] at s3
  refine zS ?_
  have zf:=And.intro @lp1<|@lp3
  refine V.lz ?_
  refine zS ?_
  refine V.run ?_
  have zf:=And.intro bX.2<|And.intro @AC<|And.intro @s1<|@s3
  refine VI.sz 8 ?_
  simp only[ds]
  refine VI.callA rfl (f85_ok (loF M k) (hiF M k) y X) zA (fun X2 g2=>?_)
  have bX2:=bX.grow g2
  have cX2:=cX.grow g2
  have gX2:=gX.trans g2
  refine VI.l0 ?_
  refine zS ?_
  refine V.condP zP (fun hbad=>?_) (fun hbad=>?_)
  ·refine zS ?_
   refine V.l0 ?_
   refine zS ?_
   refine V.ret (V.rets rfl (Or.inr ⟨by simp,V.rets rfl (Lv.retG (by simp +contextual (disch:=first|omega|simp only[nx];omega) only[D1,cells_alloc_at,cells_alloc_ne,cells_set_at,cells_set_ne,yres,yres1,yresL,qA,qB,qC,D5,hF,hA,↓reduceIte,qD,qE];rfl) ?_ ?_)⟩))
   ·exact gX2
   ·congr 1
    exact (decide_eq_false (fun hg=>hbad (by rw[hy];exact hg.1 k hlt2))).symm
  have hok:=Decidable.not_not.1 hbad
  have hoF:=G.old hlt2
  obtain⟨dn,hdn⟩ : ∃ dn : Nat,oldF M k=dn:=⟨(oldF M k).toNat,by omega⟩
  have hd4 : dn<4:=by omega
  have hlh:=G.lh hlt2
  have i2:=idx_arr (len:=8) (i:=H.next) (o:=4) (kd:=.i64) (show k<8 by omega)
  have i3:=idx_arr (len:=4) (i:=H.next+1) (o:=0) (kd:=.i64) hd4
  have gg:=ac_f (o:=.slice po no co) (s:=.slice ps ns cs) (j:=.slice pj nj cj) (N:=N) (f:=oldF M) (g:=newF M) (m:=MPm mi) (show k<8 by omega)
  rw[hdn] at gg
  have gb:=gS_bd (d:=dn) G (by omega) hall
  obtain⟨fk,hfk⟩ : ∃ fk : Nat→Int,fk=fun d : Nat=>gS M l d k:=⟨_,rfl⟩
  have efk : fk dn=gS M l dn k:=by rw[hfk]
  rw[← hfk] at cX2
  rw[← efk] at gb
  have e1:=n4_get (f:=fk) hd4
  have e2:=n4_set (f:=fk) (p:=dn) (x:=fk dn+y)
  have nc:=cX2.1
  refine zS ?_
  have zf:=And.intro bX2.2<|And.intro @AC<|And.intro @i2<|And.intro @gg<|And.intro cX2.2<|And.intro @i3<|And.intro @e1<|And.intro @e2<|And.intro @n4_len<|@hd4
  refine V.lz ?_
  refine zS ?_
  refine V.l0 ?_
  refine V.nil (Or.inl ⟨rfl,l.length-(k+1),by omega,?_⟩)
  refine⟨k+1,hlt',rfl,rfl,gX2.set (by omega) _,bX2.set (by omega) _,?_,fun i hi=>?_,zF,zK⟩
  ·have e : n4 (fun d : Nat=>gS M l d (k+1))=n4 (fun i=>if i=dn then fk dn+y else fk i):=by
    refine n4_cong fun i _=>?_
    rw[gS_1,hfk]
    dsimp only
    by_cases hi : i=dn
    ·subst hi;rw[if_pos hdn,if_pos rfl,hy]
    ·rw[if_neg hi,if_neg (by rw[hdn];omega)];omega
   rw[e]
   exact Bx.put cX2.1 _ _
  ·by_cases e : i=k
   ·subst e;rw[← hy];exact hok
   ·exact hall i (by omega)
 ·obtain rfl : k=l.length:=by omega
  rw[hn] at hall cX
  have s128:=sl128 (H.next+1) M.O.length hO4
  have f99':=f99_ok (ls_cut4 cX hO4) (h.o.grow gX) (by rw[fl_len];omega)
  refine V.exit ?_
  refine zX ?_
  refine V.nil (Or.inr ⟨by simp,?_⟩)
  refine zX ?_
  refine zS ?_
  refine V.draw ?_
  have zf:=And.intro bX.2<|And.intro @AC<|And.intro @hlo<|@s128
  refine VD.nz 8 ?_
  simp only[ds]
  refine VD.callA zA (f99') zA (fun X2 g2=>?_)
  have m2:=g2.1
  refine VD.d0 ?_ ?_ rfl ?_
  ·exact zM
  ·simp only[dcAll,dcOk,wantD,List.cons_append,List.nil_append,true_and,and_true]
  refine zS ?_
  refine V.ret (V.rets rfl (Lv.retG (by simp +contextual (disch:=first|omega|simp only[nx];omega) only[D1,cells_alloc_at,cells_alloc_ne,cells_set_at,cells_set_ne,yres,yres1,yresL,qA,qB,qC,D5,hF,hA,↓reduceIte,qD,qE];rfl) ?_ ?_))
  ·exact gX.trans g2
  ·congr 1
   rw[decide_eq_decide]
   rw[fl_eq rfl]
   exact⟨fun hh=>⟨hall,hh⟩,fun hh=>hh.2⟩
theorem f28_ok {H : Heap} {o s j x : Value} {M : BM} {l : List Int} (h : MV H o s j M) (hx : LS H x l) : Gives Try.prog 28 [.agg ⟨mc o s j M.N⟩,x] H (.bool (decide ((fltM M=0∧(l.length : Int)=(M.S.length : Int))∧gvn M l))):=by
 have hl:=h.s.len
 have hlx:=hx.len
 obtain⟨po,no,co,rfl⟩:=h.o.s.isS
 obtain⟨ps,ns,cs,rfl⟩:=h.s.isS
 obtain⟨pj,nj,cj,rfl⟩:=h.j.isS
 obtain⟨px,nx',cx,rfl⟩:=hx.s.isS
 refine F.entryL rfl dg28 do28 de28 rfl (by kernel_rfl) ?_
 simp only[sets]
 refine V.re [(0,.agg ⟨mc (.slice po no co) (.slice ps ns cs) (.slice pj nj cj) M.N⟩),(1,.slice px nx' cx)] (N:=22) zE zY ?_
 intro t hF hA
 simp only[Kn,and_true] at hA
 refine zS ?_
 refine V.l0 ?_
 refine V.heap (fun X=>Grow H X∧Bx X H.next (mc (.slice po no co) (.slice ps ns cs) (.slice pj nj cj) M.N) 34) ⟨?_,?_⟩ ?_
 ·exact zW
 ·exact zB
 rintro H1 ⟨g1,b1⟩
 refine zS ?_
 refine V.run ?_
 have zf:=b1.2
 refine VI.sz 1 ?_
 simp only[ds]
 refine VI.callA rfl (f18_ok (h.grow g1)) zA (fun H2 g2=>?_)
 have b2:=b1.grow g2
 have g12:=g1.trans g2
 by_cases hc : fltM M=0∧(l.length : Int)=(M.S.length : Int)
 ·obtain⟨hf1,hf2⟩:=fltM_0.1 hc.1
  have G:=VM.of hf1 hf2
  have hj20:=G.j20
  have h0:=eq_true hc.1
  have hle:=eq_true hc.2
  rw[hc.1]
  have hle0 : ((0 : Int)=0)=True:=eq_self _
  have zf:=And.intro b2.2<|And.intro @hlx<|And.intro @hl<|And.intro @hle<|@hle0
  refine VI.sz 9 ?_
  simp only[ds]
  have zf:=And.intro b2.2<|And.intro @hlx<|And.intro @hl<|And.intro @hle<|@hle0
  refine VI.sz 2 ?_
  simp only[ds]
  refine VI.callRT zG zA (f57_ok (h.grow g12) G.s8 G.j (by omega)) zA (fun w3 H3 ⟨g3,mi,hw3,mp⟩=>?_)
  subst hw3
  have g13:=g12.trans g3
  refine VI.s0 1 ?_
  simp only[ds]
  refine VI.callAT zG rfl (f64_ok (h.grow g13) G (hx.grow g13) (by have:=hc.2;omega)) zA (fun H4 g4=>?_)
  refine VI.l0 ?_
  refine zS ?_
  refine V.ret (V.rets rfl (Lv.retG (by simp +contextual (disch:=first|omega|simp only[nx];omega) only[D1,cells_alloc_at,cells_alloc_ne,cells_set_at,cells_set_ne,yres,yres1,yresL,qA,qB,qC,D5,hF,hA,↓reduceIte,qD,qE];rfl) ?_ ?_))
  ·exact g13.trans g4
  ·congr 1
   rw[decide_eq_decide]
   exact⟨fun k=>⟨⟨trivial,hc.2⟩,k⟩,fun k=>k.2⟩
 ·have hd : decide ((fltM M=0∧(l.length : Int)=(M.S.length : Int))∧gvn M l)=false:=decide_eq_false (fun k=>hc k.1)
  rw[hd]
  by_cases hf : fltM M=0
  ·have hle : ((l.length : Int)=(M.S.length : Int))=False:=eq_false (fun k=>hc ⟨hf,k⟩)
   have hle0 : ((0 : Int)=0)=True:=eq_self _
   rw[hf]
   have zf:=And.intro b2.2<|And.intro @hlx<|And.intro @hl<|And.intro @hle<|@hle0
   refine VI.sz 9 ?_
   simp only[ds]
   have zf:=And.intro b2.2<|And.intro @hlx<|And.intro @hl<|And.intro @hle<|@hle0
   refine VI.sz 2 ?_
   simp only[ds]
   refine VI.gdF zG ?_
   refine VI.s0 1 ?_
   simp only[ds]
   refine VI.gdF zG ?_
   refine VI.l0 ?_
   refine zS ?_
   refine V.ret (V.rets rfl (Lv.retG (by simp +contextual (disch:=first|omega|simp only[nx];omega) only[D1,cells_alloc_at,cells_alloc_ne,cells_set_at,cells_set_ne,yres,yres1,yresL,qA,qB,qC,D5,hF,hA,↓reduceIte,qD,qE];rfl) ?_ ?_))
   ·exact g12
   ·rfl
  ·have hff : (fltM M=0)=False:=eq_false hf
   have zf:=And.intro b2.2<|@hff
   refine VI.sz 9 ?_
   simp only[ds]
   have zf:=And.intro b2.2<|@hff
   refine VI.sz 2 ?_
   simp only[ds]
   refine VI.gdF zG ?_
   refine VI.s0 1 ?_
   simp only[ds]
   refine VI.gdF zG ?_
   refine VI.l0 ?_
   refine zS ?_
   refine V.ret (V.rets rfl (Lv.retG (by simp +contextual (disch:=first|omega|simp only[nx];omega) only[D1,cells_alloc_at,cells_alloc_ne,cells_set_at,cells_set_ne,yres,yres1,yresL,qA,qB,qC,D5,hF,hA,↓reduceIte,qD,qE];rfl) ?_ ?_))
   ·exact g12
   ·rfl
end Go.Xe.TBX
