/- What the functions of the layer round come to: the table of neighbours with a number. Conditions: none. -/
import Derived.Test.YtimnlnfpblomnaaTTJ
noncomputable section
namespace Go.Xe.TRX
open Go Go.Xe Go.Proofs
open Nat renaming reduceLeDiff ->qA, reduceSub ->qB, reduceAdd ->qC, reduceEqDiff ->qD, reduceLT ->qE
open Int renaming reduceNegSucc ->qF, reduceEq ->qG
open Go.Xe.V renaming seq ->sA, block ->sB, scope ->sC, skip ->sD, close ->sE
open Go.Xe renaming pth ->P
open Go.Xe.Rnd
set_option maxRecDepth 100000
set_option maxHeartbeats 1600000
set_option linter.unusedSimpArgs false
def d57 : FCode:=(.seq (.run (.go (.box 25 (tm 0)) (P 2)::
.go (.move (.con (.slice none 0 0))) (P 4)::
[])) (.seq (.run (.go (.fieldAddr 1 (tm 2)) (P 9)::
.go (.load1 (tm 9)) (P 10)::
.go (.len 0 (tm 10)) (P 11)::
.go (.makeSlice 41 1 24 [(.slice none 0 0)] (tm 11) (tm 11)) (P 12)::
.go (.move (tm 12)) (P 5)::
[])) (.seq (.seq (.run (.go (.fieldAddr 1 (tm 2)) (P 13)::
.go (.load1 (tm 13)) (P 14)::
.go (.len 0 (tm 14)) (P 15)::
.go (.bin .sub 3 (tm 15) (.con (.int .i64 (.ofNat 1)))) (P 16)::
.go (.move (tm 16)) (P 6)::
[])) (.block 0 (.loop (.seq (.seq (.run (.go (.move (tm 6)) (P 17)::
.go (.bin .geq 3 (tm 17) (.con (.int .i64 (.ofNat 0)))) (P 18)::
[])) (.cond (tm 18) .skip (.exit 0))) (.seq (.block 1 (.seq (.run (.go (.move (tm 5)) (P 21)::
.go (.move (tm 6)) (P 22)::
.go (.fieldAddr 1 (tm 2)) (P 23)::
.go (.load1 (tm 23)) (P 24)::
.go (.move (tm 6)) (P 25)::
.go (.indexAddr none 1 (tm 24) (tm 25)) (P 26)::
.go (.load1 (tm 26)) (P 27)::
.go (.len 0 (tm 27)) (P 28)::
.go (.makeSlice 3 1 8 [(.int .i64 (.ofNat 0))] (tm 28) (tm 28)) (P 29)::
.go (.indexAddr none 1 (tm 21) (tm 22)) (P 30)::
.un (.store 1 (tm 30) (tm 29))::
[])) (.seq (.run (.go (.fieldAddr 1 (tm 2)) (P 31)::
.go (.load1 (tm 31)) (P 32)::
.go (.move (tm 6)) (P 33)::
.go (.indexAddr none 1 (tm 32) (tm 33)) (P 34)::
.go (.load1 (tm 34)) (P 35)::
.go (.len 0 (tm 35)) (P 36)::
.go (.bin .sub 3 (tm 36) (.con (.int .i64 (.ofNat 1)))) (P 37)::
.go (.move (tm 37)) (P 7)::
[])) (.block 2 (.loop (.seq (.seq (.run (.go (.move (tm 7)) (P 38)::
.go (.bin .geq 3 (tm 38) (.con (.int .i64 (.ofNat 0)))) (P 39)::
[])) (.cond (tm 39) .skip (.exit 2))) (.seq (.block 3 (.seq (.run (.go (.fieldAddr 1 (tm 2)) (P 42)::
.go (.load1 (tm 42)) (P 43)::
.go (.move (tm 6)) (P 44)::
.go (.indexAddr none 1 (tm 43) (tm 44)) (P 45)::
.go (.load1 (tm 45)) (P 46)::
.go (.move (tm 7)) (P 47)::
.go (.indexAddr none 1 (tm 46) (tm 47)) (P 48)::
.go (.load1 (tm 48)) (P 49)::
.go (.move (tm 49)) (P 8)::
[])) (.seq (.draw 13 (.go (.move (tm 5)) (P 50)::
.go (.move (tm 6)) (P 51)::
.go (.indexAddr none 1 (tm 50) (tm 51)) (P 52)::
.go (.load1 (tm 52)) (P 53)::
.go (.move (tm 7)) (P 54)::
.go (.move (tm 8)) (P 55)::
.go (.move (tm 8)) (P 56)::
.go (.fieldAddr 0 (tm 2)) (P 57)::
.go (.load1 (tm 57)) (P 58)::
.go (.bin .rem 3 (tm 56) (tm 58)) (P 59)::
.go (.bin .sub 3 (tm 55) (tm 59)) (P 60)::
.go (.indexAddr none 1 (tm 53) (tm 54)) (P 61)::
.un (.store 1 (tm 61) (tm 60))::
[]) [.ok,.ok,.ok,.ok,.ok,.ok,.ok,.ok,.ok,.ok,.ok,.ok,.ok]) (.seq (.run (.go (.move (tm 8)) (P 62)::
.go (.fieldAddr 0 (tm 2)) (P 63)::
.go (.load1 (tm 63)) (P 64)::
.go (.bin .rem 3 (tm 62) (tm 64)) (P 65)::
.go (.bin .gtr 3 (tm 65) (.con (.int .i64 (.ofNat 0)))) (P 66)::
[])) (.cond (tm 66) (.seq (.draw 15 (.go (.move (tm 5)) (P 67)::
.go (.move (tm 6)) (P 68)::
.go (.indexAddr none 1 (tm 67) (tm 68)) (P 69)::
.go (.load1 (tm 69)) (P 70)::
.go (.move (tm 7)) (P 71)::
.go (.indexAddr none 1 (tm 70) (tm 71)) (P 72)::
.go (.load1 (tm 72)) (P 73)::
.go (.move (tm 1)) (P 74)::
.go (.bin .rem 3 (tm 74) (.con (.int .i64 (.ofNat 2)))) (P 75)::
.go (.fieldAddr 0 (tm 2)) (P 76)::
.go (.load1 (tm 76)) (P 77)::
.go (.bin .mul 3 (tm 75) (tm 77)) (P 78)::
.go (.bin .add 3 (tm 73) (tm 78)) (P 79)::
.go (.indexAddr none 1 (tm 70) (tm 71)) (P 80)::
.un (.store 1 (tm 80) (tm 79))::
[]) [.ok,.ok,.ok,.ok,.ok,.ok,.ok,.ok,.ok,.ok,.ok,.ok,.ok,.ok,.ok]) (.run (.go (.move (tm 1)) (P 81)::
.go (.bin .quo 3 (tm 81) (.con (.int .i64 (.ofNat 2)))) (P 82)::
.go (.move (tm 82)) (P 1)::
[]))) .skip))))) (.run (.go (.move (tm 7)) (P 40)::
.go (.bin .sub 3 (tm 40) (.con (.int .i64 (.ofNat 1)))) (P 41)::
.go (.move (tm 41)) (P 7)::
[]))))))))) (.run (.go (.move (tm 6)) (P 19)::
.go (.bin .sub 3 (tm 19) (.con (.int .i64 (.ofNat 1)))) (P 20)::
.go (.move (tm 20)) (P 6)::
[]))))))) (.seq (.run (.go (.move (tm 5)) (P 83)::
.go (.move (tm 83)) (P 4)::
[])) .ret))))
theorem de57 : @compF Try.prog (Gl.none Try.prog) Try.f57 2=.mk d57 (mkTT 84) [(P 0),(P 1)] [.tmp (P 4)]:=by kernel_rfl
theorem dg57 : Try.prog.funcs[57]?=some Try.f57:=Try.func57
theorem do57 : okF Try.prog Try.f57=true:=by kernel_rfl
def cN (b n q : Int) : Int:=if 0<n.tmod b then lo b n+q.tmod 2*b else lo b n
def nN (b n q : Int) : Int:=if 0<n.tmod b then q.tdiv 2 else q
def rowN (b : Int) : List Int->Int->List Int×Int
 | [],q=>([],q)
 | n::l,q=>(cN b n (rowN b l q).2::(rowN b l q).1,nN b n (rowN b l q).2)
def tabN (b : Int) : List (List Int)->Int->List (List Int)×Int
 | [],q=>([],q)
 | row::C,q=>((rowN b row (tabN b C q).2).1::(tabN b C q).1,(rowN b row (tabN b C q).2).2)
theorem rowN_len (b : Int) : ∀ (l : List Int) (q : Int),(rowN b l q).1.length=l.length
 | [],_=>rfl
 | n::l,q=>by
  show (rowN b l q).1.length+1=l.length+1
  rw[rowN_len b l q]
theorem tabN_len (b : Int) : ∀ (C : List (List Int)) (q : Int),(tabN b C q).1.length=C.length
 | [],_=>rfl
 | n::l,q=>by
  show (tabN b l q).1.length+1=l.length+1
  rw[tabN_len b l q]
theorem tmod2 {q : Int} (h : 0<=q) : 0<=q.tmod 2/\q.tmod 2<=1:=by
 rw[Int.tmod_eq_emod_of_nonneg h];omega
theorem tdiv2 {q : Int} (h : 0<=q) : 0<=q.tdiv 2/\q.tdiv 2<=q:=by
 rw[Int.tdiv_eq_ediv_of_nonneg h];omega
theorem rowN_q (b : Int) : ∀ (l : List Int) {q : Int},0<=q->0<=(rowN b l q).2/\(rowN b l q).2<=q
 | [],q,h=>⟨h,Int.le_refl _⟩
 | n::l,q,h=>by
  obtain⟨h1,h2⟩:=rowN_q b l h
  have:=tdiv2 h1
  show 0<=nN b n _/\nN b n _<=q
  unfold nN
  split<;>omega
theorem tabN_q (b : Int) : ∀ (C : List (List Int)) {q : Int},0<=q->0<=(tabN b C q).2/\(tabN b C q).2<=q
 | [],q,h=>⟨h,Int.le_refl _⟩
 | row::C,q,h=>by
  obtain⟨h1,h2⟩:=tabN_q b C h
  have:=rowN_q b row h1
  show 0<=(rowN b row _).2/\(rowN b row _).2<=q
  omega
theorem rowN_drop {b : Int} {l : List Int} {i : Nat} (h : i<l.length) (q : Int) : rowN b (l.drop i) q=(cN b l[i] (rowN b (l.drop (i+1)) q).2::(rowN b (l.drop (i+1)) q).1,nN b l[i] (rowN b (l.drop (i+1)) q).2):=by
 rw[List.drop_eq_getElem_cons h];rfl
theorem tabN_drop {b : Int} {C : List (List Int)} {i : Nat} (h : i<C.length) (q : Int) : tabN b (C.drop i) q=((rowN b C[i] (tabN b (C.drop (i+1)) q).2).1::(tabN b (C.drop (i+1)) q).1,(rowN b C[i] (tabN b (C.drop (i+1)) q).2).2):=by
 rw[List.drop_eq_getElem_cons h];rfl
theorem mk_rows (H : Heap) (k : Nat) (hk : k<=1048576) : ymakeSlice 41 24 [.slice none 0 0] H (I k) (I k)=some (.slice (some ⟨H.next,0,none⟩) k k,H.alloc (.cells ⟨List.replicate k (.slice none 0 0)⟩ 41 true)):=by
 have e48 : (2 : Nat) ^ 48=281474976710656:=by decide
 have ez : zeros ⟨[.slice none 0 0]⟩ ((k : Int).toNat*[Value.slice none 0 0].length)=⟨List.replicate k (.slice none 0 0)⟩:=by
  apply Array.toList_inj.1
  simp only[zeros,Array.toList_map,Array.toList_range,List.length_cons,List.length_nil]
  apply List.ext_getElem
  ·simp
  ·intro j h1 h2
   simp[Nat.mod_one]
 simp only[ymakeSlice]
 rw[if_pos ⟨by omega,by omega,by omega,by omega⟩,ez]
 simp
def cl (l : List Int) : Nat×List Value:=(l.length,Li l)
def rN (b : Int) (C : List (List Int)) (q : Int) (j : Nat) : List (Nat×List Value):=List.replicate j (0,[])++(tabN b (C.drop j) q).1.map cl
theorem rN_len {b : Int} {C : List (List Int)} {q : Int} {j : Nat} (h : j<=C.length) : (rN b C q j).length=C.length:=by
 unfold rN
 rw[List.length_append,List.length_replicate,List.length_map,tabN_len,List.length_drop];omega
theorem rep_snoc {α : Type} (j : Nat) (x : α) : List.replicate (j+1) x=List.replicate j x++[x]:=by
 rw[List.replicate_succ']
theorem rN_set {b : Int} {C : List (List Int)} {q : Int} {r : Nat} (h : r<C.length) : (rN b C q (r+1)).set r (cl (rowN b C[r] (tabN b (C.drop (r+1)) q).2).1)=rN b C q r:=by
 unfold rN
 rw[tabN_drop h,rep_snoc,List.append_assoc,List.set_append_right _ _ (by simp),List.length_replicate,Nat.sub_self]
 rfl
theorem Li_app (a b : List Int) : Li (a++b)=Li a++Li b:=by simp[Li]
def wN (b : Int) (l : List Int) (q : Int) (i : Nat) : List Int:=List.replicate i 0++(rowN b (l.drop i) q).1
theorem wN_len {b : Int} {l : List Int} {q : Int} {i : Nat} (h : i<=l.length) : (wN b l q i).length=l.length:=by
 unfold wN
 rw[List.length_append,List.length_replicate,rowN_len,List.length_drop];omega
theorem wN_set {b : Int} {l : List Int} {q : Int} {i : Nat} (h : i<l.length) : (Li (wN b l q (i+1))).set i (I (cN b l[i] (rowN b (l.drop (i+1)) q).2))=Li (wN b l q i):=by
 unfold wN
 rw[rowN_drop h,rep_snoc,List.append_assoc,Li_app,Li_app,Li_app,List.set_append_right _ _ (by simp[Li]),Li_len,List.length_replicate,Nat.sub_self]
 rfl
theorem wN_end {b : Int} {l : List Int} {q : Int} : wN b l q l.length=List.replicate l.length 0:=by
 unfold wN;rw[List.drop_length];simp[rowN]
theorem wN_0 {b : Int} {l : List Int} {q : Int} : wN b l q 0=(rowN b l q).1:=rfl
theorem f57_ok {H : Heap} {c f : Value} {T : Tb} {q0 : Int} (h : TV H c f T) (hf : fits T) (hv : valid T) (hq : 0<=q0/\q0<=1000000000000) : F Try.prog 57 ⟨[.agg ⟨[I T.b,c,f]⟩,I q0]⟩ H (λw X=>Grow H X/\Bst (λi=>H.next<=i) X w (tabN T.b T.C q0).1):=by
 have hcl : ∀ X,ylen 0 X c=some (I T.C.length):=h.c.len
 have hC5:=hf.1
 have hb:=hv.1
 refine F.entryL rfl dg57 do57 de57 rfl (by kernel_rfl) ?_
 simp only[sets]
 refine V.re [(0,.agg ⟨[I T.b,c,f]⟩),(1,I q0)] (N:=84) zE zY ?_
 intro t hF hA
 simp only[Kn,and_true] at hA
 refine zS ?_
 refine V.l0 ?_
 refine V.heap (λX=>Grow H X/\Bx X H.next [I T.b,c,f] 25) ⟨?_,?_⟩ ?_
 ·exact zW
 ·exact zB
 rintro H1 ⟨g1,b1⟩
 have n1:=b1.1
 have mks:=mk_rows H1 T.C.length (by omega)
 refine zS ?_
 have zf:=aI b1.2<|aI @hcl<|@mks
 refine V.lz ?_
 refine V.heap (λX=>Grow H1 X/\Bx X H1.next (List.replicate T.C.length (.slice none 0 0)) 41) ⟨?_,?_⟩ ?_
 ·exact zW
 ·exact zB
 rintro H2 ⟨g2,o2⟩
 have n2:=o2.1
 have b2:=b1.grow g2
 have g12:=g1.trans g2
 refine zS ?_
 have zf:=aI b2.2<|@hcl
 refine V.lz ?_
 refine zS ?_
 refine V.loop (λz t m X=>∃ (j : Nat) (col : Nat->Nat) (vs : List Value),j<=T.C.length/\z=j/\m=[]/\GrowS (·=H1.next) H2 X/\Bx X H1.next vs 41/\Rws H2.next col (λk=>k) X 3 vs (rN T.b T.C q0 j)/\Full 84 t/\Kn [(1,I (tabN T.b (T.C.drop j) q0).2),(2,PT H.next),(5,.slice (some ⟨H1.next,0,none⟩) T.C.length T.C.length),(6,I ((j : Int)-1))] t) T.C.length ?_ ?_
 ·refine⟨T.C.length,λ_=>0,_,by omega,rfl,rfl,.refl _,o2,⟨by rw[rN_len (Nat.le_refl _)];simp,λk x r hx hr=>?_⟩,?_⟩
  ·have e : rN T.b T.C q0 T.C.length=List.replicate T.C.length (0,[]):=by unfold rN;rw[List.drop_length];simp[tabN]
   rw[e] at hr
   have h1:=List.eq_of_mem_replicate (List.mem_of_getElem? hx)
   have h2:=List.eq_of_mem_replicate (List.mem_of_getElem? hr)
   subst h1;subst h2
   exact .nil
  ·rw[List.drop_length]
   exact⟨zF,zK⟩
 clear hF hA
 rintro z t m X ⟨j,col,vs,hj,hz,rfl,hg,ho,hr,hF,hA⟩
 simp only[Kn,and_true] at hA
 have hvl : vs.length=T.C.length:=by rw[hr.1,rN_len hj]
 refine zS ?_
 refine V.l0 ?_
 refine zS ?_
 refine V.condP zP (λhge=>?_) (λhge=>?_)
 ·obtain⟨r,rfl⟩ : ∃ r,j=r+1:=⟨j-1,by omega⟩
  have e1 : ((r+1 : Nat) : Int)-1=(r : Int):=by omega
  rw[e1] at hA
  have hr' : r<T.C.length:=by omega
  have bX:=b2.growS hg (by omega)
  have gHX : Grow H X:=⟨by have:=g12.1;have:=hg.1;omega,λi hi=>by rw[hg.2 i (by omega) (by omega),g12.2 i hi]⟩
  obtain⟨p,u,hp,hu⟩:=h.c.at ri hr'
  have hpk:=hp .i64
  obtain⟨hu1,hu2⟩:=hu X gHX
  have hul:=hu2.len
  have hrow:=hv.2.2.1 _ (List.getElem_mem hr')
  have hrow4:=hf.2.2 _ (List.getElem_mem hr')
  obtain⟨l,hl⟩ : ∃ l,l=T.C[r]:=⟨_,rfl⟩
  rw[<- hl] at hul hrow hrow4 hu
  have mkr:=mk_row X l.length (by omega)
  have ix:=own_idx (y:=H1.next) (n:=T.C.length) (c:=T.C.length) hr'
  have hov : r<vs.length:=by omega
  have hqt:=tabN_q T.b (T.C.drop (r+1)) hq.1
  obtain⟨q1,hq1⟩ : ∃ q1,q1=(tabN T.b (T.C.drop (r+1)) q0).2:=⟨_,rfl⟩
  rw[<- hq1] at hA hqt
  have mX:=hg.1
  have oc:=ho.2
  have hoX:=ho.1
  refine zS ?_
  have zf:=aI bX.2<|aI @hpk<|aI @hu1<|aI @hul<|aI @mkr<|aI @ix<|aI @oc<|@hov
  refine V.lz ?_
  obtain⟨vs1,hvs1⟩ : ∃ vs1,vs1=vs.set r (.slice (some ⟨X.next,0,none⟩) l.length l.length):=⟨_,rfl⟩
  obtain⟨L,hL⟩ : ∃ L,L=rN T.b T.C q0 (r+1):=⟨_,rfl⟩
  rw[<- hL] at hr
  have hLl : L.length=T.C.length:=by rw[hL];exact rN_len hj
  have hv1r : vs1[r]?=some (.slice (some ⟨X.next,0,none⟩) l.length l.length):=by rw[hvs1,List.getElem?_set_self (by omega)]
  refine V.heap (λY=>GrowS (·=H1.next) H2 Y/\Bx Y H1.next vs1 41/\Rws H2.next (pnt col X.next r) (λk=>k) Y 3 vs1 (L.set r (l.length,Li (wN T.b l q1 l.length)))) ⟨?_,?_,?_⟩ ?_
  ·exact (hg.alloc _).set (.inl rfl) _
  ·rw[hvs1]
   exact⟨by simp only[Heap.next_set,Heap.next_alloc];omega,cells_set _ _ _ _ _⟩
  ·refine Rws.put ?_ (by omega) _
   rw[hvs1]
   have st : St H2.next (·=r) col X (pnt col X.next r) (X.alloc (.cells ⟨Li (List.replicate l.length 0)⟩ 3 true)):=⟨by simp only[Heap.next_alloc];omega,λi hi=>pnt_ne (by omega),λi hi _=>by rw[Heap.get_alloc,if_neg (by omega)]⟩
   refine hr.upd (k:=r) st (λj hj=>hj) ?_
   rw[wN_end]
   exact .inr ⟨X.next,by omega,Nat.lt_succ_self _,pnt_at _ _,rfl,cells_alloc _ _ _ _⟩
  clear hg ho hr oc hoX
  rintro Y0 ⟨hg0,ho0,hr0⟩
  have b0:=b2.growS hg0 (by omega)
  have gH0 : Grow H Y0:=⟨by have:=g12.1;have:=hg0.1;omega,λi hi=>by rw[hg0.2 i (by omega) (by omega),g12.2 i hi]⟩
  obtain⟨hu10,hu20⟩:=hu Y0 gH0
  refine zS ?_
  have zf:=aI b0.2<|aI @hpk<|aI @hu10<|@hul
  refine V.lz ?_
  refine zS ?_
  refine V.loop (λz t m Y=>∃ (i : Nat),i<=l.length/\z=i/\m=[]/\GrowS (·=H1.next) H2 Y/\Bx Y H1.next vs1 41/\Rws H2.next (pnt col X.next r) (λk=>k) Y 3 vs1 (L.set r (l.length,Li (wN T.b l q1 i)))/\Full 84 t/\Kn [(1,I (rowN T.b (l.drop i) q1).2),(2,PT H.next),(5,.slice (some ⟨H1.next,0,none⟩) T.C.length T.C.length),(6,I r),(7,I ((i : Int)-1))] t) l.length ?_ ?_
  ·refine⟨l.length,Nat.le_refl _,rfl,rfl,hg0,ho0,hr0,?_⟩
   rw[List.drop_length]
   exact⟨zF,zK⟩
  clear hF hA
  rintro z t m Y ⟨i,hi,hz2,rfl,hg,ho,hr,hF,hA⟩
  simp only[Kn,and_true] at hA
  refine zS ?_
  refine V.l0 ?_
  refine zS ?_
  refine V.condP zP (λhge2=>?_) (λhge2=>?_)
  ·obtain⟨i',rfl⟩ : ∃ i',i=i'+1:=⟨i-1,by omega⟩
   have e2 : ((i'+1 : Nat) : Int)-1=(i' : Int):=by omega
   rw[e2] at hA
   have hi' : i'<l.length:=by omega
   have bY:=b2.growS hg (by omega)
   have gHY : Grow H Y:=⟨by have:=g12.1;have:=hg.1;omega,λi hi=>by rw[hg.2 i (by omega) (by omega),g12.2 i hi]⟩
   obtain⟨hv1,hv2⟩:=hu Y gHY
   obtain⟨w,hw,hww⟩:=hv2.at hi'
   have hw1:=hww Y (.refl _)
   have hcb:=hrow.2 _ (List.getElem_mem hi')
   have hqr:=rowN_q T.b (l.drop (i'+1)) hqt.1
   obtain⟨q,hqq⟩ : ∃ q,q=(rowN T.b (l.drop (i'+1)) q1).2:=⟨_,rfl⟩
   rw[<- hqq] at hA hqr
   have ht2:=tmod2 hqr.1
   have hd2:=tdiv2 hqr.1
   have htb:=tmb (a:=l[i']) (b:=T.b) hcb.1 (by omega)
   have hLr : (L.set r (l.length,Li (wN T.b l q1 (i'+1))))[r]'(by rw[List.length_set];omega)=(l.length,Li (wN T.b l q1 (i'+1))):=List.getElem_set_self _
   obtain⟨x,hx,hox⟩:=hr.at (k:=r) (by rw[List.length_set];omega)
   rw[hv1r,Option.some.injEq] at hx
   subst hx
   rw[hLr] at hox
   simp only at hox
   have hwl:=wN_len (b:=T.b) (l:=l) (q:=q1) (i:=i'+1) hi
   obtain⟨bk,ebk,s1,s2,s3,s4,s5⟩:=hox.set1 (i:=i') (x:=I (lo T.b l[i'])) (by rw[Li_len];omega)
   obtain rfl : X.next=bk:=by
    simp only[Value.slice.injEq,Option.some.injEq,Addr.mk.injEq] at ebk
    exact ebk.1.1
   have hr1:=hr.upd s5 (λj hj=>hj) s4
   have evs : vs1.set r (.slice (some ⟨X.next,0,none⟩) l.length l.length)=vs1:=by
    apply List.ext_getElem?
    intro n
    by_cases hn : n=r
    ·subst hn;rw[List.getElem?_set_self (by rw[hvs1,List.length_set];omega),hv1r]
    ·rw[List.getElem?_set_ne (Ne.symm hn)]
   rw[evs,List.set_set] at hr1
   have ix2:=own_idx (y:=X.next) (n:=l.length) (c:=l.length) hi'
   have elo : l[i']-l[i'].tmod T.b=lo T.b l[i']:=rfl
   have hol:=ho.2
   have hil : i'<(Li (wN T.b l q1 (i'+1))).length:=by rw[Li_len];omega
   refine zS ?_
   have zf:=aI bY.2<|aI @hpk<|aI @hv1<|aI @hw<|@hw1
   refine V.lz ?_
   refine zS ?_
   have zf:=aI bY.2<|aI @ix<|aI @hol<|aI @hv1r<|aI @arr_get<|aI @ix2<|aI @s3<|aI @hil<|@elo
   refine V.dz ?_ ?_ rfl ?_
   ·exact zM
   ·simp only[dcAll,dcOk,wantD,List.cons_append,List.nil_append,true_and,and_true]
   obtain⟨Y1,hY1⟩ : ∃ Y1,Y1=Y.set X.next (.cells ⟨(Li (wN T.b l q1 (i'+1))).set i' (I (lo T.b l[i']))⟩ 3 true):=⟨_,rfl⟩
   refine V.heap (λZ=>GrowS (·=H1.next) H2 Z/\Bx Z H1.next vs1 41/\Rws H2.next (pnt col X.next r) (λk=>k) Z 3 vs1 (L.set r (l.length,(Li (wN T.b l q1 (i'+1))).set i' (I (lo T.b l[i']))))) ⟨?_,?_,?_⟩ ?_
   ·exact hg.set (.inr (by omega)) _
   ·exact ho.set (by omega) _
   ·exact hr1
   rintro Z ⟨hgZ,hoZ,hrZ⟩
   have bZ:=b2.growS hgZ (by omega)
   have ecn : cN T.b l[i'] q=if 0<l[i'].tmod T.b then lo T.b l[i']+q.tmod 2*T.b else lo T.b l[i']:=rfl
   have enn : nN T.b l[i'] q=if 0<l[i'].tmod T.b then q.tdiv 2 else q:=rfl
   have eset:=wN_set (b:=T.b) (l:=l) (q:=q1) hi'
   rw[<- hqq] at eset
   have ern : (rowN T.b (l.drop i') q1).2=nN T.b l[i'] q:=by rw[rowN_drop hi',<- hqq]
   refine zS ?_
   have zf:=bZ.2
   refine V.lz ?_
   refine zS ?_
   refine V.condP zP (λhpos=>?_) (λhpos=>?_)
   ·have hpos' : 0<l[i'].tmod T.b:=by omega
    rw[if_pos hpos'] at ecn enn
    have hlb:=lo_bd (n:=l[i']) hb (by omega)
    have hmb : 0<=q.tmod 2*T.b/\q.tmod 2*T.b<=100:=by
     rcases (by omega : q.tmod 2=0\/q.tmod 2=1) with e|e<;>rw[e]<;>omega
    have hLr2 : (L.set r (l.length,(Li (wN T.b l q1 (i'+1))).set i' (I (lo T.b l[i']))))[r]'(by rw[List.length_set];omega)=(l.length,(Li (wN T.b l q1 (i'+1))).set i' (I (lo T.b l[i']))):=List.getElem_set_self _
    obtain⟨x,hx,hox2⟩:=hrZ.at (k:=r) (by rw[List.length_set];omega)
    rw[hv1r,Option.some.injEq] at hx
    subst hx
    rw[hLr2] at hox2
    simp only at hox2
    obtain⟨bk,ebk,u1,u2,u3,u4,u5⟩:=hox2.set1 (i:=i') (x:=I (lo T.b l[i']+q.tmod 2*T.b)) (by rw[List.length_set];exact hil)
    obtain rfl : X.next=bk:=by
     simp only[Value.slice.injEq,Option.some.injEq,Addr.mk.injEq] at ebk
     exact ebk.1.1
    have hr2:=hrZ.upd u5 (λj hj=>hj) u4
    rw[evs] at hr2
    have ecc : ((Li (wN T.b l q1 (i'+1))).set i' (I (lo T.b l[i']))).set i' (I (lo T.b l[i']+q.tmod 2*T.b))=Li (wN T.b l q1 i'):=by rw[List.set_set,<- ecn,eset]
    have hr3:=hr2
    rw[ecc,List.set_set] at hr3
    have hoZ2:=hoZ.2
    have hat : ((Li (wN T.b l q1 (i'+1))).set i' (I (lo T.b l[i'])))[i']?=some (I (lo T.b l[i'])):=List.getElem?_set_self hil
    have hil2 : i'<((Li (wN T.b l q1 (i'+1))).set i' (I (lo T.b l[i']))).length:=by rw[List.length_set];exact hil
    refine zS ?_
    have zf:=aI bZ.2<|aI @ix<|aI @hoZ2<|aI @hv1r<|aI @arr_get<|aI @ix2<|aI @u3<|aI @hat<|@hil2
    refine V.dz ?_ ?_ rfl ?_
    ·exact zM
    ·simp only[dcAll,dcOk,wantD,List.cons_append,List.nil_append,true_and,and_true]
    refine V.heap (λZ2=>GrowS (·=H1.next) H2 Z2/\Bx Z2 H1.next vs1 41/\Rws H2.next (pnt col X.next r) (λk=>k) Z2 3 vs1 (L.set r (l.length,Li (wN T.b l q1 i')))) ⟨?_,?_,?_⟩ ?_
    ·exact hgZ.set (.inr (by omega)) _
    ·exact hoZ.set (by omega) _
    ·rw[ecc];exact hr3
    rintro Z2 ⟨hgZ2,hoZ2,hrZ2⟩
    refine zS ?_
    refine V.l0 ?_
    refine zS ?_
    refine V.l0 ?_
    refine V.nil (Or.inl ⟨rfl,i',by omega,?_⟩)
    refine⟨i',by omega,rfl,rfl,hgZ2,hoZ2,hrZ2,?_⟩
    rw[ern,enn]
    exact⟨zF,zK⟩
   ·have hpos' : ¬ 0<l[i'].tmod T.b:=by omega
    rw[if_neg hpos'] at ecn enn
    rw[<- ecn,eset] at hrZ
    refine zS ?_
    refine V.l0 ?_
    refine V.nil (Or.inl ⟨rfl,i',by omega,?_⟩)
    refine⟨i',by omega,rfl,rfl,hgZ,hoZ,hrZ,?_⟩
    rw[ern,enn]
    exact⟨zF,zK⟩
  ·obtain rfl : i=0:=by omega
   refine V.exit ?_
   refine zX ?_
   refine V.nil (Or.inr ⟨by simp,?_⟩)
   refine zX ?_
   refine zS ?_
   refine V.l0 ?_
   refine V.nil (Or.inl ⟨rfl,r,by omega,?_⟩)
   rw[wN_0] at hr
   have erl : (l.length,Li (rowN T.b l q1).1)=cl (rowN T.b T.C[r] (tabN T.b (T.C.drop (r+1)) q0).2).1:=by
    unfold cl;rw[<- hl,<- hq1,rowN_len]
   rw[erl,hL,rN_set hr'] at hr
   have etn : (tabN T.b (T.C.drop r) q0).2=(rowN T.b (l.drop 0) q1).2:=by rw[tabN_drop hr',<- hl,<- hq1];rfl
   refine⟨r,_,vs1,by omega,rfl,rfl,hg,ho,hr,?_⟩
   rw[etn]
   exact⟨zF,zK⟩
 ·obtain rfl : j=0:=by omega
  refine V.exit ?_
  refine zX ?_
  refine V.nil (Or.inr ⟨by simp,?_⟩)
  refine zX ?_
  refine zS ?_
  refine V.l0 ?_
  refine zS ?_
  refine V.ret (V.rets rfl (Lv.retF (by simp +contextual (disch:=first|omega|simp only[nx];omega) only[D1,cells_alloc_at,cells_alloc_ne,cells_set_at,cells_set_ne,yres,yres1,yresL,qA,qB,qC,D5,hF,hA,↓reduceIte,qD,qE];rfl) ?_))
  have e0 : rN T.b T.C q0 0=(tabN T.b T.C q0).1.map cl:=rfl
  rw[e0] at hr
  have hs : Sl X (.slice (some ⟨H1.next,0,none⟩) T.C.length T.C.length) vs:=by
   have:=(Ow.sl (H0:=H1) (H:=X) (e:=41) (v:=.slice (some ⟨H1.next,0,none⟩) vs.length vs.length) (l:=vs) (.inr ⟨H1.next,Nat.le_refl _,ho.1,rfl,ho.2⟩))
   rwa [hvl] at this
  refine⟨⟨by have:=g12.1;have:=hg.1;omega,λi hi=>by rw[hg.2 i (by omega) (by omega),g12.2 i hi]⟩,vs,hs,λi hi=>?_,by rw[hr.1,List.length_map],λk x l hx hl=>?_⟩
  ·simp only[blkN,Option.some.injEq] at hi
   show H.next<=i
   omega
  ·have ho:=hr.2 k x (cl l) hx (by rw[List.getElem?_map,hl];rfl)
   have ho' : Oc H2.next col k X 3 x (Li l).length (Li l):=by rw[Li_len];exact ho
   have ow:=Oc.o ho' (H0:=H2) (Nat.le_refl _)
   refine⟨ow.sl,λi hi=>?_⟩
   have:=ow.from i hi
   show H.next<=i
   omega
end Go.Xe.TRX
end
