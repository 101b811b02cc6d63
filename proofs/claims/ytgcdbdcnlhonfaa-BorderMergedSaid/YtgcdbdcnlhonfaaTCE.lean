/- What the functions of the layer border come to: a map at work. Conditions: none. -/
import Derived.Test.YtgcdbdcnlhonfaaTCC
-- MOD TB
namespace Go.Xe.TBX
open Go Go.Xe Go.Proofs
open Nat renaming reduceLeDiff → qA, reduceSub → qB, reduceAdd → qC, reduceEqDiff → qD, reduceLT → qE
open Int renaming reduceNegSucc → qF, reduceEq → qG
open Go.Xe.V renaming seq → sA, block → sB, scope → sC, skip → sD, close → sE
open Go.Xe renaming pth → P
open Go.Xe.Rnd
set_option maxRecDepth 100000
set_option maxHeartbeats 3200000
set_option linter.unusedSimpArgs false
def n8 (f : Nat→Int) : List Value:=An 8 fun i=>I (f i)
theorem n8_get {f : Nat→Int} {p : Nat} (h : p<8) : (n8 f)[p]?=some (I (f p)):=An_get h
theorem n8_cong {f g : Nat→Int} (h : ∀ i,i<8→f i=g i) : n8 f=n8 g:=An_cong (fun i hi=>by rw[h i hi])
def ac (o s j : Value) (N : Int) (f g : Nat→Int) (m : Value) : List Value:=mc o s j N++(n8 f++(n8 g++[m]))
section
variable {o s j : Value} {N : Int} {f g : Nat→Int} {m : Value}
theorem ac_len : (ac o s j N f g m).length=21:=rfl
theorem ac_0 : (ac o s j N f g m)[0]?=some o:=rfl
theorem ac_1 : (ac o s j N f g m)[1]?=some (I N):=rfl
theorem ac_2 : (ac o s j N f g m)[2]?=some s:=rfl
theorem ac_3 : (ac o s j N f g m)[3]?=some j:=rfl
theorem ac_20 : (ac o s j N f g m)[20]?=some m:=rfl
theorem ac_g : ∀ {p : Nat},p<8→(ac o s j N f g m)[12+p]?=some (I (g p))
 | 0,_=>rfl
 | 1,_=>rfl
 | 2,_=>rfl
 | 3,_=>rfl
 | 4,_=>rfl
 | 5,_=>rfl
 | 6,_=>rfl
 | 7,_=>rfl
 | _+8,h=>absurd h (by omega)
theorem ac_setf {x : Int} : ∀ {p : Nat},p<8→(ac o s j N f g m).set (4+p) (I x)=ac o s j N (fun i=>if i=p then x else f i) g m
 | 0,_=>rfl
 | 1,_=>rfl
 | 2,_=>rfl
 | 3,_=>rfl
 | 4,_=>rfl
 | 5,_=>rfl
 | 6,_=>rfl
 | 7,_=>rfl
 | _+8,h=>absurd h (by omega)
theorem ac_setg {x : Int} : ∀ {p : Nat},p<8→(ac o s j N f g m).set (12+p) (I x)=ac o s j N f (fun i=>if i=p then x else g i) m
 | 0,_=>rfl
 | 1,_=>rfl
 | 2,_=>rfl
 | 3,_=>rfl
 | 4,_=>rfl
 | 5,_=>rfl
 | 6,_=>rfl
 | 7,_=>rfl
 | _+8,h=>absurd h (by omega)
theorem ac_t4 : (ac o s j N f g m).take 4=mc o s j N:=rfl
theorem ac_t21 : (ac o s j N f g m).take 21=ac o s j N f g m:=rfl
theorem ac_f8 : ((ac o s j N f g m).drop 4).take 8=n8 f:=rfl
theorem ac_g8 : ((ac o s j N f g m).drop 12).take 8=n8 g:=rfl
theorem ac_ok (h1 : isS o) (h2 : isS s) (h3 : isS j) (h4 : ok1 m=true) : (ac o s j N f g m).all ok1=true:=by
 obtain⟨_,_,_,rfl⟩:=h1
 obtain⟨_,_,_,rfl⟩:=h2
 obtain⟨_,_,_,rfl⟩:=h3
 have e : ∀ a b c d e' f' g' h' i',(ac (.slice a b c) (.slice d e' f') (.slice g' h' i') N f g m).all ok1=(true && (ok1 m && true)):=fun _ _ _ _ _ _ _ _ _=>rfl
 rw[e,h4];rfl
theorem ac_put {x : List Value} (h : x.length=21) : setCells (ac o s j N f g m) 0 ⟨x⟩=⟨ac o s j N f g m⟩:=by
 rw[setC_pre _ _ _ (by rw[ac_len];omega),ac_len,List.drop_eq_nil_of_le (by omega)]
 simp
theorem ac_cong {f' g' : Nat→Int} (h : ∀ i,i<8→f i=f' i) (k : ∀ i,i<8→g i=g' i) : ac o s j N f g m=ac o s j N f' g' m:=by
 unfold ac
 rw[n8_cong h,n8_cong k]
end
theorem AC : type_of% (And.intro @ac_len<|And.intro @ac_0<|And.intro @ac_1<|And.intro @ac_2<|And.intro @ac_3<|And.intro @ac_20<|And.intro @ac_t4<|And.intro @ac_t21<|And.intro @ac_f8 @ac_g8):=
 And.intro @ac_len<|And.intro @ac_0<|And.intro @ac_1<|And.intro @ac_2<|And.intro @ac_3<|And.intro @ac_20<|And.intro @ac_t4<|And.intro @ac_t21<|And.intro @ac_f8 @ac_g8
theorem kl_int {n : Int} (h : (Lit.int .i64 n).wf=true) (k : Nat) : Try.prog.keyLits (k+1) 3 [I n]=some [.int .i64 n]:=by
 unfold Program.keyLits
 simp only[Try.underlying3]
 rw[if_pos ⟨trivial,h⟩]
theorem wf_k {x : Int} (h1 : -1000000000≤x) (h2 : x≤1000000000) : (Lit.int .i64 x).wf=true:=by
 simp only[Lit.wf,Bool.and_eq_true,decide_eq_true_eq]
 show (-9223372036854775808 : Int)≤x∧x≤9223372036854775807
 omega
def kj (r : R2) : Value:=.agg ⟨A2 r.1 r.2⟩
def okJ (r : R2) : Prop:=(0≤r.1∧r.1≤8)∧0≤r.2∧r.2≤8
theorem key76 {a b : Int} (ha : (Lit.int .i64 a).wf=true) (hb : (Lit.int .i64 b).wf=true) : (keyOf Try.prog 76 (.agg ⟨A2 a b⟩)).isSome=true:=by
 have c3 : Try.prog.cellsOf 3=1:=by kernel_rfl
 have c48 : Try.prog.cellsOf 76=2:=by kernel_rfl
 have h5 : (Program.keyType Try.prog 76 && (Value.agg ⟨[I a,I b]⟩).formed Try.prog 76)=true:=by kernel_rfl
 obtain⟨n,hn⟩ : ∃ n,Try.prog.types.size+1=n+2:=⟨Try.prog.types.size-1,by have : 2≤Try.prog.types.size:=Nat.le_of_ble_eq_true (by kernel_rfl);omega⟩
 unfold keyOf
 simp only[Try.underlying76]
 rw[if_pos h5,hn]
 unfold Program.keyLits
 simp only[Try.underlying76,c48]
 have e : (Value.agg ⟨[I a,I b]⟩).cells.toList=[I a,I b]:=rfl
 rw[e,if_pos ⟨rfl,by simp⟩]
 simp[c3,kl_int ha,kl_int hb]
theorem kj_ok : KeyOk Try.prog 76 kj okJ where
 keyed:=by kernel_rfl
 keyish _:=rfl
 keyOf a h:=key76 (wf_k (by have:=h.1;omega) (by have:=h.1;omega)) (wf_k (by have:=h.2;omega) (by have:=h.2;omega))
 eq a b:=by
  obtain⟨a1,a2⟩:=a
  obtain⟨b1,b2⟩:=b
  simp[kj,valEq,cellsEq,cellEq]
def mts (J : List R2) : R2→Option Value:=fun x=>if x∈J∨(x.2,x.1)∈J then some (.bool true) else none
def oldF (M : BM) : Nat→Int:=fun i=>match M.S[i]? with
 | some s=>s.old
 | none=>0
def newF (M : BM) : Nat→Int:=fun i=>match M.S[i]? with
 | some s=>s.new
 | none=>0
theorem oldF_at {M : BM} {i : Nat} (h : i<M.S.length) : oldF M i=M.S[i].old:=by unfold oldF;rw[List.getElem?_eq_getElem h]
theorem newF_at {M : BM} {i : Nat} (h : i<M.S.length) : newF M i=M.S[i].new:=by unfold newF;rw[List.getElem?_eq_getElem h]
theorem oldF_out {M : BM} {i : Nat} (h : ¬ i<M.S.length) : oldF M i=0:=by unfold oldF;rw[List.getElem?_eq_none (by omega)]
theorem newF_out {M : BM} {i : Nat} (h : ¬ i<M.S.length) : newF M i=0:=by unfold newF;rw[List.getElem?_eq_none (by omega)]
end Go.Xe.TBX
/- What the functions of the layer border come to: a map is set to work. Conditions: none. -/
-- MOD TB
namespace Go.Xe.TBX
open Go Go.Xe Go.Proofs
open Nat renaming reduceLeDiff → qA, reduceSub → qB, reduceAdd → qC, reduceEqDiff → qD, reduceLT → qE
open Int renaming reduceNegSucc → qF, reduceEq → qG
open Go.Xe.V renaming seq → sA, block → sB, scope → sC, skip → sD, close → sE
open Go.Xe renaming pth → P
open Go.Xe.Rnd
set_option maxRecDepth 100000
set_option maxHeartbeats 3200000
set_option linter.unusedSimpArgs false
noncomputable def d57 : FCode:=(.seq (.run (.go (.box 34 (tm 0)) (P 1)::
.go (.alloc 96 [(.slice none 0 0),(.int .i64 (.ofNat 0)),(.slice none 0 0),(.slice none 0 0),(.int .i64 (.ofNat 0)),(.int .i64 (.ofNat 0)),(.int .i64 (.ofNat 0)),(.int .i64 (.ofNat 0)),(.int .i64 (.ofNat 0)),(.int .i64 (.ofNat 0)),(.int .i64 (.ofNat 0)),(.int .i64 (.ofNat 0)),(.int .i64 (.ofNat 0)),(.int .i64 (.ofNat 0)),(.int .i64 (.ofNat 0)),(.int .i64 (.ofNat 0)),(.int .i64 (.ofNat 0)),(.int .i64 (.ofNat 0)),(.int .i64 (.ofNat 0)),(.int .i64 (.ofNat 0)),(.map none)]) (P 2)::
[])) (.seq (.run (.go (.loadN 4 (tm 1)) (P 8)::
.go (.makeMap 76) (P 9)::
.go (.build [(.slice none 0 0),(.int .i64 (.ofNat 0)),(.slice none 0 0),(.slice none 0 0),(.int .i64 (.ofNat 0)),(.int .i64 (.ofNat 0)),(.int .i64 (.ofNat 0)),(.int .i64 (.ofNat 0)),(.int .i64 (.ofNat 0)),(.int .i64 (.ofNat 0)),(.int .i64 (.ofNat 0)),(.int .i64 (.ofNat 0)),(.int .i64 (.ofNat 0)),(.int .i64 (.ofNat 0)),(.int .i64 (.ofNat 0)),(.int .i64 (.ofNat 0)),(.int .i64 (.ofNat 0)),(.int .i64 (.ofNat 0)),(.int .i64 (.ofNat 0)),(.int .i64 (.ofNat 0)),(.map none)] [(0,4,(tm 8)),(20,1,(tm 9))]) (P 10)::
.go (.alloc 96 [(.slice none 0 0),(.int .i64 (.ofNat 0)),(.slice none 0 0),(.slice none 0 0),(.int .i64 (.ofNat 0)),(.int .i64 (.ofNat 0)),(.int .i64 (.ofNat 0)),(.int .i64 (.ofNat 0)),(.int .i64 (.ofNat 0)),(.int .i64 (.ofNat 0)),(.int .i64 (.ofNat 0)),(.int .i64 (.ofNat 0)),(.int .i64 (.ofNat 0)),(.int .i64 (.ofNat 0)),(.int .i64 (.ofNat 0)),(.int .i64 (.ofNat 0)),(.int .i64 (.ofNat 0)),(.int .i64 (.ofNat 0)),(.int .i64 (.ofNat 0)),(.int .i64 (.ofNat 0)),(.map none)]) (P 3)::
.un (.store 21 (tm 3) (tm 10))::
[])) (.seq (.seq (.run (.go (.fieldAddr 2 (tm 1)) (P 11)::
.go (.load1 (tm 11)) (P 12)::
.go (.len 0 (tm 12)) (P 13)::
.go (.move (.con (.int .i64 (.ofNat 0)))) (P 14)::
[])) (.block 0 (.loop (.seq (.run (.go (.bin .lss 3 (tm 14) (tm 13)) (P 15)::
[])) (.seq (.cond (tm 15) .skip (.exit 0)) (.seq (.block 1 (.seq (.run (.go (.move (tm 14)) (P 16)::
.go (.indexAddr none 5 (tm 12) (tm 14)) (P 17)::
.go (.loadN 5 (tm 17)) (P 18)::
.go (.alloc 74 [(.int .i64 (.ofNat 0)),(.int .i64 (.ofNat 0)),(.int .i64 (.ofNat 0)),(.int .i64 (.ofNat 0)),(.int .i64 (.ofNat 0))]) (P 5)::
.go (.move (tm 16)) (P 4)::
.un (.store 5 (tm 5) (tm 18))::
[])) (.seq (.run (.go (.move (tm 4)) (P 19)::
.go (.fieldAddr 0 (tm 5)) (P 20)::
.go (.load1 (tm 20)) (P 21)::
.go (.fieldAddr 4 (tm 3)) (P 22)::
.go (.indexAddr (some 8) 1 (tm 22) (tm 19)) (P 23)::
.un (.store 1 (tm 23) (tm 21))::
[])) (.run (.go (.move (tm 4)) (P 24)::
.go (.fieldAddr 1 (tm 5)) (P 25)::
.go (.load1 (tm 25)) (P 26)::
.go (.fieldAddr 12 (tm 3)) (P 27)::
.go (.indexAddr (some 8) 1 (tm 27) (tm 24)) (P 28)::
.un (.store 1 (tm 28) (tm 26))::
[]))))) (.run (.go (.bin .add 3 (tm 14) (.con (.int .i64 (.ofNat 1)))) (P 29)::
.go (.move (tm 29)) (P 14)::
[])))))))) (.seq (.seq (.run (.go (.fieldAddr 3 (tm 1)) (P 30)::
.go (.load1 (tm 30)) (P 31)::
.go (.len 0 (tm 31)) (P 32)::
.go (.move (.con (.int .i64 (.ofNat 0)))) (P 33)::
[])) (.block 2 (.loop (.seq (.run (.go (.bin .lss 3 (tm 33) (tm 32)) (P 34)::
[])) (.seq (.cond (tm 34) .skip (.exit 2)) (.seq (.block 3 (.seq (.run (.go (.indexAddr none 2 (tm 31) (tm 33)) (P 35)::
.go (.loadN 2 (tm 35)) (P 36)::
.go (.alloc 76 [(.int .i64 (.ofNat 0)),(.int .i64 (.ofNat 0))]) (P 7)::
.un (.store 2 (tm 7) (tm 36))::
[])) (.seq (.run (.go (.fieldAddr 20 (tm 3)) (P 37)::
.go (.load1 (tm 37)) (P 38)::
.go (.loadN 2 (tm 7)) (P 39)::
.un (.mapUpdate 76 (tm 38) (tm 39) (.con (.bool true)))::
[])) (.run (.go (.fieldAddr 20 (tm 3)) (P 40)::
.go (.load1 (tm 40)) (P 41)::
.go (.fieldAddr 1 (tm 7)) (P 42)::
.go (.load1 (tm 42)) (P 43)::
.go (.fieldAddr 0 (tm 7)) (P 44)::
.go (.load1 (tm 44)) (P 45)::
.go (.build [(.int .i64 (.ofNat 0)),(.int .i64 (.ofNat 0))] [(0,1,(tm 43)),(1,1,(tm 45))]) (P 46)::
.un (.mapUpdate 76 (tm 41) (tm 46) (.con (.bool true)))::
[]))))) (.run (.go (.bin .add 3 (tm 33) (.con (.int .i64 (.ofNat 1)))) (P 47)::
.go (.move (tm 47)) (P 33)::
[])))))))) (.seq (.run (.go (.loadN 21 (tm 3)) (P 48)::
.un (.store 21 (tm 2) (tm 48))::
[])) .ret)))))
theorem de57 : @compF Try.prog (Gl.none Try.prog) Try.f57 1=.mk d57 (mkTT 49) [(P 0)] [.many (P 2) 21]:=by kernel_rfl
theorem dg57 : Try.prog.funcs[57]?=some Try.f57:=Try.func57
theorem do57 : okF Try.prog Try.f57=true:=by kernel_rfl
abbrev MPm (i : Nat) : Value:=.map (some i)
theorem mts_0 : mts []=fun _=>none:=by
 funext x
 unfold mts
 rw[if_neg (by simp)]
theorem mts_1 {J : List R2} {r : R2} : mts (J++[r])=fun x=>if x=(r.2,r.1) then some (.bool true) else if x=r then some (.bool true) else mts J x:=by
 funext x
 obtain⟨a,b⟩:=x
 obtain⟨c,d⟩:=r
 unfold mts
 simp only[List.mem_append,List.mem_cons,List.not_mem_nil,or_false,Prod.mk.injEq]
 by_cases h1 : a=d∧b=c
 ·rw[if_pos h1,if_pos (.inr (.inr ⟨h1.2,h1.1⟩))]
 ·rw[if_neg h1]
  by_cases h2 : a=c∧b=d
  ·rw[if_pos h2,if_pos (.inl (.inr h2))]
  ·rw[if_neg h2]
   by_cases h3 : (a,b)∈J∨(b,a)∈J
   ·rw[if_pos h3,if_pos]
    rcases h3 with h3|h3
    ·exact .inl (.inl h3)
    ·exact .inr (.inl h3)
   ·rw[if_neg h3,if_neg]
    rintro ((h|h)|(h|h))
    ·exact h3 (.inl h)
    ·exact h2 h
    ·exact h3 (.inr h)
    ·exact h1 ⟨h.2,h.1⟩
theorem f57_ok {H : Heap} {o s j : Value} {M : BM} (h : MV H o s j M) (hS8 : M.S.length≤8) (hJ : ∀ r∈M.J,jok M r) (hJn : M.J.length≤1000) : F Try.prog 57 ⟨[.agg ⟨mc o s j M.N⟩]⟩ H (fun w X=>Grow H X∧∃ mi,w=.agg ⟨ac o s j M.N (oldF M) (newF M) (MPm mi)⟩∧MpF X mi 76 kj (mts M.J)):=by
 have hl:=h.s.len
 have hlj:=h.j.len
 obtain⟨po,no,co,rfl⟩:=h.o.s.isS
 obtain⟨ps,ns,cs,rfl⟩:=h.s.isS
 obtain⟨pj,nj,cj,rfl⟩:=h.j.isS
 obtain⟨Z,hZ⟩ : ∃ Z : List Value,Z=[.slice none 0 0,I 0,.slice none 0 0,.slice none 0 0,I 0,I 0,I 0,I 0,I 0,I 0,I 0,I 0,I 0,I 0,I 0,I 0,I 0,I 0,I 0,I 0,.map none]:=⟨_,rfl⟩
 have hZl : Z.length=21:=by rw[hZ];rfl
 refine F.entryL rfl dg57 do57 de57 rfl (by kernel_rfl) ?_
 simp only[sets]
 refine V.re [(0,.agg ⟨mc (.slice po no co) (.slice ps ns cs) (.slice pj nj cj) M.N⟩)] (N:=49) zE zY ?_
 intro t hF hA
 simp only[Kn,and_true] at hA
 refine zS ?_
 refine V.l0 ?_
 refine V.heap (fun X=>Grow H X∧Bx X H.next (mc (.slice po no co) (.slice ps ns cs) (.slice pj nj cj) M.N) 34∧Bx X (H.next+1) Z 96) ⟨?_,?_,?_⟩ ?_
 ·exact zW
 ·exact zB
 ·rw[hZ];exact zB
 rintro H1 ⟨g1,b1,c1⟩
 have n1:=c1.1
 have m0:=MpF.new (α:=R2) H1 76 kj
 have eb : (⟨[.slice po no co,I M.N,.slice ps ns cs,.slice pj nj cj,I 0,I 0,I 0,I 0,I 0,I 0,I 0,I 0,I 0,I 0,I 0,I 0,I 0,I 0,I 0,I 0,MPm H1.next]⟩ : Array Value)=⟨ac (.slice po no co) (.slice ps ns cs) (.slice pj nj cj) M.N (fun _=>0) (fun _=>0) (MPm H1.next)⟩:=rfl
 refine zS ?_
 have zf:=b1.2
 refine V.lz ?_
 refine V.heap (fun X=>Grow H X∧Bx X H.next (mc (.slice po no co) (.slice ps ns cs) (.slice pj nj cj) M.N) 34∧Bx X (H.next+1) Z 96∧Bx X (H1.next+1) (ac (.slice po no co) (.slice ps ns cs) (.slice pj nj cj) M.N (fun _=>0) (fun _=>0) (MPm H1.next)) 96∧MpF X H1.next 76 kj (mts [])) ⟨?_,?_,?_,?_,?_⟩ ?_
 ·exact zW
 ·exact zB
 ·exact zB
 ·exact Bx.put (by simp only[Heap.next_alloc];omega) _ _
 ·rw[mts_0]
  refine m0.grow ?_
  exact zW
 rintro H2 ⟨g2,b2,c2,d2,m2⟩
 obtain⟨mi,hmi⟩ : ∃ mi,mi=H1.next:=⟨_,rfl⟩
 rw[← hmi] at d2 m2 ⊢
 have n2:=d2.1
 refine zS ?_
 have zf:=And.intro b2.2<|@hl
 refine V.lz ?_
 refine zS ?_
 refine V.loop (fun z t mm X=>∃ (k : Nat),k≤M.S.length∧z=M.S.length-k∧mm=[]∧Grow H X∧Bx X H.next (mc (.slice po no co) (.slice ps ns cs) (.slice pj nj cj) M.N) 34∧Bx X (H.next+1) Z 96∧Bx X (mi+1) (ac (.slice po no co) (.slice ps ns cs) (.slice pj nj cj) M.N (fun i=>if i<k then oldF M i else 0) (fun i=>if i<k then newF M i else 0) (MPm mi)) 96∧MpF X mi 76 kj (mts [])∧Full 49 t∧Kn [(1,PT H.next),(2,PT (H.next+1)),(3,PT (mi+1)),(12,.slice ps ns cs),(13,I M.S.length),(14,I k)] t) M.S.length ?_ ?_
 ·exact⟨0,by omega,by omega,rfl,g2,b2,c2,d2,m2,zF,zK⟩
 clear hF hA g2 b2 c2 d2 m2
 rintro z t mm X ⟨k,hk,rfl,rfl,g2,b2,c2,d2,m2,hF,hA⟩
 simp only[Kn,and_true] at hA
 refine zS ?_
 refine V.l0 ?_
 refine zS ?_
 refine V.condP zP (fun hlt=>?_) (fun hlt=>?_)
 ·have hlt' : k<M.S.length:=by omega
  have hk8 : k<8:=by omega
  obtain⟨i,o,h1,h2⟩:=h.s.at hlt'
  have h3:=(h2 X g2).1
  obtain⟨y,hy⟩ : ∃ y,y=M.S[k]:=⟨_,rfl⟩
  rw[← hy] at h3
  obtain⟨f1,hf1⟩ : ∃ f1 : Nat→Int,f1=fun i=>if i<k then oldF M i else 0:=⟨_,rfl⟩
  obtain⟨f2,hf2⟩ : ∃ f2 : Nat→Int,f2=fun i=>if i<k then newF M i else 0:=⟨_,rfl⟩
  rw[← hf1,← hf2] at d2
  have i1:=idx_arr (len:=8) (i:=mi+1) (o:=4) (kd:=.i64) hk8
  have i2:=idx_arr (len:=8) (i:=mi+1) (o:=12) (kd:=.i64) hk8
  have e1:=ac_setf (o:=.slice po no co) (s:=.slice ps ns cs) (j:=.slice pj nj cj) (N:=M.N) (f:=f1) (g:=f2) (m:=MPm mi) (x:=y.old) hk8
  have e2:=ac_setg (o:=.slice po no co) (s:=.slice ps ns cs) (j:=.slice pj nj cj) (N:=M.N) (f:=fun i=>if i=k then y.old else f1 i) (g:=f2) (m:=MPm mi) (x:=y.new) hk8
  have hk4 : 4+k<21:=by omega
  have hk12 : 12+k<21:=by omega
  refine zS ?_
  have zf:=And.intro @h1<|@h3
  refine V.lz ?_
  refine V.heap (fun Y=>Grow X Y∧Bx Y X.next (s5 y) 74) ⟨?_,?_⟩ ?_
  ·exact zW
  ·exact zB
  rintro X1 ⟨gx,cx⟩
  have d3:=d2.grow gx
  have nd:=d2.1
  have nH:=b2.1
  refine zS ?_
  have zf:=And.intro cx.2<|And.intro d3.2<|And.intro @i1<|And.intro @AC<|And.intro @hk4<|@e1
  refine V.lz ?_
  refine V.heap (fun Y=>Grow H Y∧Bx Y X.next (s5 y) 74∧Bx Y H.next (mc (.slice po no co) (.slice ps ns cs) (.slice pj nj cj) M.N) 34∧Bx Y (H.next+1) Z 96∧MpF Y mi 76 kj (mts [])∧Bx Y (mi+1) (ac (.slice po no co) (.slice ps ns cs) (.slice pj nj cj) M.N (fun i=>if i=k then y.old else f1 i) f2 (MPm mi)) 96) ⟨?_,?_,?_,?_,?_,?_⟩ ?_
  ·exact (g2.trans gx).set (by omega) _
  ·exact cx.set (by omega) _
  ·exact (b2.grow gx).set (by omega) _
  ·exact (c2.grow gx).set (by omega) _
  ·exact (m2.grow gx).loc (Nat.le_refl _) (by rw[Heap.get_set,if_neg (by omega)])
  ·exact Bx.put d3.1 _ _
  rintro X2 ⟨g3,cx2,b3,c3,m3,d4⟩
  have nd4:=d4.1
  refine zS ?_
  have zf:=And.intro cx2.2<|And.intro d4.2<|And.intro @i2<|And.intro @AC<|And.intro @hk12<|@e2
  refine V.lz ?_
  refine zS ?_
  refine V.l0 ?_
  refine V.nil (Or.inl ⟨rfl,M.S.length-(k+1),by omega,?_⟩)
  refine⟨k+1,hlt',rfl,rfl,g3.set (by omega) _,b3.set (by omega) _,c3.set (by omega) _,?_,m3.loc (Nat.le_refl _) (by rw[Heap.get_set,if_neg (by omega)]),zF,zK⟩
  have e : ac (.slice po no co) (.slice ps ns cs) (.slice pj nj cj) M.N (fun i=>if i<k+1 then oldF M i else 0) (fun i=>if i<k+1 then newF M i else 0) (MPm mi)=ac (.slice po no co) (.slice ps ns cs) (.slice pj nj cj) M.N (fun i=>if i=k then y.old else f1 i) (fun i=>if i=k then y.new else f2 i) (MPm mi):=by
   refine ac_cong (fun i _=>?_) (fun i _=>?_)
   ·rw[hf1]
    dsimp only
    by_cases e : i=k
    ·subst e;rw[if_pos (by omega),if_pos rfl,oldF_at hlt',hy]
    ·rw[if_neg e];by_cases e2 : i<k
     ·rw[if_pos (by omega),if_pos e2]
     ·rw[if_neg (by omega),if_neg e2]
   ·rw[hf2]
    dsimp only
    by_cases e : i=k
    ·subst e;rw[if_pos (by omega),if_pos rfl,newF_at hlt',hy]
    ·rw[if_neg e];by_cases e2 : i<k
     ·rw[if_pos (by omega),if_pos e2]
     ·rw[if_neg (by omega),if_neg e2]
  rw[e]
  exact Bx.put d4.1 _ _
 obtain rfl : k=M.S.length:=by omega
 have eF : ac (.slice po no co) (.slice ps ns cs) (.slice pj nj cj) M.N (fun i=>if i<M.S.length then oldF M i else 0) (fun i=>if i<M.S.length then newF M i else 0) (MPm mi)=ac (.slice po no co) (.slice ps ns cs) (.slice pj nj cj) M.N (oldF M) (newF M) (MPm mi):=by
  refine ac_cong (fun i _=>?_) (fun i _=>?_)
  ·by_cases e : i<M.S.length
   ·rw[if_pos e]
   ·rw[if_neg e,oldF_out e]
  ·by_cases e : i<M.S.length
   ·rw[if_pos e]
   ·rw[if_neg e,newF_out e]
 rw[eF] at d2
 refine V.exit ?_
 refine zX ?_
 refine V.nil (Or.inr ⟨by simp,?_⟩)
 refine zX ?_
 refine zS ?_
 have zf:=And.intro b2.2<|@hlj
 refine V.lz ?_
 refine zS ?_
 refine V.loop (fun z t mm X=>∃ (k : Nat),k≤M.J.length∧z=M.J.length-k∧mm=[]∧Grow H X∧Bx X (H.next+1) Z 96∧Bx X (mi+1) (ac (.slice po no co) (.slice ps ns cs) (.slice pj nj cj) M.N (oldF M) (newF M) (MPm mi)) 96∧MpF X mi 76 kj (mts (M.J.take k))∧Full 49 t∧Kn [(2,PT (H.next+1)),(3,PT (mi+1)),(31,.slice pj nj cj),(32,I M.J.length),(33,I k)] t) M.J.length ?_ ?_
 ·exact⟨0,by omega,by omega,rfl,g2,c2,d2,m2,zF,zK⟩
 clear hF hA g2 b2 c2 d2 m2
 rintro z t mm X ⟨k,hk,rfl,rfl,g2,c2,d2,m2,hF,hA⟩
 simp only[Kn,and_true] at hA
 refine zS ?_
 refine V.l0 ?_
 refine zS ?_
 refine V.condP zP (fun hlt=>?_) (fun hlt=>?_)
 ·have hlt' : k<M.J.length:=by omega
  obtain⟨i,o,h1,h2⟩:=h.j.at hlt'
  have h3:=(h2 X g2).1
  have hjk:=hJ _ (List.getElem_mem hlt')
  obtain⟨a,ha⟩ : ∃ a,a=M.J[k].1:=⟨_,rfl⟩
  obtain⟨b,hb⟩ : ∃ b,b=M.J[k].2:=⟨_,rfl⟩
  rw[← ha,← hb] at h3
  unfold jok at hjk
  rw[← ha,← hb] at hjk
  refine zS ?_
  have zf:=And.intro @h1<|@h3
  refine V.lz ?_
  refine V.heap (fun Y=>Grow X Y∧Bx Y X.next (A2 a b) 76) ⟨?_,?_⟩ ?_
  ·exact zW
  ·exact zB
  rintro X1 ⟨gx,cx⟩
  have d3:=d2.grow gx
  have nd:=d2.1
  have c3:=c2.grow gx
  have m3:=m2.grow gx
  obtain⟨o1,u1,v1⟩:=m3.upd kj_ok (a:=(a,b)) ⟨by omega,by omega⟩ (.bool true)
  simp only[kj] at u1
  refine zS ?_
  have zf:=And.intro cx.2<|And.intro d3.2<|And.intro @AC<|@u1
  refine V.lz ?_
  refine V.heap (fun Y=>Grow H Y∧Bx Y X.next (A2 a b) 76∧Bx Y (H.next+1) Z 96∧Bx Y (mi+1) (ac (.slice po no co) (.slice ps ns cs) (.slice pj nj cj) M.N (oldF M) (newF M) (MPm mi)) 96∧MpF Y mi 76 kj (fun x=>if x=(a,b) then some (.bool true) else mts (M.J.take k) x)) ⟨?_,?_,?_,?_,?_⟩ ?_
  ·exact (g2.trans gx).set (by omega) _
  ·exact cx.set (by omega) _
  ·exact c3.set (by omega) _
  ·exact d3.set (by omega) _
  ·exact v1
  rintro X2 ⟨g3,cx2,c4,d4,m4⟩
  have nd4:=d4.1
  obtain⟨o2,u2,v2⟩:=m4.upd kj_ok (a:=(b,a)) ⟨by omega,by omega⟩ (.bool true)
  simp only[kj] at u2
  refine zS ?_
  have zf:=And.intro cx2.2<|And.intro d4.2<|And.intro @AC<|@u2
  refine V.lz ?_
  refine zS ?_
  refine V.l0 ?_
  refine V.nil (Or.inl ⟨rfl,M.J.length-(k+1),by omega,?_⟩)
  refine⟨k+1,hlt',rfl,rfl,g3.set (by omega) _,c4.set (by omega) _,d4.set (by omega) _,?_,zF,zK⟩
  have e : mts (M.J.take (k+1))=fun x=>if x=(b,a) then some (.bool true) else if x=(a,b) then some (.bool true) else mts (M.J.take k) x:=by
   rw[tk1 hlt',mts_1,ha,hb]
  rw[e]
  exact v2
 ·obtain rfl : k=M.J.length:=by omega
  rw[List.take_length] at m2
  have hok:=ac_ok (o:=.slice po no co) (s:=.slice ps ns cs) (j:=.slice pj nj cj) (N:=M.N) (f:=oldF M) (g:=newF M) (m:=MPm mi) ⟨_,_,_,rfl⟩ ⟨_,_,_,rfl⟩ ⟨_,_,_,rfl⟩ rfl
  have epu:=ac_put (o:=.slice po no co) (s:=.slice ps ns cs) (j:=.slice pj nj cj) (N:=M.N) (f:=oldF M) (g:=newF M) (m:=MPm mi) hZl
  have nd:=d2.1
  refine V.exit ?_
  refine zX ?_
  refine V.nil (Or.inr ⟨by simp,?_⟩)
  refine zX ?_
  refine zS ?_
  have zf:=And.intro c2.2<|And.intro d2.2<|And.intro @AC<|And.intro @hok<|And.intro @epu<|@hZl
  refine V.lz ?_
  refine zS ?_
  refine V.ret (V.rets rfl (Lv.retF (by simp +contextual (disch:=first|omega|simp only[nx];omega) only[D1,cells_alloc_at,cells_alloc_ne,cells_set_at,cells_set_ne,yres,yres1,yresL,qA,qB,qC,D5,hF,hA,↓reduceIte,qD,qE,AC];rfl) ?_))
  exact⟨g2.set (by omega) _,mi,rfl,m2.loc (Nat.le_refl _) (by rw[Heap.get_set,if_neg (by omega)])⟩
end Go.Xe.TBX
