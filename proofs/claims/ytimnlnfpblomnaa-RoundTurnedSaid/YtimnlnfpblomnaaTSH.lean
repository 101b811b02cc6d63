/- What the functions of the layer round come to: lists that are compared, the first greatest element. Conditions: none. -/
import Derived.Test.YtimnlnfpblomnaaTRZ
import Derived.Test.YtimnlnfpblomnaaYk
-- MOD TR
namespace Go.Xe.TRX
open Go Go.Xe Go.Proofs
open Nat renaming reduceLeDiff → qA, reduceSub → qB, reduceAdd → qC, reduceEqDiff → qD, reduceLT → qE
open Int renaming reduceNegSucc → qF, reduceEq → qG
open Go.Xe.V renaming seq → sA, block → sB, scope → sC, skip → sD, close → sE
open Go.Xe renaming pth → P
open Go.Xe.Rnd
set_option maxRecDepth 100000
set_option maxHeartbeats 3200000
set_option linter.unusedSimpArgs false
noncomputable def d79 : FCode:=(.seq (.run (.go (.move (.con (.int .i64 (.ofNat 0)))) (P 4)::
[])) (.seq (.seq (.run (.go (.move (tm 0)) (P 6)::
.go (.len 0 (tm 6)) (P 7)::
.go (.move (.con (.int .i64 (.ofNat 0)))) (P 8)::
[])) (.block 0 (.loop (.seq (.run (.go (.bin .lss 3 (tm 8) (tm 7)) (P 9)::
[])) (.seq (.cond (tm 9) .skip (.exit 0)) (.seq (.block 1 (.seq (.run (.go (.move (tm 8)) (P 10)::
.go (.move (tm 10)) (P 5)::
[])) (.seq (.run (.go (.move (tm 1)) (P 11)::
.go (.move (tm 0)) (P 12)::
.go (.move (tm 5)) (P 13)::
.go (.indexAddr none 1 (tm 12) (tm 13)) (P 14)::
.go (.load1 (tm 14)) (P 15)::
.go (.bin .eql 3 (tm 11) (tm 15)) (P 16)::
[])) (.cond (tm 16) (.seq (.run (.go (.move (tm 5)) (P 17)::
.go (.move (tm 17)) (P 4)::
[])) .ret) .skip)))) (.run (.go (.bin .add 3 (tm 8) (.con (.int .i64 (.ofNat 1)))) (P 18)::
.go (.move (tm 18)) (P 8)::
[])))))))) (.seq (.run (.go (.move (.con (.int .i64 (.negSucc 0)))) (P 4)::
[])) .ret)))
theorem de79 : @compF Try.prog (Gl.none Try.prog) Try.f79 2=.mk d79 (mkTT 19) [(P 0),(P 1)] [.tmp (P 4)]:=by kernel_rfl
theorem dg79 : Try.prog.funcs[79]?=some Try.f79:=Try.func79
theorem do79 : okF Try.prog Try.f79=true:=by kernel_rfl
noncomputable def d84 : FCode:=(.seq (.run (.go (.move (.con (.bool false))) (P 4)::
[])) (.seq (.run (.go (.move (tm 0)) (P 5)::
.go (.move (tm 1)) (P 6)::
.go (.call (.con (.func (.func 79) ⟨[]⟩ ⟨[]⟩)) [(tm 5),(tm 6)]) (P 7)::
.go (.bin .geq 3 (tm 7) (.con (.int .i64 (.ofNat 0)))) (P 8)::
.go (.move (tm 8)) (P 4)::
[])) .ret))
theorem de84 : @compF Try.prog (Gl.none Try.prog) Try.f84 2=.mk d84 (mkTT 9) [(P 0),(P 1)] [.tmp (P 4)]:=by kernel_rfl
theorem dg84 : Try.prog.funcs[84]?=some Try.f84:=Try.func84
theorem do84 : okF Try.prog Try.f84=true:=by kernel_rfl
noncomputable def d80 : FCode:=(.seq (.run (.go (.move (.con (.int .i64 (.ofNat 0)))) (P 4)::
[])) (.seq (.seq (.run (.go (.move (tm 1)) (P 7)::
.go (.len 0 (tm 7)) (P 8)::
.go (.move (.con (.int .i64 (.ofNat 0)))) (P 9)::
[])) (.block 0 (.loop (.seq (.run (.go (.bin .lss 3 (tm 9) (tm 8)) (P 10)::
[])) (.seq (.cond (tm 10) .skip (.exit 0)) (.seq (.block 1 (.seq (.run (.go (.indexAddr none 1 (tm 7) (tm 9)) (P 11)::
.go (.load1 (tm 11)) (P 12)::
.go (.move (tm 12)) (P 6)::
[])) (.run (.go (.move (tm 0)) (P 13)::
.go (.move (tm 6)) (P 14)::
.go (.mm false [(tm 13),(tm 14)]) (P 15)::
.go (.move (tm 15)) (P 0)::
[])))) (.run (.go (.bin .add 3 (tm 9) (.con (.int .i64 (.ofNat 1)))) (P 16)::
.go (.move (tm 16)) (P 9)::
[])))))))) (.seq (.run (.go (.move (tm 0)) (P 17)::
.go (.move (tm 17)) (P 4)::
[])) .ret)))
theorem de80 : @compF Try.prog (Gl.none Try.prog) Try.f80 2=.mk d80 (mkTT 18) [(P 0),(P 1)] [.tmp (P 4)]:=by kernel_rfl
theorem dg80 : Try.prog.funcs[80]?=some Try.f80:=Try.func80
theorem do80 : okF Try.prog Try.f80=true:=by kernel_rfl
def RI (H : Heap) (x : Value) (l : List Int) : Prop:=Sl H x (Li l)
theorem ri : RP RI:=RP.ofSl _
theorem RI.len {H : Heap} {x : Value} {l : List Int} (h : RI H x l) : ∀ X,ylen 0 X x=some (I l.length):=LS.len ⟨h⟩
theorem RI.at {H : Heap} {x : Value} {l : List Int} (h : RI H x l) {k : Nat} (hk : k<l.length) : ∃ p,yindexAddr none 1 x (I k)=some p∧∀ H',Grow H H'→yload1 H' p=some (I l[k]):=LS.at ⟨h⟩ hk
theorem f79_ok {H : Heap} {x : Value} {l : List Int} {k0 : Nat} (h : LS H x l) (hn : l.length≤1048576) (h0 : k0<l.length) (hf : ∀ j (hj : j<k0),l[j]≠l[k0]) : Gives Try.prog 79 [x,I l[k0]] H (I k0):=by
 have hl:=h.len
 refine F.entryL rfl dg79 do79 de79 rfl (by kernel_rfl) ?_
 simp only[sets]
 refine V.re [(0,x),(1,I l[k0])] (N:=19) zE zY ?_
 intro t hF hA
 simp only[Kn,and_true] at hA
 refine zS ?_
 refine V.l0 ?_
 refine zS ?_
 have zf:=@hl
 refine V.lz ?_
 refine zS ?_
 refine V.loop (fun z t m X=>∃ (k : Nat),k≤k0∧z=l.length-k∧m=[]∧Grow H X∧Full 19 t∧Kn [(0,x),(1,I l[k0]),(7,I l.length),(8,I k)] t) l.length ?_ ?_
 ·exact⟨0,by omega,by omega,rfl,.refl _,zF,zK⟩
 clear hF hA
 rintro z t m X ⟨k,hk,rfl,rfl,hg,hF,hA⟩
 simp only[Kn,and_true] at hA
 have hlt' : k<l.length:=by omega
 obtain⟨p,hp,hx⟩:=h.at hlt'
 have hx1:=hx X hg
 refine zS ?_
 refine V.l0 ?_
 refine zS ?_
 refine V.condP zP (fun hlt=>?_) (fun hlt=>?_)
 ·refine zS ?_
  refine V.l0 ?_
  refine zS ?_
  have zf:=And.intro @hp<|@hx1
  refine V.lz ?_
  refine zS ?_
  refine V.condP zP (fun he=>?_) (fun he=>?_)
  ·have hkk : k=k0:=by
    by_cases hh : k<k0
    ·exact absurd he.symm (hf k hh)
    ·omega
   subst hkk
   refine zS ?_
   refine V.l0 ?_
   refine zS ?_
   refine V.ret (V.rets rfl (Or.inr ⟨by simp,V.rets rfl (Lv.retG (by simp +contextual (disch:=first|omega|simp only[nx];omega) only[D1,cells_alloc_at,cells_alloc_ne,cells_set_at,cells_set_ne,yres,yres1,yresL,qA,qB,qC,D5,hF,hA,↓reduceIte,qD,qE];rfl) ?_ ?_)⟩))
   ·exact hg
   ·rfl
  ·have hkk : k≠k0:=by rintro rfl;exact he rfl
   refine zS ?_
   refine V.l0 ?_
   refine V.nil (Or.inl ⟨rfl,l.length-(k+1),by omega,?_⟩)
   exact⟨k+1,by omega,rfl,rfl,hg,zF,zK⟩
 ·omega
theorem f79_no {H : Heap} {x : Value} {l : List Int} {v : Int} (h : LS H x l) (hn : l.length≤1048576) (hv : v∉l) : Gives Try.prog 79 [x,I v] H (I (-1)):=by
 have hl:=h.len
 refine F.entryL rfl dg79 do79 de79 rfl (by kernel_rfl) ?_
 simp only[sets]
 refine V.re [(0,x),(1,I v)] (N:=19) zE zY ?_
 intro t hF hA
 simp only[Kn,and_true] at hA
 refine zS ?_
 refine V.l0 ?_
 refine zS ?_
 have zf:=@hl
 refine V.lz ?_
 refine zS ?_
 refine V.loop (fun z t m X=>∃ (k : Nat),k≤l.length∧z=l.length-k∧m=[]∧Grow H X∧Full 19 t∧Kn [(0,x),(1,I v),(7,I l.length),(8,I k)] t) l.length ?_ ?_
 ·exact⟨0,by omega,by omega,rfl,.refl _,zF,zK⟩
 clear hF hA
 rintro z t m X ⟨k,hk,rfl,rfl,hg,hF,hA⟩
 simp only[Kn,and_true] at hA
 refine zS ?_
 refine V.l0 ?_
 refine zS ?_
 refine V.condP zP (fun hlt=>?_) (fun hlt=>?_)
 ·have hlt' : k<l.length:=by omega
  obtain⟨p,hp,hx⟩:=h.at hlt'
  have hx1:=hx X hg
  have hne : ¬ v=l[k]:=fun e=>hv (e ▸ List.getElem_mem hlt')
  refine zS ?_
  refine V.l0 ?_
  refine zS ?_
  have zf:=And.intro @hp<|@hx1
  refine V.lz ?_
  refine zS ?_
  refine V.condP zP (fun he=>?_) (fun he=>?_)
  ·exact absurd he hne
  ·refine zS ?_
   refine V.l0 ?_
   refine V.nil (Or.inl ⟨rfl,l.length-(k+1),by omega,?_⟩)
   exact⟨k+1,by omega,rfl,rfl,hg,zF,zK⟩
 ·refine V.exit ?_
  refine zX ?_
  refine V.nil (Or.inr ⟨by simp,?_⟩)
  refine zX ?_
  refine zS ?_
  refine V.l0 ?_
  refine zS ?_
  refine V.ret (V.rets rfl (Lv.retG (by simp +contextual (disch:=first|omega|simp only[nx];omega) only[D1,cells_alloc_at,cells_alloc_ne,cells_set_at,cells_set_ne,yres,yres1,yresL,qA,qB,qC,D5,hF,hA,↓reduceIte,qD,qE];rfl) ?_ ?_))
  ·exact hg
  ·rfl
theorem first_at {v : Int} : ∀ {l : List Int},v∈l→∃ k0,∃ h0 : k0<l.length,l[k0]=v∧∀ j (hj : j<k0),l[j]'(Nat.lt_trans hj h0)≠v
 | [],h=>by simp at h
 | x::l,h=>by
  by_cases e : x=v
  ·exact⟨0,by simp,e,fun j hj=>by omega⟩
  ·obtain⟨k,h1,h2,h3⟩:=first_at (l:=l) (by
    rcases List.mem_cons.1 h with h|h
    ·exact absurd h.symm e
    ·exact h)
   refine⟨k+1,by simp only[List.length_cons];omega,by simpa using h2,fun j hj=>?_⟩
   cases j with
   | zero=>simpa using e
   | succ j=>simpa using h3 j (by omega)
theorem f84_ok {H : Heap} {x : Value} {l : List Int} (v : Int) (h : LS H x l) (hn : l.length≤1048576) : Gives Try.prog 84 [x,I v] H (.bool (decide (v∈l))):=by
 by_cases hv : v∈l
 ·obtain⟨k0,h0,e0,hf⟩:=first_at hv
  subst e0
  rw[decide_eq_true hv]
  refine F.entryL rfl dg84 do84 de84 rfl (by kernel_rfl) ?_
  simp only[sets]
  refine V.re [(0,x),(1,I l[k0])] (N:=9) zE zY ?_
  intro t hF hA
  simp only[Kn,and_true] at hA
  refine zS ?_
  refine V.l0 ?_
  refine zS ?_
  refine V.run ?_
  refine VI.s0 2 ?_
  simp only[ds]
  refine VI.callA rfl (f79_ok h hn h0 hf) zA (fun H2 g2=>?_)
  refine VI.l0 ?_
  refine zS ?_
  refine V.ret (V.rets rfl (Lv.retG (by simp +contextual (disch:=first|omega|simp only[nx];omega) only[D1,cells_alloc_at,cells_alloc_ne,cells_set_at,cells_set_ne,yres,yres1,yresL,qA,qB,qC,D5,hF,hA,↓reduceIte,qD,qE];rfl) ?_ ?_))
  ·exact g2
  ·exact congrArg _ (decide_eq_true (by omega))
 ·rw[decide_eq_false hv]
  refine F.entryL rfl dg84 do84 de84 rfl (by kernel_rfl) ?_
  simp only[sets]
  refine V.re [(0,x),(1,I v)] (N:=9) zE zY ?_
  intro t hF hA
  simp only[Kn,and_true] at hA
  refine zS ?_
  refine V.l0 ?_
  refine zS ?_
  refine V.run ?_
  refine VI.s0 2 ?_
  simp only[ds]
  refine VI.callA rfl (f79_no h hn hv) zA (fun H2 g2=>?_)
  refine VI.l0 ?_
  refine zS ?_
  refine V.ret (V.rets rfl (Lv.retG (by simp +contextual (disch:=first|omega|simp only[nx];omega) only[D1,cells_alloc_at,cells_alloc_ne,cells_set_at,cells_set_ne,yres,yres1,yresL,qA,qB,qC,D5,hF,hA,↓reduceIte,qD,qE];rfl) ?_ ?_))
  ·exact g2
  ·rfl
def lst (a : Int) : List Int→Int
 | []=>a
 | x::l=>lst (min a x) l
theorem lst_app (a : Int) : ∀ (l r : List Int),lst a (l++r)=lst (lst a l) r:=by
 intro l
 induction l generalizing a with
 | nil=>intro r;rfl
 | cons x l ih=>intro r;simp only[List.cons_append,lst,ih]
theorem f80_ok {H : Heap} {x : Value} {l : List Int} (a : Int) (h : LS H x l) (hn : l.length≤1048576) : Gives Try.prog 80 [I a,x] H (I (lst a l)):=by
 have hl:=h.len
 refine F.entryL rfl dg80 do80 de80 rfl (by kernel_rfl) ?_
 simp only[sets]
 refine V.re [(0,I a),(1,x)] (N:=18) zE zY ?_
 intro t hF hA
 simp only[Kn,and_true] at hA
 refine zS ?_
 refine V.l0 ?_
 refine zS ?_
 have zf:=@hl
 refine V.lz ?_
 refine zS ?_
 refine V.loop (fun z t m X=>∃ (k : Nat),k≤l.length∧z=l.length-k∧m=[]∧Grow H X∧Full 18 t∧Kn [(0,I (lst a (l.take k))),(7,x),(8,I l.length),(9,I k)] t) l.length ?_ ?_
 ·exact⟨0,by omega,by omega,rfl,.refl _,zF,zK⟩
 clear hF hA
 rintro z t m X ⟨k,hk,rfl,rfl,hg,hF,hA⟩
 simp only[Kn,and_true] at hA
 refine zS ?_
 refine V.l0 ?_
 refine zS ?_
 refine V.condP zP (fun hlt=>?_) (fun hlt=>?_)
 ·have hlt' : k<l.length:=by omega
  obtain⟨p,hp,hx⟩:=h.at hlt'
  have hx1:=hx X hg
  have hs : (if l[k]<lst a (l.take k) then l[k] else lst a (l.take k))=lst a (l.take (k+1)):=by
   rw[tk1 hlt',lst_app]
   simp only[lst]
   split<;>omega
  refine zS ?_
  have zf:=And.intro @hp<|@hx1
  refine V.lz ?_
  refine zS ?_
  have zf:=@hs
  refine V.lz ?_
  refine zS ?_
  refine V.l0 ?_
  refine V.nil (Or.inl ⟨rfl,l.length-(k+1),by omega,?_⟩)
  exact⟨k+1,hlt',rfl,rfl,hg,zF,zK⟩
 ·obtain rfl : k=l.length:=by omega
  refine V.exit ?_
  refine zX ?_
  refine V.nil (Or.inr ⟨by simp,?_⟩)
  refine zX ?_
  rw[List.take_length] at hA
  refine zS ?_
  refine V.l0 ?_
  refine zS ?_
  refine V.ret (V.rets rfl (Lv.retG (by simp +contextual (disch:=first|omega|simp only[nx];omega) only[D1,cells_alloc_at,cells_alloc_ne,cells_set_at,cells_set_ne,yres,yres1,yresL,qA,qB,qC,D5,hF,hA,↓reduceIte,qD,qE];rfl) ?_ ?_))
  ·exact hg
  ·rfl
end Go.Xe.TRX
/- What the functions of the layer round come to: a total that is divided. Conditions: none. -/
-- MOD TR
namespace Go.Xe.TRX
open Go Go.Xe Go.Proofs
open Nat renaming reduceLeDiff → qA, reduceSub → qB, reduceAdd → qC, reduceEqDiff → qD, reduceLT → qE
open Int renaming reduceNegSucc → qF, reduceEq → qG
open Go.Xe.V renaming seq → sA, block → sB, scope → sC, skip → sD, close → sE
open Go.Xe renaming pth → P
open Go.Xe.Rnd
set_option maxRecDepth 100000
set_option maxHeartbeats 3200000
set_option linter.unusedSimpArgs false
abbrev OL (n0 : Nat) (col : Nat→Nat) (c : Nat) (X : Heap) (v : Value) (l : List Int) : Prop:=Oc n0 col c X 3 v l.length (Li l)
theorem own_idx {y n c g : Nat} (h : g<n) : yindexAddr none 1 (.slice (some ⟨y,0,none⟩) n c) (I (g : Nat))=some (.pointer (some ⟨y,g,none⟩)):=by
 simp only[yindexAddr]
 rw[if_pos ⟨by omega,by omega⟩]
 simp
section
variable {n0 : Nat} {col : Nat→Nat} {c : Nat} {X : Heap} {v : Value} {l : List Int}
theorem OL.ow {H0 : Heap} (h : OL n0 col c X v l) (hn : H0.next≤n0) : Ow H0 X 3 v (Li l):=by
 have h' : Oc n0 col c X 3 v (Li l).length (Li l):=by rw[Li_len];exact h
 exact h'.o hn
theorem OL.ls (h : OL n0 col c X v l) : LS X v l:=⟨((OL.ow h (H0:=Heap.empty)) (Nat.zero_le _)).sl⟩
theorem OL.push (h : OL n0 col c X v l) (hn : n0≤X.next) (hl : l.length≤1048576) (x : Int) : ∃ u X',yappend 3 1 8 (X.alloc (.cells ⟨[I x]⟩ 3 true)) v (.slice (some ⟨X.next,0,none⟩) 1 1)=some (u,X')∧∃ col',OL n0 col' c X' u (l++[x])∧St n0 (·=c) col X col' X'∧Keep n0 X X'∧X.next+1≤X'.next:=by
 obtain⟨u,X',a1,a2,a3,a4,a5,_⟩:=Oc.push (bytes:=8) (w:=1) (x:=[I x]) (by decide) h hn (by rw[Li_len,Nat.mul_one]) rfl rfl (by omega) (by omega)
 refine⟨u,X',a1,_,?_,a3,a4,a5⟩
 unfold OL Li
 rw[List.map_append,List.length_append]
 exact a2
theorem OL.set (h : OL n0 col c X v l) {i : Nat} (hi : i<l.length) (x : Int) : ∃ b,v=.slice (some ⟨b,0,none⟩) l.length l.length∧n0≤b∧b<X.next∧X.cellsAt b=some (⟨Li l⟩,3,true)∧OL n0 col c (X.set b (.cells ⟨(Li l).set i (I x)⟩ 3 true)) v (l.set i x)∧St n0 (·=c) col X col (X.set b (.cells ⟨(Li l).set i (I x)⟩ 3 true)):=by
 obtain⟨b,b1,b2,b3,b4,b5,b6⟩:=Oc.set1 (i:=i) (x:=I x) h (by rw[Li_len];exact hi)
 refine⟨b,b1,b2,b3,b4,?_,b6⟩
 unfold OL
 rw[List.length_set]
 have e : Li (l.set i x)=(Li l).set i (I x):=by unfold Li;rw[List.map_set]
 rw[e]
 exact b5
end
end Go.Xe.TRX
/- What the functions of the layer round come to: Divide, and the reference's. Conditions: none. -/
-- MOD TR
namespace Go.Xe.TRX
open Go Go.Xe Go.Proofs
open Nat renaming reduceLeDiff → qA, reduceSub → qB, reduceAdd → qC, reduceEqDiff → qD, reduceLT → qE
open Int renaming reduceNegSucc → qF, reduceEq → qG
open Go.Xe.V renaming seq → sA, block → sB, scope → sC, skip → sD, close → sE
open Go.Xe renaming pth → P
open Go.Xe.Rnd
set_option maxRecDepth 100000
set_option maxHeartbeats 3200000
set_option linter.unusedSimpArgs false
end Go.Xe.TRX
/- What the functions of the layer round come to: the reference's Divide. Conditions: none. -/
-- MOD TR
namespace Go.Xe.TRX
open Go Go.Xe Go.Proofs
open Nat renaming reduceLeDiff → qA, reduceSub → qB, reduceAdd → qC, reduceEqDiff → qD, reduceLT → qE
open Int renaming reduceNegSucc → qF, reduceEq → qG
open Go.Xe.V renaming seq → sA, block → sB, scope → sC, skip → sD, close → sE
open Go.Xe renaming pth → P
open Go.Xe.Rnd
set_option maxRecDepth 100000
set_option maxHeartbeats 3200000
set_option linter.unusedSimpArgs false
theorem gD {l : List Int} {k : Nat} (h : k<l.length) : l[k]=l.getD k 0:=by
 rw[List.getD_eq_getElem?_getD,List.getElem?_eq_getElem h];rfl
end Go.Xe.TRX
/- Rules of reasoning over the executable reading of the model's code (part Z28): guarded calls of functions that change memory. Conditions: none; for every program. -/
namespace Go.Xe
open Go
section
variable {P : Program} [Gl P] [Orc P] {rnd : Option Nat} {Q : FQ} {K : List FFr} {t : TT} {m : List Nat} {H : Heap} {is : List FI} {p d : Pth} {w : Bool} {fa : FA} {args : List FA} {g : FuncId} {a b l : List Value} {S : Value→Heap→Prop} {pre : List Heap} {R : TT→List Heap→Prop}
theorem VI.callRT (hp : gt p t=.bool w) (hf : dA t fa=.func (.func g) ⟨a⟩ ⟨b⟩) (hs : F P g ⟨l⟩ H S) (hl : a++args.map (dA t)++b=l) (k : ∀ v H',S v H'→VI P rnd Q K m is (st v d t) H') : VI P rnd Q K m (.gd p w (.call fa args) d::is) t H:=by
 subst hl
 refine .callT hp hf ?_
 rw[arr_app,arr_app]
 exact hs.mono k
theorem VD.callRT (hp : gt p t=.bool w) (hf : dA t fa=.func (.func g) ⟨a⟩ ⟨b⟩) (hs : F P g ⟨l⟩ H S) (hl : a++args.map (dA t)++b=l) (k : ∀ v H',S v H'→VD P is (st v d t) H' (pre++[H]) R) : VD P (.gd p w (.call fa args) d::is) t H pre R:=by
 subst hl
 refine .callT hp hf ?_
 rw[arr_app,arr_app]
 exact hs.mono k
end
end Go.Xe
/- The statement RoundDivides: the function. Conditions: none. -/
-- MOD TR
namespace Go.Xe.TRX
open Go Go.Xe Go.Proofs
open Nat renaming reduceLeDiff → qA, reduceSub → qB, reduceAdd → qC, reduceEqDiff → qD, reduceLT → qE
open Int renaming reduceNegSucc → qF, reduceEq → qG
open Go.Xe.V renaming seq → sA, block → sB, scope → sC, skip → sD, close → sE
open Go.Xe renaming pth → P
open Go.Xe.Rnd
set_option maxRecDepth 100000
set_option maxHeartbeats 3200000
set_option linter.unusedSimpArgs false
noncomputable def d6 : FCode:=(.seq (.run (.go (.move (.con (.bool false))) (P 4)::
[])) (.seq (.seq (.run (.go (.move (tm 0)) (P 10)::
.go (.len 0 (tm 10)) (P 11)::
.go (.bin .gtr 3 (tm 11) (.con (.int .i64 (.ofNat 15)))) (P 12)::
[])) (.cond (tm 12) (.seq (.run (.go (.call (.con (.func (.func 17) ⟨[]⟩ ⟨[]⟩)) []) (P 13)::
.go (.move (tm 13)) (P 4)::
[])) .ret) .skip)) (.seq (.run (.go (.move (tm 0)) (P 15)::
.go (.call (.con (.func (.func 38) ⟨[]⟩ ⟨[]⟩)) [tm 15]) (P 16)::
.go (.move (tm 1)) (P 17)::
.go (.call (.con (.func (.func 37) ⟨[]⟩ ⟨[]⟩)) [(tm 16),(tm 17)]) (P 18)::
.go (.move (tm 18)) (P 14)::
.go (.extract (tm 14) 0) (P 19)::
.go (.extract (tm 14) 1) (P 20)::
.go (.move (tm 19)) (P 5)::
.go (.move (tm 20)) (P 6)::
[])) (.seq (.run (.go (.move (.con (.int .i64 (.ofNat 0)))) (P 7)::
.go (.move (.con (.int .i64 (.ofNat 0)))) (P 8)::
[])) (.seq (.seq (.run (.go (.move (tm 0)) (P 21)::
.go (.len 0 (tm 21)) (P 22)::
.go (.bin .gtr 3 (tm 22) (.con (.int .i64 (.ofNat 12)))) (P 23)::
[])) (.cond (tm 23) (.run (.go (.move (.con (.int .i64 (.ofNat 3)))) (P 7)::
[])) .skip)) (.seq (.seq (.run (.go (.move (.con (.int .i64 (.ofNat 0)))) (P 9)::
[])) (.block 0 (.loop (.seq (.seq (.run (.go (.move (tm 9)) (P 24)::
.go (.move (tm 0)) (P 25)::
.go (.len 0 (tm 25)) (P 26)::
.go (.bin .lss 3 (tm 24) (tm 26)) (P 27)::
.go (.move (tm 27)) (P 28)::
.gd (P 28) true (.move (tm 7)) (P 29)::
.gd (P 28) true (.bin .eql 29 (tm 29) (.con (.int .i64 (.ofNat 0)))) (P 30)::
.go (.pick (tm 28) (tm 30) (.con (.bool false))) (P 31)::
[])) (.cond (tm 31) .skip (.exit 0))) (.seq (.block 1 (.seq (.run (.go (.move (tm 0)) (P 34)::
.go (.move (tm 9)) (P 35)::
.go (.indexAddr none 1 (tm 34) (tm 35)) (P 36)::
.go (.load1 (tm 36)) (P 37)::
.go (.call (.con (.func (.func 25) ⟨[]⟩ ⟨[]⟩)) [(tm 37),(.con (.int .i64 (.ofNat 0))),(.con (.int .i64 (.ofNat 10000)))]) (P 38)::
.go (.un .not (tm 38)) (P 39)::
[])) (.cond (tm 39) (.run (.go (.move (.con (.int .i64 (.ofNat 2)))) (P 7)::
[])) (.run (.go (.move (tm 8)) (P 40)::
.go (.move (tm 0)) (P 41)::
.go (.move (tm 9)) (P 42)::
.go (.indexAddr none 1 (tm 41) (tm 42)) (P 43)::
.go (.load1 (tm 43)) (P 44)::
.go (.bin .add 3 (tm 40) (tm 44)) (P 45)::
.go (.move (tm 45)) (P 8)::
[]))))) (.run (.go (.move (tm 9)) (P 32)::
.go (.bin .add 3 (tm 32) (.con (.int .i64 (.ofNat 1)))) (P 33)::
.go (.move (tm 33)) (P 9)::
[]))))))) (.seq (.seq (.run (.go (.move (tm 7)) (P 46)::
.go (.bin .eql 29 (tm 46) (.con (.int .i64 (.ofNat 0)))) (P 47)::
.go (.move (tm 47)) (P 48)::
.gd (P 48) true (.move (tm 1)) (P 49)::
.gd (P 48) true (.call (.con (.func (.func 25) ⟨[]⟩ ⟨[]⟩)) [(tm 49),(.con (.int .i64 (.ofNat 0))),(.con (.int .i64 (.ofNat 100000)))]) (P 50)::
.gd (P 48) true (.un .not (tm 50)) (P 51)::
.go (.pick (tm 48) (tm 51) (.con (.bool false))) (P 52)::
[])) (.cond (tm 52) (.run (.go (.move (.con (.int .i64 (.ofNat 2)))) (P 7)::
[])) .skip)) (.seq (.seq (.run (.go (.move (tm 7)) (P 53)::
.go (.bin .eql 29 (tm 53) (.con (.int .i64 (.ofNat 0)))) (P 54)::
.go (.move (tm 54)) (P 55)::
.gd (P 55) true (.move (tm 8)) (P 56)::
.gd (P 55) true (.bin .eql 3 (tm 56) (.con (.int .i64 (.ofNat 0)))) (P 57)::
.go (.pick (tm 55) (tm 57) (.con (.bool false))) (P 58)::
[])) (.cond (tm 58) (.run (.go (.move (.con (.int .i64 (.ofNat 7)))) (P 7)::
[])) .skip)) (.seq (.seq (.run (.go (.move (tm 7)) (P 59)::
.go (.bin .neq 29 (tm 59) (.con (.int .i64 (.ofNat 0)))) (P 60)::
[])) (.cond (tm 60) (.seq (.run (.go (.move (tm 6)) (P 61)::
.go (.move (tm 7)) (P 62)::
.go (.bin .eql 29 (tm 61) (tm 62)) (P 63)::
.go (.move (tm 63)) (P 64)::
.gd (P 64) true (.move (tm 5)) (P 65)::
.gd (P 64) true (.len 0 (tm 65)) (P 66)::
.gd (P 64) true (.bin .eql 3 (tm 66) (.con (.int .i64 (.ofNat 0)))) (P 67)::
.go (.pick (tm 64) (tm 67) (.con (.bool false))) (P 68)::
.go (.move (tm 68)) (P 69)::
.gd (P 69) true (.call (.con (.func (.func 17) ⟨[]⟩ ⟨[]⟩)) []) (P 70)::
.go (.pick (tm 69) (tm 70) (.con (.bool false))) (P 71)::
.go (.move (tm 71)) (P 4)::
[])) .ret) .skip)) (.seq (.run (.go (.move (tm 6)) (P 72)::
.go (.bin .eql 29 (tm 72) (.con (.int .i64 (.ofNat 0)))) (P 73)::
.go (.move (tm 73)) (P 74)::
.gd (P 74) true (.move (tm 5)) (P 75)::
.gd (P 74) true (.move (tm 0)) (P 76)::
.gd (P 74) true (.move (tm 1)) (P 77)::
.gd (P 74) true (.call (.con (.func (.func 40) ⟨[]⟩ ⟨[]⟩)) [(tm 76),(tm 77)]) (P 78)::
.gd (P 74) true (.call (.con (.func (.func 39) ⟨[]⟩ ⟨[]⟩)) [(tm 75),(tm 78)]) (P 79)::
.go (.pick (tm 74) (tm 79) (.con (.bool false))) (P 80)::
.go (.move (tm 80)) (P 81)::
.gd (P 81) true (.call (.con (.func (.func 17) ⟨[]⟩ ⟨[]⟩)) []) (P 82)::
.go (.pick (tm 81) (tm 82) (.con (.bool false))) (P 83)::
.go (.move (tm 83)) (P 4)::
[])) .ret))))))))))
end Go.Xe.TRX
/- What the functions of the layer round come to: tables, and their copies. Conditions: none. -/
-- MOD TR
namespace Go.Xe.TRX
open Go Go.Xe Go.Proofs
open Nat renaming reduceLeDiff → qA, reduceSub → qB, reduceAdd → qC, reduceEqDiff → qD, reduceLT → qE
open Int renaming reduceNegSucc → qF, reduceEq → qG
open Go.Xe.V renaming seq → sA, block → sB, scope → sC, skip → sD, close → sE
open Go.Xe renaming pth → P
open Go.Xe.Rnd
set_option maxRecDepth 100000
set_option maxHeartbeats 3200000
set_option linter.unusedSimpArgs false
noncomputable def d21 : FCode:=(.seq (.run (.go (.move (.con (.slice none 0 0))) (P 2)::
[])) (.seq (.run (.go (.move (.con (.slice none 0 0))) (P 3)::
[])) (.seq (.seq (.run (.go (.move (.con (.int .i64 (.ofNat 0)))) (P 4)::
[])) (.block 0 (.loop (.seq (.seq (.run (.go (.move (tm 4)) (P 5)::
.go (.move (tm 0)) (P 6)::
.go (.len 0 (tm 6)) (P 7)::
.go (.bin .lss 3 (tm 5) (tm 7)) (P 8)::
[])) (.cond (tm 8) .skip (.exit 0))) (.seq (.block 1 (.run (.go (.move (tm 3)) (P 11)::
.go (.move (tm 0)) (P 12)::
.go (.move (tm 4)) (P 13)::
.go (.indexAddr none 1 (tm 12) (tm 13)) (P 14)::
.go (.load1 (tm 14)) (P 15)::
.go (.call (.con (.func (.func 38) ⟨[]⟩ ⟨[]⟩)) [tm 15]) (P 16)::
.go (.buildSlice 41 1 [(.slice none 0 0)] [(0,1,(tm 16))]) (P 17)::
.go (.append 41 1 24 (tm 11) (tm 17)) (P 18)::
.go (.move (tm 18)) (P 3)::
[]))) (.run (.go (.move (tm 4)) (P 9)::
.go (.bin .add 3 (tm 9) (.con (.int .i64 (.ofNat 1)))) (P 10)::
.go (.move (tm 10)) (P 4)::
[]))))))) (.seq (.run (.go (.move (tm 3)) (P 19)::
.go (.move (tm 19)) (P 2)::
[])) .ret))))
theorem de21 : @compF Try.prog (Gl.none Try.prog) Try.f21 1=.mk d21 (mkTT 20) [(P 0)] [.tmp (P 2)]:=by kernel_rfl
theorem dg21 : Try.prog.funcs[21]?=some Try.f21:=Try.func21
theorem do21 : okF Try.prog Try.f21=true:=by kernel_rfl
noncomputable def d19 : FCode:=(.seq (.run (.go (.box 25 (tm 0)) (P 1)::
.go (.alloc 33 [(.int .i64 (.ofNat 0)),(.slice none 0 0),(.slice none 0 0)]) (P 2)::
[])) (.seq (.draw 8 (.go (.fieldAddr 0 (tm 1)) (P 6)::
.go (.load1 (tm 6)) (P 7)::
.go (.fieldAddr 1 (tm 1)) (P 8)::
.go (.load1 (tm 8)) (P 9)::
.go (.call (.con (.func (.func 21) ⟨[]⟩ ⟨[]⟩)) [tm 9]) (P 10)::
.go (.build [(.int .i64 (.ofNat 0)),(.slice none 0 0),(.slice none 0 0)] [(0,1,(tm 7)),(1,1,(tm 10))]) (P 11)::
.go (.alloc 33 [(.int .i64 (.ofNat 0)),(.slice none 0 0),(.slice none 0 0)]) (P 3)::
.un (.store 3 (tm 3) (tm 11))::
[]) [.ok,.rd none (.load1 (tm 6)) (some (P 7)) [5],.ok,.ok,.ok,.ok,.nw none (some (P 3)) 6 true,.ok]) (.seq (.seq (.run (.go (.move (.con (.int .i64 (.ofNat 0)))) (P 4)::
[])) (.block 0 (.loop (.seq (.seq (.run (.go (.move (tm 4)) (P 12)::
.go (.fieldAddr 2 (tm 1)) (P 13)::
.go (.load1 (tm 13)) (P 14)::
.go (.len 0 (tm 14)) (P 15)::
.go (.bin .lss 3 (tm 12) (tm 15)) (P 16)::
[])) (.cond (tm 16) .skip (.exit 0))) (.seq (.block 1 (.seq (.run (.go (.fieldAddr 2 (tm 1)) (P 19)::
.go (.load1 (tm 19)) (P 20)::
.go (.move (tm 4)) (P 21)::
.go (.indexAddr none 3 (tm 20) (tm 21)) (P 22)::
.go (.loadN 3 (tm 22)) (P 23)::
.go (.alloc 76 [(.int .i64 (.ofNat 0)),(.int .i64 (.ofNat 0)),(.int .i64 (.ofNat 0))]) (P 5)::
.un (.store 3 (tm 5) (tm 23))::
[])) (.run (.go (.fieldAddr 2 (tm 3)) (P 24)::
.go (.load1 (tm 24)) (P 25)::
.go (.fieldAddr 0 (tm 5)) (P 26)::
.go (.load1 (tm 26)) (P 27)::
.go (.fieldAddr 1 (tm 5)) (P 28)::
.go (.load1 (tm 28)) (P 29)::
.go (.fieldAddr 2 (tm 5)) (P 30)::
.go (.load1 (tm 30)) (P 31)::
.go (.build [(.int .i64 (.ofNat 0)),(.int .i64 (.ofNat 0)),(.int .i64 (.ofNat 0))] [(0,1,(tm 27)),(1,1,(tm 29)),(2,1,(tm 31))]) (P 32)::
.go (.buildSlice 83 1 [(.int .i64 (.ofNat 0)),(.int .i64 (.ofNat 0)),(.int .i64 (.ofNat 0))] [(0,3,(tm 32))]) (P 33)::
.go (.append 83 3 24 (tm 25) (tm 33)) (P 34)::
.go (.fieldAddr 2 (tm 3)) (P 35)::
.un (.store 1 (tm 35) (tm 34))::
[])))) (.run (.go (.move (tm 4)) (P 17)::
.go (.bin .add 3 (tm 17) (.con (.int .i64 (.ofNat 1)))) (P 18)::
.go (.move (tm 18)) (P 4)::
[]))))))) (.seq (.run (.go (.loadN 3 (tm 3)) (P 36)::
.un (.store 3 (tm 2) (tm 36))::
[])) .ret))))
theorem de19 : @compF Try.prog (Gl.none Try.prog) Try.f19 1=.mk d19 (mkTT 37) [(P 0)] [.many (P 2) 3]:=by kernel_rfl
theorem dg19 : Try.prog.funcs[19]?=some Try.f19:=Try.func19
theorem do19 : okF Try.prog Try.f19=true:=by kernel_rfl
abbrev R3:=Int×Int×Int
abbrev r3 (x : R3) : List Value:=[I x.1,I x.2.1,I x.2.2]
structure Tb where
 b : Int
 C : List (List Int)
 F : List R3
structure TV (H : Heap) (c f : Value) (T : Tb) : Prop where
 c : Nest RI H c T.C
 f : Sw 3 H f (T.F.map r3)
theorem TV.grow {A B : Heap} (g : Grow A B) {c f : Value} {T : Tb} (h : TV A c f T) : TV B c f T:=⟨h.c.grow ri g,h.f.grow g⟩
theorem TV.fl {H : Heap} {c f : Value} {T : Tb} (h : TV H c f T) : ∀ X,ylen 0 X f=some (I T.F.length):=by
 intro X
 have:=h.f.len
 rw[List.length_map] at this
 obtain⟨p,n,c,e⟩:=h.f.isS
 subst e
 exact this
theorem TV.fat {H : Heap} {c f : Value} {T : Tb} (h : TV H c f T) {k : Nat} (hk : k<T.F.length) : ∃ p,yindexAddr none 3 f (I k)=some p∧∀ H',Grow H H'→yloadN 3 H' p=some (.agg ⟨r3 T.F[k]⟩):=
 h.f.get (by decide) (x:=r3 T.F[k]) (k:=k) (by simp[hk]) rfl
def sh (T : Tb) : Prop:=T.C.length≤1048576∧(∀ row∈T.C,row.length≤1048576)∧T.F.length≤1048576
theorem ow_ri {H0 H : Heap} {e : TypeId} {v : Value} {l : List Int} (h : Ow H0 H e v (Li l)) : RI H v l:=h.sl
theorem f21_ok {H : Heap} {v : Value} {L : List (List Int)} (h : Nest RI H v L) (hn : L.length≤1048576) (hr : ∀ row∈L,row.length≤1048576) : F Try.prog 21 ⟨[v]⟩ H (fun w X=>Grow H X∧OwN (From RI H.next) H X 41 w L):=by
 have hl:=h.len
 refine F.entryL rfl dg21 do21 de21 rfl (by kernel_rfl) ?_
 simp only[sets]
 refine V.re [(0,v)] (N:=20) zE zY ?_
 intro t hF hA
 simp only[Kn,and_true] at hA
 refine zS ?_
 refine V.l0 ?_
 refine zS ?_
 refine V.l0 ?_
 refine zS ?_
 refine V.l0 ?_
 refine zS ?_
 refine V.loop (fun z t m X=>∃ (k : Nat) (s : Value),k≤L.length∧z=L.length-k∧m=[]∧Grow H X∧OwN (From RI H.next) H X 41 s (L.take k)∧Full 20 t∧Kn [(0,v),(3,s),(4,I k)] t) L.length ?_ ?_
 ·exact⟨0,_,by omega,by omega,rfl,.refl _,by rw[List.take_zero];exact .nil,zF,zK⟩
 clear hF hA
 rintro z t m X ⟨k,s,hk,rfl,rfl,hg,os,hF,hA⟩
 simp only[Kn,and_true] at hA
 refine zS ?_
 have zf:=@hl
 refine V.lz ?_
 refine zS ?_
 refine V.condP zP (fun hlt=>?_) (fun hlt=>?_)
 ·have hlt' : k<L.length:=by omega
  obtain⟨p,x,hp,hx⟩:=h.at ri hlt'
  obtain⟨hx1,hx2⟩:=hx _ hg
  have hpk:=hp .i64
  refine zS ?_
  refine V.run ?_
  have zf:=And.intro @hpk<|@hx1
  refine VI.sz 5 ?_
  simp only[ds]
  refine VI.callR zA (f38_ow hx2 (hr _ (List.getElem_mem hlt'))) zA (fun y X1 ⟨g1,o1⟩=>?_)
  have os1:=os.keep (ri.from _) g1
  have hy : From RI H.next X1 y L[k]:=⟨(ow_ri o1),fun i hi=>Nat.le_trans hg.1 (o1.from i hi)⟩
  obtain⟨w,X2,e1,e2,e3,e4,e5,e6⟩:=OwN.pushB (ri.from _) (bytes:=24) (Nat.le_trans hg.1 g1.1) os1 hy (os.sepNew (Nat.le_refl _) o1.from) (by rw[List.length_take];omega) (by rw[List.length_take];omega)
  obtain⟨p1,q1,_,_⟩:=sl1 (ri.sl hy.1)
  have zf:=And.intro @e1<|And.intro @p1<|@q1
  refine VI.lz ?_
  refine zS ?_
  refine V.l0 ?_
  refine V.nil (Or.inl ⟨rfl,L.length-(k+1),by omega,?_⟩)
  refine⟨k+1,w,by omega,rfl,rfl,e3.grow (hg.trans g1) (Nat.le_refl _),?_,zF,zK⟩
  rw[tk1 hlt']
  exact e2
 ·refine V.exit ?_
  refine zX ?_
  refine V.nil (Or.inr ⟨by simp,?_⟩)
  refine zX ?_
  refine zS ?_
  refine V.l0 ?_
  refine zS ?_
  refine V.ret (V.rets rfl (Lv.retF (by simp +contextual (disch:=first|omega|simp only[nx];omega) only[D1,cells_alloc_at,cells_alloc_ne,cells_set_at,cells_set_ne,yres,yres1,yresL,qA,qB,qC,D5,hF,hA,↓reduceIte,qD,qE];rfl) ?_))
  have e : L.take k=L:=List.take_of_length_le (by omega)
  rw[e] at os
  exact⟨hg,os⟩
theorem r3_w (l : List R3) : ∀ x∈l.map r3,x.length=3:=by
 intro x hx
 obtain⟨y,_,rfl⟩:=List.mem_map.1 hx
 rfl
theorem f19_ok {H : Heap} {c f : Value} {T : Tb} (h : TV H c f T) (hs : sh T) : F Try.prog 19 ⟨[.agg ⟨[I T.b,c,f]⟩]⟩ H (fun w Y=>Grow H Y∧∃ c' f',w=.agg ⟨[I T.b,c',f']⟩∧TV Y c' f' T):=by
 obtain⟨s1,s2,s3⟩:=hs
 refine F.entryL rfl dg19 do19 de19 rfl (by kernel_rfl) ?_
 simp only[sets]
 refine V.re [(0,.agg ⟨[I T.b,c,f]⟩)] (N:=37) zE zY ?_
 intro t hF hA
 simp only[Kn,and_true] at hA
 refine zS ?_
 refine V.l0 ?_
 refine V.heap (fun X=>Grow H X∧Bx X H.next [I T.b,c,f] 25∧Bx X (H.next+1) [I 0,.slice none 0 0,.slice none 0 0] 33∧H.next+2≤X.next) ⟨?_,?_,?_,?_⟩ ?_
 ·exact zW
 ·exact zB
 ·exact zB
 ·simp only[nx];omega
 rintro H1 ⟨g1,b1,c1,n1⟩
 have h1:=h.grow g1
 refine zS ?_
 refine V.draw ?_
 have zf:=b1.2
 refine VD.nz 4 ?_
 simp only[ds]
 refine VD.callR zA (f21_ok h1.c s1 s2) zA (fun v2 H2 ⟨g2,o2⟩=>?_)
 have b2:=b1.grow g2
 have c2:=c1.grow g2
 have m2:=g2.1
 obtain⟨p1,q1,_,_⟩:=sl1 o2.nest.isS
 have zf:=And.intro @p1<|@q1
 refine VD.dz ?_ ?_ rfl ?_
 ·exact zM
 ·simp only[dcAll,dcOk,wantD,List.cons_append,List.nil_append,true_and,and_true]
  have zf:=And.intro b1.2<|b2.2
  exact⟨zR,fun _=>⟨_,_,_,rfl,rfl,rfl,(by simp only[D5,hF,hA,↓reduceIte,qD,qE];simp[inBound]),fun _=>⟨_,_,_,cells_alloc _ _ _ _,(by first|exact An_inb|rfl)⟩⟩⟩
 refine V.heap (fun X=>Grow H2 X∧Bx X H2.next [I T.b,v2,.slice none 0 0] 33∧H2.next+1=X.next) ⟨?_,?_,?_⟩ ?_
 ·exact zW
 ·exact zB
 ·simp only[nx]
 rintro H3 ⟨g3,e3,n3⟩
 have b3:=b2.grow g3
 have c3:=c2.grow g3
 have hlf:=h.fl
 refine zS ?_
 refine V.l0 ?_
 refine zS ?_
 refine V.loop (fun z t m X=>∃ (k : Nat) (s : Value),k≤T.F.length∧z=T.F.length-k∧m=[]∧Grow H2 X∧H3.next≤X.next∧Bx X H2.next [I T.b,v2,s] 33∧OwW 3 H3 X 83 s ((T.F.take k).map r3)∧Full 37 t∧Kn [(1,PT H.next),(2,PT (H.next+1)),(3,PT H2.next),(4,I k)] t) T.F.length ?_ ?_
 ·exact⟨0,_,by omega,by omega,rfl,g3,Nat.le_refl _,e3,.nil,zF,zK⟩
 clear hF hA
 rintro z t m X ⟨k,s,hk,rfl,rfl,hg,hn,ex,os,hF,hA⟩
 simp only[Kn,and_true] at hA
 have bX:=b2.grow hg
 have cX:=c2.grow hg
 have gX:=(g1.trans g2).trans hg
 refine zS ?_
 have zf:=And.intro bX.2<|@hlf
 refine V.lz ?_
 refine zS ?_
 refine V.condP zP (fun hlt=>?_) (fun hlt=>?_)
 ·have hlt' : k<T.F.length:=by omega
  obtain⟨p,hp,hx⟩:=h.fat hlt'
  have hx1:=hx X gX
  refine zS ?_
  have zf:=And.intro bX.2<|And.intro @hp<|@hx1
  refine V.lz ?_
  refine V.heap (fun Y=>Grow X Y∧Bx Y X.next (r3 T.F[k]) 76) ⟨?_,?_⟩ ?_
  ·exact zW
  ·exact zB
  rintro Y ⟨gy,by1⟩
  have exY:=ex.grow gy
  have osY:=os.keep gy
  have ly:=exY.1
  have gy1:=gy.1
  obtain⟨u,Z,a1,a2,a3,a4,a5,a6⟩:=OwW.pushB (bytes:=24) (x:=r3 T.F[k]) (by decide) (Nat.le_trans hn gy1) osY (r3_w _) rfl rfl (by rw[List.length_map,List.length_take];omega) (by rw[List.length_map,List.length_take];omega)
  have exZ:=a3.bx exY (by omega)
  have hsS : ∃ p n c,s=.slice p n c:=(os.sw (r3_w _)).isS
  have huS : ∃ p n c,u=.slice p n c:=(a2.sw (by have:=r3_w (T.F.take k++[T.F[k]]);rwa [List.map_append] at this)).isS
  obtain⟨p1',q1',_,r1'⟩:=sl1 huS
  have lz:=exZ.1
  refine zS ?_
  have zf:=And.intro exY.2<|And.intro by1.2<|And.intro @a1<|And.intro exZ.2<|@r1'
  refine V.lz ?_
  refine V.heap (fun W=>Keep H2.next Z W∧Z.next=W.next∧Bx W H2.next [I T.b,v2,u] 33∧∀ i,i≠H2.next→W.get i=Z.get i) ⟨?_,?_,?_,?_⟩ ?_
  ·refine⟨by simp only[nx];omega,fun j hj=>?_⟩
   rw[Heap.get_set,if_neg (by omega)]
  ·simp only[nx]
  ·exact zB
  ·intro i hi
   rw[Heap.get_set,if_neg hi]
  rintro W ⟨w1,w2,w3,w4⟩
  refine zS ?_
  refine V.l0 ?_
  refine V.nil (Or.inl ⟨rfl,T.F.length-(k+1),by omega,?_⟩)
  refine⟨k+1,u,hlt',rfl,rfl,?_,by omega,w3,?_,zF,zK⟩
  ·exact w1.grow (((a3.less (by omega)).grow (hg.trans gy) (Nat.le_refl _))) (Nat.le_refl _)
  ·rw[tk1 hlt',List.map_append]
   exact a2.loc (by omega) (fun i hi=>w4 i (by omega))
 ·obtain rfl : k=T.F.length:=by omega
  rw[List.take_length] at os
  refine V.exit ?_
  refine zX ?_
  refine V.nil (Or.inr ⟨by simp,?_⟩)
  refine zX ?_
  obtain⟨p3,q3,_,_⟩:=sl1 (os.sw (r3_w _)).isS
  have lx:=ex.1
  have lc:=cX.1
  refine zS ?_
  have zf:=And.intro ex.2<|And.intro cX.2<|And.intro @p1<|@p3
  refine V.lz ?_
  refine V.heap (fun W=>X.next=W.next∧Bx W (H.next+1) [I T.b,v2,s] 33∧∀ i,i≠H.next+1→W.get i=X.get i) ⟨?_,?_,?_⟩ ?_
  ·simp only[nx]
  ·exact zB
  ·intro i hi
   rw[Heap.get_set,if_neg hi]
  rintro W ⟨w1,w2,w3⟩
  refine zS ?_
  refine V.ret (V.rets rfl (Lv.retF (by simp +contextual (disch:=first|omega|simp only[nx];omega) only[D1,cells_alloc_at,cells_alloc_ne,cells_set_at,cells_set_ne,yres,yres1,yresL,qA,qB,qC,D5,hF,hA,↓reduceIte,qD,qE,w2.2];rfl) ?_))
  refine⟨⟨by rw[← w1];exact gX.1,fun i hi=>by rw[w3 i (by omega)];exact gX.2 i hi⟩,_,_,rfl,?_,?_⟩
  ·exact ((o2.keep (ri.from _) hg).loc ri (by omega) (fun i hi=>w3 i (by omega))).nest.weak (fun x r h=>h.1)
  ·exact (os.loc (by omega) (fun i hi=>w3 i (by omega))).sw (r3_w _)
end Go.Xe.TRX
