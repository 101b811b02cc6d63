/- Totals that are divided by weights: sums of lists, the first greatest element, and the parts. Conditions: none. -/
import Derived.Test.YthgjooibimphiaaZu
import Derived.Test.YthgjooibimphiaaTRY
namespace Go.Xe.Rnd
def sm : List Int→Int
 | []=>0
 | x::l=>x+sm l
theorem sm_app : ∀ (a b : List Int),sm (a++b)=sm a+sm b
 | [],b=>by simp[sm]
 | x::a,b=>by simp only[List.cons_append,sm,sm_app a b];omega
theorem sm_take {l : List Int} {k : Nat} (h : k<l.length) : sm (l.take (k+1))=sm (l.take k)+l[k]:=by
 rw[List.take_succ_eq_append_getElem h,sm_app];simp[sm]
theorem sm_bound {c : Int} : ∀ {l : List Int},(∀ x∈l,0≤x∧x≤c)→0≤sm l∧sm l≤l.length*c
 | [],_=>by simp[sm]
 | x::l,h=>by
  have h1:=h x (by simp)
  have h2:=sm_bound (l:=l) (fun y hy=>h y (by simp[hy]))
  simp only[sm,List.length_cons]
  have : ((l.length+1 : Nat) : Int)*c=(l.length : Int)*c+c:=by push_cast;rw[Int.add_mul];simp
  omega
theorem sm_map_mul (c : Int) : ∀ l : List Int,sm (l.map fun x=>c*x)=c*sm l
 | []=>by simp[sm]
 | x::l=>by simp only[List.map_cons,sm,sm_map_mul c l,Int.mul_add]
structure FMx (l : List Int) (i : Nat) : Prop where
 lt : i<l.length
 ge : ∀ j,j<l.length→l.getD j 0≤l.getD i 0
 first : ∀ j,j<i→l.getD j 0<l.getD i 0
theorem FMx.uniq {l : List Int} {i j : Nat} (h : FMx l i) (k : FMx l j) : i=j:=by
 rcases Nat.lt_trichotomy i j with h1|h1|h1
 ·have a:=k.first i h1;have b:=h.ge j k.lt;omega
 ·exact h1
 ·have a:=h.first j h1;have b:=k.ge i h.lt;omega
def fmx : List Int→Nat
 | []=>0
 | [_]=>0
 | x::y::l=>if x<(y::l).getD (fmx (y::l)) 0 then fmx (y::l)+1 else 0
theorem fmx_ok : ∀ {l : List Int},l≠[]→FMx l (fmx l)
 | [],h=>absurd rfl h
 | [x],_=>⟨by simp[fmx],fun j hj=>by simp at hj;subst hj;simp[fmx],fun j hj=>by simp[fmx] at hj⟩
 | x::y::l,_=>by
  have ih:=fmx_ok (l:=y::l) (by simp)
  simp only[fmx]
  split
  ·rename_i hx
   refine⟨by have:=ih.lt;simp only[List.length_cons] at this ⊢;omega,fun j hj=>?_,fun j hj=>?_⟩
   ·cases j with
    | zero=>simp only[List.getD_cons_zero,List.getD_cons_succ];omega
    | succ j=>simp only[List.getD_cons_succ];exact ih.ge j (by simp only[List.length_cons] at hj ⊢;omega)
   ·cases j with
    | zero=>simp only[List.getD_cons_zero,List.getD_cons_succ];omega
    | succ j=>simp only[List.getD_cons_succ];exact ih.first j (by omega)
  ·rename_i hx
   refine⟨by simp,fun j hj=>?_,fun j hj=>by omega⟩
   cases j with
   | zero=>exact Int.le_refl _
   | succ j=>
    simp only[List.getD_cons_zero,List.getD_cons_succ]
    have:=ih.ge j (by simp only[List.length_cons] at hj ⊢;omega)
    omega
def dvn (S : Int) : Nat→List Int→List Int→List Int
 | 0,o,_=>o
 | n+1,o,g=>dvn S n (o.set (fmx g) (o.getD (fmx g) 0+1)) (g.set (fmx g) (g.getD (fmx g) 0-S))
def par (t S : Int) (ws : List Int) : List Int:=ws.map fun w=>(t*w).tdiv S
def lak (t S : Int) (ws : List Int) : List Int:=ws.map fun w=>t*w-(t*w).tdiv S*S
def rst (t S : Int) (ws : List Int) : Int:=t-sm (par t S ws)
def dv (ws : List Int) (t : Int) : List Int:=dvn (sm ws) (rst t (sm ws) ws).toNat (par t (sm ws) ws) (lak t (sm ws) ws)
theorem par_len (t S : Int) (ws : List Int) : (par t S ws).length=ws.length:=by simp[par]
theorem lak_len (t S : Int) (ws : List Int) : (lak t S ws).length=ws.length:=by simp[lak]
theorem lak_at {t S w : Int} (ht : 0≤t) (hw : 0≤w) (hS : 0<S) : 0≤t*w-(t*w).tdiv S*S∧t*w-(t*w).tdiv S*S<S:=by
 have h0 : 0≤t*w:=Int.mul_nonneg ht hw
 rw[Int.tdiv_eq_ediv_of_nonneg h0]
 have h1:=Int.emod_nonneg (t*w) (show S≠0 by omega)
 have h2:=Int.emod_lt_of_pos (t*w) hS
 have h3:=Int.emod_add_mul_ediv (t*w) S
 have h4 : S*(t*w/S)=(t*w/S)*S:=Int.mul_comm _ _
 omega
theorem sm_sub (a b : Int→Int) : ∀ l : List Int,sm (l.map fun x=>a x-b x)=sm (l.map a)-sm (l.map b)
 | []=>rfl
 | x::l=>by simp only[List.map_cons,sm,sm_sub a b l];omega
theorem sm_mulr (c : Int) (f : Int→Int) : ∀ l : List Int,sm (l.map fun x=>f x*c)=sm (l.map f)*c
 | []=>by simp[sm]
 | x::l=>by simp only[List.map_cons,sm,sm_mulr c f l,Int.add_mul]
theorem lak_sum {ws : List Int} {t : Int} : sm (lak t (sm ws) ws)=rst t (sm ws) ws*sm ws:=by
 unfold lak rst par
 rw[sm_sub (fun w=>t*w) (fun w=>(t*w).tdiv (sm ws)*sm ws),sm_map_mul,sm_mulr (sm ws) (fun w=>(t*w).tdiv (sm ws)),Int.sub_mul]
theorem rst_bound {ws : List Int} {t : Int} (ht : 0≤t) (hw : ∀ w∈ws,0≤w) (hS : 0<sm ws) : 0≤rst t (sm ws) ws∧rst t (sm ws) ws<ws.length:=by
 have h1 : ∀ x∈lak t (sm ws) ws,0≤x∧x≤sm ws-1:=by
  intro x hx
  obtain⟨w,hw1,rfl⟩:=List.mem_map.1 hx
  have:=lak_at ht (hw w hw1) hS
  omega
 obtain⟨h2,h3⟩:=sm_bound h1
 have h6 : ws.length≠0:=by
  intro h0
  have : ws=[]:=List.length_eq_zero_iff.1 h0
  subst this
  simp[sm] at hS
 rw[lak_sum,lak_len] at *
 generalize hr : rst t (sm ws) ws=r at *
 generalize sm ws=S at *
 refine⟨?_,?_⟩
 ·apply Int.not_lt.1;intro hlt
  have : r*S<0:=Int.mul_neg_of_neg_of_pos hlt hS
  omega
 ·apply Int.not_le.1;intro hle
  have h4 : (ws.length : Int)*S≤r*S:=Int.mul_le_mul_of_nonneg_right hle (by omega)
  have h5 : (ws.length : Int)*(S-1)=(ws.length : Int)*S-ws.length:=by rw[Int.mul_sub];simp
  omega
def gap (S : Int) (g : List Int) : List Int:=g.map fun x=>S-x
theorem gap_len (S : Int) (g : List Int) : (gap S g).length=g.length:=by simp[gap]
theorem gap_at {S : Int} {g : List Int} {j : Nat} (h : j<(gap S g).length) : (gap S g)[j]=S-g.getD j 0:=by
 have : j<g.length:=by simpa [gap] using h
 simp[gap,List.getD_eq_getElem?_getD,List.getElem?_eq_getElem this]
theorem gap_set (S : Int) (g : List Int) (i : Nat) (x : Int) : (gap S g).set i (S-x)=gap S (g.set i x):=by simp[gap,List.map_set]
theorem par_take {t S : Int} {ws : List Int} {k : Nat} (h : k<ws.length) : par t S (ws.take (k+1))=par t S (ws.take k)++[(t*ws[k]).tdiv S]:=by
 unfold par;rw[List.take_succ_eq_append_getElem h,List.map_append];rfl
theorem lak_take {t S : Int} {ws : List Int} {k : Nat} (h : k<ws.length) : lak t S (ws.take (k+1))=lak t S (ws.take k)++[t*ws[k]-(t*ws[k]).tdiv S*S]:=by
 unfold lak;rw[List.take_succ_eq_append_getElem h,List.map_append];rfl
theorem prod_bound {t w S : Int} (ht : 0≤t∧t≤100000) (hw : 0≤w∧w≤10000) (hS : 0<S∧S≤120000) : (0≤t*w∧t*w≤1000000000)∧(0≤(t*w).tdiv S∧(t*w).tdiv S≤1000000000)∧(0≤((t*w).tdiv S+1)*S∧((t*w).tdiv S+1)*S≤2000000000)∧(0≤(t*w).tdiv S*S∧(t*w).tdiv S*S≤1000000000)∧((t*w).tdiv S+1)*S-t*w=S-(t*w-(t*w).tdiv S*S):=by
 have h0 : 0≤t*w:=Int.mul_nonneg ht.1 hw.1
 have h1 : t*w≤100000*10000:=Int.mul_le_mul ht.2 hw.2 hw.1 (by decide)
 have h2:=lak_at ht.1 hw.1 hS.1
 have h3 : ((t*w).tdiv S+1)*S=(t*w).tdiv S*S+S:=by rw[Int.add_mul];simp
 have h4 : 0≤(t*w).tdiv S:=by rw[Int.tdiv_eq_ediv_of_nonneg h0];exact Int.ediv_nonneg h0 (by omega)
 have h5 : (t*w).tdiv S*1≤(t*w).tdiv S*S:=Int.mul_le_mul_of_nonneg_left (by omega) h4
 omega
theorem getD_mem {l : List Int} {i : Nat} (h : i<l.length) : l.getD i 0∈l:=by
 rw[List.getD_eq_getElem?_getD,List.getElem?_eq_getElem h];exact List.getElem_mem h
theorem mem_set {l : List Int} {i : Nat} {x y : Int} (h : y∈l.set i x) : y∈l∨y=x:=(List.mem_or_eq_of_mem_set h)
end Go.Xe.Rnd
/- What the functions of the layer round come to: lists of numbers. Conditions: none. -/
-- MOD TR
namespace Go.Xe.TRX
open Go Go.Xe Go.Proofs
open Nat renaming reduceLeDiff → qA, reduceSub → qB, reduceAdd → qC, reduceEqDiff → qD, reduceLT → qE
open Int renaming reduceNegSucc → qF, reduceEq → qG
open Go.Xe.V renaming seq → sA, block → sB, scope → sC, skip → sD, close → sE
open Go.Xe renaming pth → P
open Go.Xe.Rnd
set_option maxRecDepth 100000
set_option maxHeartbeats 3200000
set_option linter.unusedSimpArgs false
noncomputable def d61 : FCode:=(.seq (.run (.go (.move (.con (.bool false))) (P 4)::
[])) (.seq (.seq (.run (.go (.move (tm 0)) (P 7)::
.go (.len 0 (tm 7)) (P 8)::
.go (.move (.con (.int .i64 (.ofNat 0)))) (P 9)::
[])) (.block 0 (.loop (.seq (.run (.go (.bin .lss 3 (tm 9) (tm 8)) (P 10)::
[])) (.seq (.cond (tm 10) .skip (.exit 0)) (.seq (.block 1 (.seq (.run (.go (.indexAddr none 1 (tm 7) (tm 9)) (P 11)::
.go (.load1 (tm 11)) (P 12)::
.go (.move (tm 12)) (P 6)::
[])) (.seq (.run (.go (.move (tm 1)) (P 13)::
.go (.move (tm 6)) (P 14)::
.go (.call (tm 13) [tm 14]) (P 15)::
.go (.un .not (tm 15)) (P 16)::
[])) (.cond (tm 16) (.seq (.run (.go (.move (.con (.bool false))) (P 4)::
[])) .ret) .skip)))) (.run (.go (.bin .add 3 (tm 9) (.con (.int .i64 (.ofNat 1)))) (P 17)::
.go (.move (tm 17)) (P 9)::
[])))))))) (.seq (.run (.go (.move (.con (.bool true))) (P 4)::
[])) .ret)))
theorem de61 : @compF Try.prog (Gl.none Try.prog) Try.f61 2=.mk d61 (mkTT 18) [(P 0),(P 1)] [.tmp (P 4)]:=by kernel_rfl
theorem dg61 : Try.prog.funcs[61]?=some Try.f61:=Try.func61
theorem do61 : okF Try.prog Try.f61=true:=by kernel_rfl
noncomputable def d64 : FCode:=(.seq (.run (.go (.move (.con (.int .i64 (.ofNat 0)))) (P 2)::
[])) (.seq (.run (.go (.move (.con (.int .i64 (.ofNat 0)))) (P 3)::
[])) (.seq (.seq (.run (.go (.move (tm 0)) (P 6)::
.go (.len 0 (tm 6)) (P 7)::
.go (.move (.con (.int .i64 (.ofNat 0)))) (P 8)::
[])) (.block 0 (.loop (.seq (.run (.go (.bin .lss 3 (tm 8) (tm 7)) (P 9)::
[])) (.seq (.cond (tm 9) .skip (.exit 0)) (.seq (.block 1 (.seq (.run (.go (.indexAddr none 1 (tm 6) (tm 8)) (P 10)::
.go (.load1 (tm 10)) (P 11)::
.go (.move (tm 11)) (P 5)::
[])) (.run (.go (.move (tm 3)) (P 12)::
.go (.move (tm 5)) (P 13)::
.go (.bin .add 3 (tm 12) (tm 13)) (P 14)::
.go (.move (tm 14)) (P 3)::
[])))) (.run (.go (.bin .add 3 (tm 8) (.con (.int .i64 (.ofNat 1)))) (P 15)::
.go (.move (tm 15)) (P 8)::
[])))))))) (.seq (.run (.go (.move (tm 3)) (P 16)::
.go (.move (tm 16)) (P 2)::
[])) .ret))))
theorem de64 : @compF Try.prog (Gl.none Try.prog) Try.f64 1=.mk d64 (mkTT 17) [(P 0)] [.tmp (P 2)]:=by kernel_rfl
theorem dg64 : Try.prog.funcs[64]?=some Try.f64:=Try.func64
theorem do64 : okF Try.prog Try.f64=true:=by kernel_rfl
noncomputable def d38 : FCode:=(.seq (.run (.go (.move (.con (.slice none 0 0))) (P 2)::
[])) (.seq (.run (.go (.move (tm 0)) (P 3)::
.go (.append 3 1 8 (.con (.slice none 0 0)) (tm 3)) (P 4)::
.go (.move (tm 4)) (P 2)::
[])) .ret))
theorem de38 : @compF Try.prog (Gl.none Try.prog) Try.f38 1=.mk d38 (mkTT 5) [(P 0)] [.tmp (P 2)]:=by kernel_rfl
theorem dg38 : Try.prog.funcs[38]?=some Try.f38:=Try.func38
theorem do38 : okF Try.prog Try.f38=true:=by kernel_rfl
def Li (l : List Int) : List Value:=l.map I
theorem Li_len (l : List Int) : (Li l).length=l.length:=by simp[Li]
theorem Li_at {l : List Int} {k : Nat} (h : k<l.length) : (Li l)[k]?=some (I l[k]):=by simp[Li,h]
theorem Li_ok (l : List Int) : (Li l).all ok1=true:=by simp[Li,ok1_int]
theorem tk1 {α : Type} {l : List α} {k : Nat} (h : k<l.length) : l.take (k+1)=l.take k++[l[k]]:=List.take_succ_eq_append_getElem h
structure LS (H : Heap) (x : Value) (l : List Int) : Prop where
 s : Sl H x (Li l)
theorem LS.grow {A B : Heap} (g : Grow A B) {x : Value} {l : List Int} (h : LS A x l) : LS B x l:=⟨h.s.grow g⟩
theorem LS.len {H : Heap} {x : Value} {l : List Int} (h : LS H x l) : ∀ X,ylen 0 X x=some (I l.length):=by
 intro X
 have:=h.s.len
 rw[Li_len] at this
 obtain⟨p,n,c,rfl⟩:=h.s.isS
 exact this
theorem LS.at {H : Heap} {x : Value} {l : List Int} (h : LS H x l) {k : Nat} (hk : k<l.length) : ∃ p,yindexAddr none 1 x (I k)=some p∧∀ H',Grow H H'→yload1 H' p=some (I l[k]):=h.s.get (Li_at hk) rfl
theorem f61_ok {H : Heap} {x : Value} {l : List Int} (a b : Int) (h : LS H x l) (hn : l.length≤1048576) : Gives Try.prog 61 [x,.func (.func 59) ⟨[.agg ⟨A2 a b⟩]⟩ ⟨[]⟩] H (.bool (decide (∀ v∈l,a≤v∧v≤b))):=by
 have hl:=h.len
 refine F.entryL rfl dg61 do61 de61 rfl (by kernel_rfl) ?_
 simp only[sets]
 refine V.re [(0,x),(1,.func (.func 59) ⟨[.agg ⟨A2 a b⟩]⟩ ⟨[]⟩)] (N:=18) zE zY ?_
 intro t hF hA
 simp only[Kn,and_true] at hA
 refine zS ?_
 refine V.l0 ?_
 refine zS ?_
 have zf:=@hl
 refine V.lz ?_
 refine zS ?_
 refine V.loop (fun z t m X=>∃ (k : Nat),k≤l.length∧z=l.length-k∧m=[]∧Grow H X∧(∀ v∈l.take k,a≤v∧v≤b)∧Full 18 t∧Kn [(0,x),(1,.func (.func 59) ⟨[.agg ⟨A2 a b⟩]⟩ ⟨[]⟩),(7,x),(8,I l.length),(9,I k)] t) l.length ?_ ?_
 ·exact⟨0,by omega,by omega,rfl,.refl _,by simp,zF,zK⟩
 clear hF hA
 rintro z t m X ⟨k,hk,rfl,rfl,hg,hall,hF,hA⟩
 simp only[Kn,and_true] at hA
 refine zS ?_
 refine V.l0 ?_
 refine zS ?_
 refine V.condP zP (fun hlt=>?_) (fun hlt=>?_)
 ·have hlt' : k<l.length:=by omega
  obtain⟨p,hp,hx⟩:=h.at hlt'
  have hx1:=hx X hg
  refine zS ?_
  have zf:=And.intro @hp<|@hx1
  refine V.lz ?_
  refine zS ?_
  refine V.run ?_
  refine VI.s0 2 ?_
  simp only[ds]
  refine VI.callR zA (f59_ok a b l[k] _) zA (fun v X2 ⟨hv,g2⟩=>?_)
  subst hv
  refine VI.l0 ?_
  refine zS ?_
  refine V.condP zP (fun hb=>?_) (fun hb=>?_)
  ·refine zS ?_
   refine V.l0 ?_
   refine zS ?_
   refine V.ret (V.rets rfl (Or.inr ⟨by simp,V.rets rfl (Lv.retG (by simp +contextual (disch:=first|omega|simp only[nx];omega) only[D1,cells_alloc_at,cells_alloc_ne,cells_set_at,cells_set_ne,yres,yres1,yresL,qA,qB,qC,D5,hF,hA,↓reduceIte,qD,qE];rfl) ?_ ?_)⟩))
   ·exact hg.trans g2
   ·congr 1
    exact (decide_eq_false (fun hh=>hb (hh _ (List.getElem_mem hlt')))).symm
  ·refine zS ?_
   refine V.l0 ?_
   refine V.nil (Or.inl ⟨rfl,l.length-(k+1),by omega,?_⟩)
   refine⟨k+1,hlt',rfl,rfl,hg.trans g2,?_,zF,zK⟩
   intro v hv
   rw[tk1 hlt'] at hv
   rcases List.mem_append.1 hv with hv|hv
   ·exact hall v hv
   ·rw[List.mem_singleton.1 hv];omega
 ·obtain rfl : k=l.length:=by omega
  rw[List.take_length] at hall
  refine V.exit ?_
  refine zX ?_
  refine V.nil (Or.inr ⟨by simp,?_⟩)
  refine zX ?_
  refine zS ?_
  refine V.l0 ?_
  refine zS ?_
  refine V.ret (V.rets rfl (Lv.retG (by simp +contextual (disch:=first|omega|simp only[nx];omega) only[D1,cells_alloc_at,cells_alloc_ne,cells_set_at,cells_set_ne,yres,yres1,yresL,qA,qB,qC,D5,hF,hA,↓reduceIte,qD,qE];rfl) ?_ ?_))
  ·exact hg
  ·rw[decide_eq_true hall]
theorem f64_ok {H : Heap} {x : Value} {l : List Int} (h : LS H x l) (hn : l.length≤20) (hb : ∀ v∈l,0≤v∧v≤1000000) : Gives Try.prog 64 [x] H (I (sm l)):=by
 have hl:=h.len
 refine F.entryL rfl dg64 do64 de64 rfl (by kernel_rfl) ?_
 simp only[sets]
 refine V.re [(0,x)] (N:=17) zE zY ?_
 intro t hF hA
 simp only[Kn,and_true] at hA
 refine zS ?_
 refine V.l0 ?_
 refine zS ?_
 refine V.l0 ?_
 refine zS ?_
 have zf:=@hl
 refine V.lz ?_
 refine zS ?_
 refine V.loop (fun z t m X=>∃ (k : Nat),k≤l.length∧z=l.length-k∧m=[]∧Grow H X∧Full 17 t∧Kn [(0,x),(3,I (sm (l.take k))),(6,x),(7,I l.length),(8,I k)] t) l.length ?_ ?_
 ·exact⟨0,by omega,by omega,rfl,.refl _,zF,zK⟩
 clear hF hA
 rintro z t m X ⟨k,hk,rfl,rfl,hg,hF,hA⟩
 simp only[Kn,and_true] at hA
 refine zS ?_
 refine V.l0 ?_
 refine zS ?_
 refine V.condP zP (fun hlt=>?_) (fun hlt=>?_)
 ·have hlt' : k<l.length:=by omega
  obtain⟨p,hp,hx⟩:=h.at hlt'
  have hx1:=hx X hg
  have hs:=sm_take hlt'
  have hbk:=hb _ (List.getElem_mem hlt')
  have hbt:=sm_bound (c:=1000000) (l:=l.take k) (fun v hv=>hb v (List.mem_of_mem_take hv))
  have hlk : (l.take k).length=k:=by rw[List.length_take];omega
  rw[hlk] at hbt
  refine zS ?_
  have zf:=And.intro @hp<|@hx1
  refine V.lz ?_
  refine zS ?_
  refine V.l0 ?_
  refine zS ?_
  refine V.l0 ?_
  rw[← hs]
  refine V.nil (Or.inl ⟨rfl,l.length-(k+1),by omega,?_⟩)
  exact⟨k+1,hlt',rfl,rfl,hg,zF,zK⟩
 ·obtain rfl : k=l.length:=by omega
  refine V.exit ?_
  refine zX ?_
  refine V.nil (Or.inr ⟨by simp,?_⟩)
  refine zX ?_
  rw[List.take_length] at hA
  refine zS ?_
  refine V.l0 ?_
  refine zS ?_
  refine V.ret (V.rets rfl (Lv.retG (by simp +contextual (disch:=first|omega|simp only[nx];omega) only[D1,cells_alloc_at,cells_alloc_ne,cells_set_at,cells_set_ne,yres,yres1,yresL,qA,qB,qC,D5,hF,hA,↓reduceIte,qD,qE];rfl) ?_ ?_))
  ·exact hg
  ·rfl
theorem f38_ok {H : Heap} {x : Value} {l : List Int} (h : LS H x l) (hn : l.length≤1048576) : F Try.prog 38 ⟨[x]⟩ H (fun v X=>Grow H X∧LS X v l):=by
 obtain⟨w,H',k1,k2,k3,k4⟩:=Ow.append (H0:=H) (e:=3) (bytes:=8) (s:=.slice none 0 0) (l:=[]) (.refl H) .nil h.s (Li_ok l) (by simp[Li_len];omega) (by simp[Li_len];omega)
 rw[List.nil_append] at k2
 refine F.entryL rfl dg38 do38 de38 rfl (by kernel_rfl) ?_
 simp only[sets]
 refine V.re [(0,x)] (N:=5) zE zY ?_
 intro t hF hA
 simp only[Kn,and_true] at hA
 refine zS ?_
 refine V.l0 ?_
 refine zS ?_
 have zf:=@k1
 refine V.lz ?_
 refine zS ?_
 refine V.ret (V.rets rfl (Lv.retF (by simp +contextual (disch:=first|omega|simp only[nx];omega) only[D1,cells_alloc_at,cells_alloc_ne,cells_set_at,cells_set_ne,yres,yres1,yresL,qA,qB,qC,D5,hF,hA,↓reduceIte,qD,qE];rfl) ?_))
 exact⟨k3,⟨k2.sl⟩⟩
end Go.Xe.TRX
