/- What the functions of the layer border come to: the error of a map. Conditions: none. -/
import Derived.Test.YtgcdbdcnlhonfaaTBY
-- MOD TB
namespace Go.Xe.TBX
open Go Go.Xe Go.Proofs
open Nat renaming reduceLeDiff → qA, reduceSub → qB, reduceAdd → qC, reduceEqDiff → qD, reduceLT → qE
open Int renaming reduceNegSucc → qF, reduceEq → qG
open Go.Xe.V renaming seq → sA, block → sB, scope → sC, skip → sD, close → sE
open Go.Xe renaming pth → P
open Go.Xe.Rnd
set_option maxRecDepth 100000
set_option maxHeartbeats 3200000
set_option linter.unusedSimpArgs false
noncomputable def d92 : FCode:=(.seq (.run (.go (.box 34 (tm 0)) (P 1)::
.go (.move (.con (.bool false))) (P 2)::
[])) (.seq (.run (.go (.alloc 128 [(.int .i64 (.ofNat 0)),(.int .i64 (.ofNat 0)),(.int .i64 (.ofNat 0)),(.int .i64 (.ofNat 0))]) (P 3)::
[])) (.seq (.seq (.run (.go (.fieldAddr 2 (tm 1)) (P 6)::
.go (.load1 (tm 6)) (P 7)::
.go (.len 0 (tm 7)) (P 8)::
.go (.move (.con (.int .i64 (.ofNat 0)))) (P 9)::
[])) (.block 0 (.loop (.seq (.run (.go (.bin .lss 3 (tm 9) (tm 8)) (P 10)::
[])) (.seq (.cond (tm 10) .skip (.exit 0)) (.seq (.block 1 (.seq (.run (.go (.indexAddr none 5 (tm 7) (tm 9)) (P 11)::
.go (.loadN 5 (tm 11)) (P 12)::
.go (.alloc 74 [(.int .i64 (.ofNat 0)),(.int .i64 (.ofNat 0)),(.int .i64 (.ofNat 0)),(.int .i64 (.ofNat 0)),(.int .i64 (.ofNat 0))]) (P 5)::
.un (.store 5 (tm 5) (tm 12))::
[])) (.draw 9 (.go (.fieldAddr 0 (tm 5)) (P 13)::
.go (.load1 (tm 13)) (P 14)::
.go (.indexAddr (some 4) 1 (tm 3) (tm 14)) (P 15)::
.go (.load1 (tm 15)) (P 16)::
.go (.fieldAddr 2 (tm 5)) (P 17)::
.go (.load1 (tm 17)) (P 18)::
.go (.bin .add 3 (tm 16) (tm 18)) (P 19)::
.go (.indexAddr (some 4) 1 (tm 3) (tm 14)) (P 20)::
.un (.store 1 (tm 20) (tm 19))::
[]) [.ok,.ok,.ok,.ok,.ok,.ok,.ok,.ok,.ok]))) (.run (.go (.bin .add 3 (tm 9) (.con (.int .i64 (.ofNat 1)))) (P 21)::
.go (.move (tm 21)) (P 9)::
[])))))))) (.seq (.run (.go (.fieldAddr 0 (tm 1)) (P 22)::
.go (.load1 (tm 22)) (P 23)::
.go (.len 0 (tm 23)) (P 24)::
.go (.sliceSlow 128 (tm 3) none (some (tm 24))) (P 25)::
.go (.call (.con (.func (.func 86) ⟨[]⟩ ⟨[]⟩)) [(tm 25),(.con (.func (.func 111) ⟨[]⟩ ⟨[]⟩))]) (P 26)::
.go (.move (tm 26)) (P 2)::
[])) .ret))))
theorem de92 : @compF Try.prog (Gl.none Try.prog) Try.f92 1=.mk d92 (mkTT 27) [(P 0)] [.tmp (P 2)]:=by kernel_rfl
theorem dg92 : Try.prog.funcs[92]?=some Try.f92:=Try.func92
theorem do92 : okF Try.prog Try.f92=true:=by kernel_rfl
noncomputable def d56 : FCode:=(.seq (.run (.go (.box 34 (tm 0)) (P 1)::
.go (.move (.con (.bool false))) (P 2)::
[])) (.seq (.draw 43 (.go (.call (.con (.func (.func 84) ⟨[]⟩ ⟨[]⟩)) []) (P 3)::
.go (.fieldAddr 0 (tm 1)) (P 4)::
.go (.load1 (tm 4)) (P 5)::
.go (.len 0 (tm 5)) (P 6)::
.go (.call (.con (.func (.func 85) ⟨[]⟩ ⟨[]⟩)) [(tm 3),(tm 6)]) (P 7)::
.go (.move (tm 7)) (P 8)::
.gd (P 8) true (.fieldAddr 0 (tm 1)) (P 9)::
.gd (P 8) true (.load1 (tm 9)) (P 10)::
.gd (P 8) true (.call (.con (.func (.func 87) ⟨[]⟩ ⟨[]⟩)) []) (P 11)::
.gd (P 8) true (.makeFunc 85 [tm 11] []) (P 12)::
.gd (P 8) true (.call (.con (.func (.func 86) ⟨[]⟩ ⟨[]⟩)) [(tm 10),(tm 12)]) (P 13)::
.go (.pick (tm 8) (tm 13) (.con (.bool false))) (P 14)::
.go (.move (tm 14)) (P 15)::
.gd (P 15) true (.call (.con (.func (.func 84) ⟨[]⟩ ⟨[]⟩)) []) (P 16)::
.gd (P 15) true (.fieldAddr 1 (tm 1)) (P 17)::
.gd (P 15) true (.load1 (tm 17)) (P 18)::
.gd (P 15) true (.call (.con (.func (.func 85) ⟨[]⟩ ⟨[]⟩)) [(tm 16),(tm 18)]) (P 19)::
.go (.pick (tm 15) (tm 19) (.con (.bool false))) (P 20)::
.go (.move (tm 20)) (P 21)::
.gd (P 21) true (.fieldAddr 2 (tm 1)) (P 22)::
.gd (P 21) true (.load1 (tm 22)) (P 23)::
.gd (P 21) true (.len 0 (tm 23)) (P 24)::
.gd (P 21) true (.bin .gtr 3 (tm 24) (.con (.int .i64 (.ofNat 0)))) (P 25)::
.go (.pick (tm 21) (tm 25) (.con (.bool false))) (P 26)::
.go (.move (tm 26)) (P 27)::
.gd (P 27) true (.fieldAddr 2 (tm 1)) (P 28)::
.gd (P 27) true (.load1 (tm 28)) (P 29)::
.gd (P 27) true (.loadN 4 (tm 1)) (P 30)::
.gd (P 27) true (.makeFunc 89 [tm 30] []) (P 31)::
.gd (P 27) true (.call (.con (.func (.func 88) ⟨[]⟩ ⟨[]⟩)) [(tm 29),(tm 31)]) (P 32)::
.go (.pick (tm 27) (tm 32) (.con (.bool false))) (P 33)::
.go (.move (tm 33)) (P 34)::
.gd (P 34) true (.fieldAddr 3 (tm 1)) (P 35)::
.gd (P 34) true (.load1 (tm 35)) (P 36)::
.gd (P 34) true (.loadN 4 (tm 1)) (P 37)::
.gd (P 34) true (.makeFunc 91 [tm 37] []) (P 38)::
.gd (P 34) true (.call (.con (.func (.func 90) ⟨[]⟩ ⟨[]⟩)) [(tm 36),(tm 38)]) (P 39)::
.go (.pick (tm 34) (tm 39) (.con (.bool false))) (P 40)::
.go (.move (tm 40)) (P 41)::
.gd (P 41) true (.loadN 4 (tm 1)) (P 42)::
.gd (P 41) true (.call (.con (.func (.func 92) ⟨[]⟩ ⟨[]⟩)) [tm 42]) (P 43)::
.go (.pick (tm 41) (tm 43) (.con (.bool false))) (P 44)::
.go (.move (tm 44)) (P 2)::
[]) [.ok,.ok,.rd none (.load1 (tm 4)) (some (P 5)) [0],.rd none (.len 0 (tm 5)) (some (P 6)) [0],.ok,.ok,.ok,.rd (some ((P 8),true)) (.load1 (tm 9)) (some (P 10)) [9],.ok,.ok,.ok,.ok,.ok,.ok,.ok,.rd (some ((P 15),true)) (.load1 (tm 17)) (some (P 18)) [11],.ok,.ok,.ok,.ok,.ok,.ok,.ok,.ok,.ok,.ok,.ok,.ok,.ok,.ok,.ok,.ok,.ok,.ok,.ok,.ok,.ok,.ok,.ok,.ok,.ok,.ok,.ok]) .ret))
theorem de56 : @compF Try.prog (Gl.none Try.prog) Try.f56 1=.mk d56 (mkTT 45) [(P 0)] [.tmp (P 2)]:=by kernel_rfl
theorem dg56 : Try.prog.funcs[56]?=some Try.f56:=Try.func56
theorem do56 : okF Try.prog Try.f56=true:=by kernel_rfl
noncomputable def d55 : FCode:=(.seq (.run (.go (.box 34 (tm 0)) (P 1)::
.go (.move (.con (.bool false))) (P 2)::
[])) (.seq (.run (.go (.fieldAddr 0 (tm 1)) (P 3)::
.go (.load1 (tm 3)) (P 4)::
.go (.len 0 (tm 4)) (P 5)::
.go (.bin .leq 3 (tm 5) (.con (.int .i64 (.ofNat 4)))) (P 6)::
.go (.move (tm 6)) (P 7)::
.gd (P 7) true (.fieldAddr 2 (tm 1)) (P 8)::
.gd (P 7) true (.load1 (tm 8)) (P 9)::
.gd (P 7) true (.len 0 (tm 9)) (P 10)::
.gd (P 7) true (.bin .leq 3 (tm 10) (.con (.int .i64 (.ofNat 8)))) (P 11)::
.go (.pick (tm 7) (tm 11) (.con (.bool false))) (P 12)::
.go (.move (tm 12)) (P 13)::
.gd (P 13) true (.fieldAddr 3 (tm 1)) (P 14)::
.gd (P 13) true (.load1 (tm 14)) (P 15)::
.gd (P 13) true (.len 0 (tm 15)) (P 16)::
.gd (P 13) true (.bin .leq 3 (tm 16) (.con (.int .i64 (.ofNat 20)))) (P 17)::
.go (.pick (tm 13) (tm 17) (.con (.bool false))) (P 18)::
.go (.move (tm 18)) (P 2)::
[])) .ret))
theorem de55 : @compF Try.prog (Gl.none Try.prog) Try.f55 1=.mk d55 (mkTT 19) [(P 0)] [.tmp (P 2)]:=by kernel_rfl
theorem dg55 : Try.prog.funcs[55]?=some Try.f55:=Try.func55
theorem do55 : okF Try.prog Try.f55=true:=by kernel_rfl
noncomputable def d18 : FCode:=(.seq (.run (.go (.box 34 (tm 0)) (P 1)::
.go (.move (.con (.int .i64 (.ofNat 0)))) (P 2)::
[])) (.seq (.block 0 (.seq (.run (.go (.loadN 4 (tm 1)) (P 4)::
.go (.call (.con (.func (.func 55) ⟨[]⟩ ⟨[]⟩)) [tm 4]) (P 5)::
.go (.un .not (tm 5)) (P 6)::
.go (.move (tm 6)) (P 3)::
[])) (.cond (tm 3) (.seq (.run (.go (.move (.con (.int .i64 (.ofNat 3)))) (P 2)::
[])) .ret) (.seq (.run (.go (.loadN 4 (tm 1)) (P 8)::
.go (.call (.con (.func (.func 56) ⟨[]⟩ ⟨[]⟩)) [tm 8]) (P 9)::
.go (.un .not (tm 9)) (P 10)::
.go (.move (tm 10)) (P 7)::
[])) (.cond (tm 7) (.seq (.run (.go (.move (.con (.int .i64 (.ofNat 1)))) (P 2)::
[])) .ret) .skip))))) (.seq (.run (.go (.move (.con (.int .i64 (.ofNat 0)))) (P 2)::
[])) .ret)))
theorem de18 : @compF Try.prog (Gl.none Try.prog) Try.f18 1=.mk d18 (mkTT 11) [(P 0)] [.tmp (P 2)]:=by kernel_rfl
theorem dg18 : Try.prog.funcs[18]?=some Try.f18:=Try.func18
theorem do18 : okF Try.prog Try.f18=true:=by kernel_rfl
def so (f : St→Int) (d : Int) (S : List St) : Int:=sm (S.map fun s=>if s.old=d then f s else 0)
theorem so_take {f : St→Int} {d : Int} {S : List St} {k : Nat} (h : k<S.length) : so f d (S.take (k+1))=so f d (S.take k)+if S[k].old=d then f S[k] else 0:=by
 unfold so
 rw[tk1 h,List.map_append,sm_app]
 simp[sm]
theorem so_bd {f : St→Int} {d c : Int} (hc : 0≤c) {S : List St} (h : ∀ s∈S,0≤f s∧f s≤c) : 0≤so f d S∧so f d S≤S.length*c:=by
 have:=sm_bound (c:=c) (l:=S.map fun s=>if s.old=d then f s else 0) (fun x hx=>by
  obtain⟨s,hs,rfl⟩:=List.mem_map.1 hx
  have:=h s hs
  split<;>omega)
 rw[List.length_map] at this
 exact this
def n4 (f : Nat→Int) : List Value:=An 4 fun i=>I (f i)
theorem n4_len (f : Nat→Int) : (n4 f).length=4:=rfl
theorem n4_get {f : Nat→Int} {p : Nat} (h : p<4) : (n4 f)[p]?=some (I (f p)):=An_get h
theorem n4_set {f : Nat→Int} {p : Nat} {x : Int} : (n4 f).set p (I x)=n4 (fun i=>if i=p then x else f i):=by
 unfold n4
 rw[An_set]
 congr 1
 funext i
 show (if i=p then I x else I (f i))=I (if i=p then x else f i)
 split<;>rfl
theorem n4_cong {f g : Nat→Int} (h : ∀ i,i<4→f i=g i) : n4 f=n4 g:=An_cong (fun i hi=>by rw[h i hi])
theorem n4_0 : [I 0,I 0,I 0,I 0]=n4 fun _=>0:=rfl
def fl (n : Nat) (f : Nat→Int) : List Int:=(List.range n).map f
theorem fl_len (n : Nat) (f : Nat→Int) : (fl n f).length=n:=by simp[fl]
theorem fl_at {n : Nat} {f : Nat→Int} {i : Nat} (h : i<(fl n f).length) : (fl n f)[i]=f i:=by simp[fl]
theorem ls_cut4 {X : Heap} {i : Nat} {e : TypeId} {f : Nat→Int} {n : Nat} (b : Bx X i (n4 f) e) (hn : n≤4) : LS X (.slice (some ⟨i,0,none⟩) n 4) (fl n f):=
 ⟨.at b.1 b.2 hn (by rw[Li_len,fl_len]) (by rw[arr_size,n4_len];omega) (fun p x hx=>by
  have hp : p<n:=by
   have:=(List.getElem?_eq_some_iff.1 hx).1
   rw[Li_len,fl_len] at this
   exact this
  rw[arr_get,Nat.zero_add,n4_get (by omega)]
  simpa [Li,fl,hp] using hx)⟩
theorem sl128 (i n : Nat) (h : n≤4) : xslice Try.prog 128 (PT i) none (some (I n)) none=some (.slice (some ⟨i,0,none⟩) n 4):=by
 simp only[xslice,Try.underlying128,xbound]
 rw[if_pos (by omega)]
 rfl
def wpos (M : BM) : Prop:=AllP (fun v=>0<v) (fl M.O.length (fun d : Nat=>so (·.w) (d : Int) M.S))
instance (M : BM) : Decidable (wpos M):=by unfold wpos;infer_instance
theorem f92_ok {H : Heap} {o s j : Value} {M : BM} (h : MV H o s j M) (hs : ∀ st∈M.S,sok M st) (hS8 : M.S.length≤8) (hO : M.O.length≤4) : Gives Try.prog 92 [.agg ⟨mc o s j M.N⟩] H (.bool (decide (wpos M))):=by
 have hl:=h.s.len
 have hlo:=h.o.len
 obtain⟨po,no,co,rfl⟩:=h.o.s.isS
 obtain⟨ps,ns,cs,rfl⟩:=h.s.isS
 obtain⟨pj,nj,cj,rfl⟩:=h.j.isS
 refine F.entryL rfl dg92 do92 de92 rfl (by kernel_rfl) ?_
 simp only[sets]
 refine V.re [(0,.agg ⟨mc (.slice po no co) (.slice ps ns cs) (.slice pj nj cj) M.N⟩)] (N:=27) zE zY ?_
 intro t hF hA
 simp only[Kn,and_true] at hA
 refine zS ?_
 refine V.l0 ?_
 refine zS ?_
 refine V.l0 ?_
 refine V.heap (fun X=>Grow H X∧Bx X H.next (mc (.slice po no co) (.slice ps ns cs) (.slice pj nj cj) M.N) 34∧Bx X (H.next+1) (n4 fun _=>0) 128) ⟨?_,?_,?_⟩ ?_
 ·exact zW
 ·exact zB
 ·rw[← n4_0];exact zB
 rintro H1 ⟨g1,b1,c1⟩
 refine zS ?_
 have zf:=And.intro b1.2<|@hl
 refine V.lz ?_
 refine zS ?_
 refine V.loop (fun z t mm X=>∃ (k : Nat),k≤M.S.length∧z=M.S.length-k∧mm=[]∧Grow H X∧Bx X H.next (mc (.slice po no co) (.slice ps ns cs) (.slice pj nj cj) M.N) 34∧Bx X (H.next+1) (n4 fun d : Nat=>so (·.w) (d : Int) (M.S.take k)) 128∧Full 27 t∧Kn [(1,PT H.next),(3,PT (H.next+1)),(7,.slice ps ns cs),(8,I M.S.length),(9,I k)] t) M.S.length ?_ ?_
 ·exact⟨0,by omega,by omega,rfl,g1,b1,c1,zF,zK⟩
 clear hF hA
 rintro z t mm X ⟨k,hk,rfl,rfl,hg,bx,cx,hF,hA⟩
 simp only[Kn,and_true] at hA
 refine zS ?_
 refine V.l0 ?_
 refine zS ?_
 refine V.condP zP (fun hlt=>?_) (fun hlt=>?_)
 ·have hlt' : k<M.S.length:=by omega
  obtain⟨i,o,h1,h2⟩:=h.s.at hlt'
  have h3:=(h2 X hg).1
  have hsk:=hs _ (List.getElem_mem hlt')
  obtain⟨dn,hdn⟩:=Int.eq_ofNat_of_zero_le hsk.1.1
  have hd4 : dn<4:=by have:=hsk.1.2;omega
  have hst:=fun d : Int=>so_take (f:=(·.w)) (d:=d) hlt'
  have hb:=so_bd (f:=(·.w)) (d:=(dn : Int)) (c:=1000) (by omega) (S:=M.S.take k) (fun s hs'=>(hs s (List.mem_of_mem_take hs')).2.2.1)
  rw[List.length_take] at hb
  have hw:=hsk.2.2.1
  obtain⟨y,hy⟩ : ∃ y,y=M.S[k]:=⟨_,rfl⟩
  rw[← hy] at h3 hst hdn hw
  have hsw:=hst dn
  rw[if_pos hdn] at hsw
  have ia:=idx_arr (len:=4) (i:=H.next+1) (o:=0) (kd:=.i64) hd4
  obtain⟨fk,hfk⟩ : ∃ fk : Nat→Int,fk=fun d : Nat=>so (·.w) (d : Int) (M.S.take k):=⟨_,rfl⟩
  have efk : fk dn=so (·.w) dn (M.S.take k):=by rw[hfk]
  rw[← hfk] at cx
  rw[← efk] at hb hsw
  have e1:=n4_get (f:=fk) hd4
  have e2:=n4_set (f:=fk) (p:=dn) (x:=fk dn+y.w)
  refine zS ?_
  have zf:=And.intro @h1<|@h3
  refine V.lz ?_
  refine V.heap (fun Y=>Grow X Y∧Bx Y X.next (s5 y) 74) ⟨?_,?_⟩ ?_
  ·exact zW
  ·exact zB
  rintro X1 ⟨gx,bx1⟩
  have cx1:=cx.grow gx
  have n1:=cx1.1
  have nX:=gx.1
  have nc:=cx.1
  refine zS ?_
  have zf:=And.intro bx1.2<|And.intro @hdn<|And.intro cx1.2<|And.intro @ia<|And.intro @e1<|And.intro @e2<|And.intro @n4_len<|@hd4
  refine V.dz ?_ ?_ rfl ?_
  ·exact zM
  ·simp only[dcAll,dcOk,wantD,List.cons_append,List.nil_append,true_and,and_true]
  refine zS ?_
  refine V.l0 ?_
  refine V.nil (Or.inl ⟨rfl,M.S.length-(k+1),by omega,?_⟩)
  refine⟨k+1,hlt',rfl,rfl,?_,?_,?_,zF,zK⟩
  ·exact (hg.trans gx).set (by omega) _
  ·exact (bx.grow gx).set (by omega) _
  ·have e : n4 (fun d : Nat=>so (·.w) (d : Int) (M.S.take (k+1)))=n4 (fun i=>if i=dn then fk dn+y.w else fk i):=by
    refine n4_cong fun i _=>?_
    rw[hst i,hfk]
    dsimp only
    by_cases hi : i=dn
    ·subst hi;rw[if_pos hdn,if_pos rfl]
    ·rw[if_neg hi,if_neg (by rw[hdn];omega)];omega
   rw[e]
   exact Bx.put cx1.1 _ _
 ·obtain rfl : k=M.S.length:=by omega
  rw[List.take_length] at cx
  have s128:=sl128 (H.next+1) M.O.length hO
  refine V.exit ?_
  refine zX ?_
  refine V.nil (Or.inr ⟨by simp,?_⟩)
  refine zX ?_
  refine zS ?_
  refine V.run ?_
  have zf:=And.intro bx.2<|And.intro @hlo<|@s128
  refine VI.sz 4 ?_
  simp only[ds]
  refine VI.callA rfl (f86_ok (fv:=fn 111) (Pr:=fun n=>0<n) (ls_cut4 cx hO) (by rw[fl_len];omega) (fun X' y _ _=>f111_fv y X')) zA (fun X2 g2=>?_)
  refine VI.l0 ?_
  refine zS ?_
  refine V.ret (V.rets rfl (Lv.retG (by simp +contextual (disch:=first|omega|simp only[nx];omega) only[D1,cells_alloc_at,cells_alloc_ne,cells_set_at,cells_set_ne,yres,yres1,yresL,qA,qB,qC,D5,hF,hA,↓reduceIte,qD,qE];rfl) ?_ ?_))
  ·exact hg.trans g2
  ·rfl
def vld (M : BM) : Prop:=(1≤(M.O.length : Int)∧(M.O.length : Int)≤4)∧AllP (fun v=>0≤v∧v≤10000) M.O∧(1≤M.N∧M.N≤4)∧0<(M.S.length : Int)∧AllP (sok M) M.S∧AllP (jok M) M.J∧wpos M
instance (M : BM) : Decidable (vld M):=by unfold vld;infer_instance
def fits (M : BM) : Prop:=(M.O.length : Int)≤4∧(M.S.length : Int)≤8∧(M.J.length : Int)≤20
instance (M : BM) : Decidable (fits M):=by unfold fits;infer_instance
theorem f56_ok {H : Heap} {o s j : Value} {M : BM} (h : MV H o s j M) (hf : fits M) : Gives Try.prog 56 [.agg ⟨mc o s j M.N⟩] H (.bool (decide (vld M))):=by
 have hl:=h.s.len
 have hlo:=h.o.len
 obtain⟨hf1,hf2,hf3⟩:=hf
 obtain⟨po,no,co,rfl⟩:=h.o.s.isS
 obtain⟨ps,ns,cs,rfl⟩:=h.s.isS
 obtain⟨pj,nj,cj,rfl⟩:=h.j.isS
 refine F.entryL rfl dg56 do56 de56 rfl (by kernel_rfl) ?_
 simp only[sets]
 refine V.re [(0,.agg ⟨mc (.slice po no co) (.slice ps ns cs) (.slice pj nj cj) M.N⟩)] (N:=45) zE zY ?_
 intro t hF hA
 simp only[Kn,and_true] at hA
 refine zS ?_
 refine V.l0 ?_
 refine V.heap (fun X=>Grow H X∧Bx X H.next (mc (.slice po no co) (.slice ps ns cs) (.slice pj nj cj) M.N) 34) ⟨?_,?_⟩ ?_
 ·exact zW
 ·exact zB
 rintro H1 ⟨g1,b1⟩
 refine zS ?_
 refine V.draw ?_
 refine VD.callA zA (f84_ok _) zA (fun H2 g2=>?_)
 have b2:=b1.grow g2
 have zf:=And.intro b2.2<|@hlo
 refine VD.nz 3 ?_
 simp only[ds]
 refine VD.callA zA (f85_ok 1 4 M.O.length _) zA (fun H3 g3=>?_)
 have b3:=b2.grow g3
 have e3:=(g1.trans g2).trans g3
 have zf:=And.intro b3.2<|@hlo
 refine VD.nz 3 ?_
 simp only[ds]
 first|refine VD.callGt zG (fun hc=>zI) (fun hc=>f87_ok _) (fun hc=>zI) (fun H4 g4=>?_)|refine VD.callGf zG (fun hc=>zI) (fun hc=>f87_ok _) (fun hc=>zI) (fun H4 g4=>?_)
 have b4:=b3.grow g4
 have e4:=e3.trans g4
 refine VD.n0 1 ?_
 simp only[ds]
 first|refine VD.callGt zG (fun hc=>zI) (fun hc=>f86_ok (h.o.grow e4) (by omega) (fun X y _ _=>f85_fv 0 10000 X y)) (fun hc=>zI) (fun H5 g5=>?_)|refine VD.callGf zG (fun hc=>zI) (fun hc=>f86_ok (h.o.grow e4) (by omega) (fun X y _ _=>f85_fv 0 10000 X y)) (fun hc=>zI) (fun H5 g5=>?_)
 have b5:=b4.grow g5
 have e5:=e4.trans g5
 refine VD.n0 2 ?_
 simp only[ds]
 first|refine VD.callGt zG (fun hc=>zI) (fun hc=>f84_ok _) (fun hc=>zI) (fun H6 g6=>?_)|refine VD.callGf zG (fun hc=>zI) (fun hc=>f84_ok _) (fun hc=>zI) (fun H6 g6=>?_)
 have b6:=b5.grow g6
 have zf:=b6.2
 refine VD.nz 2 ?_
 simp only[ds]
 first|refine VD.callGt zG (fun hc=>zI) (fun hc=>f85_ok 1 4 M.N _) (fun hc=>zI) (fun H7 g7=>?_)|refine VD.callGf zG (fun hc=>zI) (fun hc=>f85_ok 1 4 M.N _) (fun hc=>zI) (fun H7 g7=>?_)
 have b7:=b6.grow g7
 have e7:=(e5.trans g6).trans g7
 have zf:=And.intro b7.2<|@hl
 refine VD.nz 6 ?_
 simp only[ds]
 have zf:=And.intro b7.2<|@hl
 refine VD.nz 6 ?_
 simp only[ds]
 have f89':=fun X (g : Grow H7 X) (y : St)=>f89_fv (H:=X) (h.grow (e7.trans g)) y
 first|refine VD.callGt zG (fun hc=>zI) (fun hc=>f88_ok (Pr:=sok M) (h.s.grow e7) (by omega) (fun X y _ g=>f89' X g y)) (fun hc=>zI) (fun H8 g8=>?_)|refine VD.callGf zG (fun hc=>zI) (fun hc=>f88_ok (Pr:=sok M) (h.s.grow e7) (by omega) (fun X y _ g=>f89' X g y)) (fun hc=>zI) (fun H8 g8=>?_)
 have b8:=b7.grow g8
 have e8:=e7.trans g8
 refine VD.n0 2 ?_
 simp only[ds]
 have zf:=b8.2
 refine VD.nz 4 ?_
 simp only[ds]
 have f91':=fun X (g : Grow H8 X) (y : R2)=>f91_fv (H:=X) (h.grow (e8.trans g)) y
 first|refine VD.callGt zG (fun hc=>zI) (fun hc=>f90_ok (Pr:=jok M) (h.j.grow e8) (by omega) (fun X y _ g=>f91' X g y)) (fun hc=>zI) (fun H9 g9=>?_)|refine VD.callGf zG (fun hc=>zI) (fun hc=>f90_ok (Pr:=jok M) (h.j.grow e8) (by omega) (fun X y _ g=>f91' X g y)) (fun hc=>zI) (fun H9 g9=>?_)
 have b9:=b8.grow g9
 have e9:=e8.trans g9
 refine VD.n0 2 ?_
 simp only[ds]
 have zf:=b9.2
 refine VD.nz 1 ?_
 simp only[ds]
 first|refine VD.callGt zG (fun hc=>zI) (fun hc=>by exact f92_ok (h.grow e9) (hc.1.2) (by omega) (by omega)) (fun hc=>zI) (fun Ha ga=>?_)|refine VD.callGf zG (fun hc=>zI) (fun hc=>by exact f92_ok (h.grow e9) (hc.1.2) (by omega) (by omega)) (fun hc=>zI) (fun Ha ga=>?_)
 have ba:=b9.grow ga
 have m2:=g2.1
 have m3:=g3.1
 have m4:=g4.1
 have m5:=g5.1
 have m6:=g6.1
 have m7:=g7.1
 have m8:=g8.1
 have m9:=g9.1
 have ma:=ga.1
 refine VD.d0 ?_ ?_ rfl ?_
 ·exact zM
 ·simp only[dcAll,dcOk,wantD,List.cons_append,List.nil_append,true_and,and_true]
  have zf:=And.intro b1.2<|And.intro b2.2<|And.intro b3.2<|And.intro b4.2<|And.intro b5.2<|And.intro b6.2<|And.intro b7.2<|And.intro b8.2<|And.intro b9.2<|And.intro ba.2<|@hlo
  exact⟨zR,zR,fun hw q hq=>by simp only[wantD,D5,hF,hA,↓reduceIte,qD,qE,beq_iff_eq,decide_eq_false_iff_not,decide_eq_true_eq] at hw;simp only[List.mem_cons,List.not_mem_nil,or_false] at hq;(repeat (rcases hq with rfl|hq;exact⟨_,_,_,rfl,(by simp +contextual (disch:=first|omega|simp only[nx];omega) only[D4,qF,qG,qA,qB,qC,D5,hF,hA,↓reduceIte,qD,qE,if_true,not_false_eq_true,not_true_eq_false,hw,b1.2,b2.2,b3.2,b4.2,b5.2,b6.2,b7.2,b8.2,b9.2,ba.2,hlo];with_reducible rfl),fun p hp=>by cases hp;simp only[D5,hF,hA,↓reduceIte,qD,qE,hw,if_true,not_false_eq_true];first|exact vEq_An|(simp[vEq,vEq0,all2];done)|assumption⟩));(try (subst hq;exact⟨_,_,_,rfl,(by simp +contextual (disch:=first|omega|simp only[nx];omega) only[D4,qF,qG,qA,qB,qC,D5,hF,hA,↓reduceIte,qD,qE,if_true,not_false_eq_true,not_true_eq_false,hw,b1.2,b2.2,b3.2,b4.2,b5.2,b6.2,b7.2,b8.2,b9.2,ba.2,hlo];with_reducible rfl),fun p hp=>by cases hp;simp only[D5,hF,hA,↓reduceIte,qD,qE,hw,if_true,not_false_eq_true];first|exact vEq_An|(simp[vEq,vEq0,all2];done)|assumption⟩)),fun hw q hq=>by simp only[wantD,D5,hF,hA,↓reduceIte,qD,qE,beq_iff_eq,decide_eq_false_iff_not,decide_eq_true_eq] at hw;simp only[List.mem_cons,List.not_mem_nil,or_false] at hq;(repeat (rcases hq with rfl|hq;exact⟨_,_,_,rfl,(by simp +contextual (disch:=first|omega|simp only[nx];omega) only[D4,qF,qG,qA,qB,qC,D5,hF,hA,↓reduceIte,qD,qE,if_true,not_false_eq_true,not_true_eq_false,hw,b1.2,b2.2,b3.2,b4.2,b5.2,b6.2,b7.2,b8.2,b9.2,ba.2,hlo];with_reducible rfl),fun p hp=>by cases hp;simp only[D5,hF,hA,↓reduceIte,qD,qE,hw,if_true,not_false_eq_true];first|exact vEq_An|(simp[vEq,vEq0,all2];done)|assumption⟩));(try (subst hq;exact⟨_,_,_,rfl,(by simp +contextual (disch:=first|omega|simp only[nx];omega) only[D4,qF,qG,qA,qB,qC,D5,hF,hA,↓reduceIte,qD,qE,if_true,not_false_eq_true,not_true_eq_false,hw,b1.2,b2.2,b3.2,b4.2,b5.2,b6.2,b7.2,b8.2,b9.2,ba.2,hlo];with_reducible rfl),fun p hp=>by cases hp;simp only[D5,hF,hA,↓reduceIte,qD,qE,hw,if_true,not_false_eq_true];first|exact vEq_An|(simp[vEq,vEq0,all2];done)|assumption⟩))⟩
 refine zS ?_
 refine V.ret (V.rets rfl (Lv.retG (by simp +contextual (disch:=first|omega|simp only[nx];omega) only[D1,cells_alloc_at,cells_alloc_ne,cells_set_at,cells_set_ne,yres,yres1,yresL,qA,qB,qC,D5,hF,hA,↓reduceIte,qD,qE];rfl) ?_ ?_))
 ·exact e9.trans ga
 ·congr 1
  rw[decide_eq_decide]
  unfold vld
  simp only[and_assoc]
theorem f55_ok {H : Heap} {o s j : Value} {M : BM} (h : MV H o s j M) : Gives Try.prog 55 [.agg ⟨mc o s j M.N⟩] H (.bool (decide (fits M))):=by
 have hl:=h.s.len
 have hlo:=h.o.len
 have hlj:=h.j.len
 obtain⟨po,no,co,rfl⟩:=h.o.s.isS
 obtain⟨ps,ns,cs,rfl⟩:=h.s.isS
 obtain⟨pj,nj,cj,rfl⟩:=h.j.isS
 refine F.entryL rfl dg55 do55 de55 rfl (by kernel_rfl) ?_
 simp only[sets]
 refine V.re [(0,.agg ⟨mc (.slice po no co) (.slice ps ns cs) (.slice pj nj cj) M.N⟩)] (N:=19) zE zY ?_
 intro t hF hA
 simp only[Kn,and_true] at hA
 refine zS ?_
 refine V.l0 ?_
 refine V.heap (fun X=>Grow H X∧Bx X H.next (mc (.slice po no co) (.slice ps ns cs) (.slice pj nj cj) M.N) 34) ⟨?_,?_⟩ ?_
 ·exact zW
 ·exact zB
 rintro H1 ⟨g1,b1⟩
 refine zS ?_
 have zf:=And.intro b1.2<|And.intro @hl<|And.intro @hlo<|@hlj
 refine V.lz ?_
 refine zS ?_
 refine V.ret (V.rets rfl (Lv.retG (by simp +contextual (disch:=first|omega|simp only[nx];omega) only[D1,cells_alloc_at,cells_alloc_ne,cells_set_at,cells_set_ne,yres,yres1,yresL,qA,qB,qC,D5,hF,hA,↓reduceIte,qD,qE];rfl) ?_ ?_))
 ·exact g1
 ·congr 1
  rw[decide_eq_decide]
  unfold fits
  simp only[and_assoc]
def fltM (M : BM) : Int:=if fits M then (if vld M then 0 else 1) else 3
theorem fltM_0 {M : BM} : fltM M=0↔fits M∧vld M:=by
 unfold fltM
 by_cases h1 : fits M
 ·rw[if_pos h1]
  by_cases h2 : vld M
  ·rw[if_pos h2];exact iff_of_true rfl ⟨h1,h2⟩
  ·rw[if_neg h2];exact iff_of_false (by omega) (fun h=>h2 h.2)
 ·rw[if_neg h1];exact iff_of_false (by omega) (fun h=>h1 h.1)
theorem f18_ok {H : Heap} {o s j : Value} {M : BM} (h : MV H o s j M) : Gives Try.prog 18 [.agg ⟨mc o s j M.N⟩] H (I (fltM M)):=by
 obtain⟨po,no,co,rfl⟩:=h.o.s.isS
 obtain⟨ps,ns,cs,rfl⟩:=h.s.isS
 obtain⟨pj,nj,cj,rfl⟩:=h.j.isS
 unfold fltM
 refine F.entryL rfl dg18 do18 de18 rfl (by kernel_rfl) ?_
 simp only[sets]
 refine V.re [(0,.agg ⟨mc (.slice po no co) (.slice ps ns cs) (.slice pj nj cj) M.N⟩)] (N:=11) zE zY ?_
 intro t hF hA
 simp only[Kn,and_true] at hA
 refine zS ?_
 refine V.l0 ?_
 refine V.heap (fun X=>Grow H X∧Bx X H.next (mc (.slice po no co) (.slice ps ns cs) (.slice pj nj cj) M.N) 34) ⟨?_,?_⟩ ?_
 ·exact zW
 ·exact zB
 rintro H1 ⟨g1,b1⟩
 refine zS ?_
 refine V.run ?_
 have zf:=b1.2
 refine VI.sz 1 ?_
 simp only[ds]
 refine VI.callA rfl (f55_ok (h.grow g1)) zA (fun H2 g2=>?_)
 have b2:=b1.grow g2
 have g12:=g1.trans g2
 refine VI.l0 ?_
 refine zS ?_
 refine V.condP zP (fun hv=>?_) (fun hv=>?_)
 ·refine zS ?_
  refine V.l0 ?_
  refine zS ?_
  refine V.ret (V.rets rfl (Lv.retG (by simp +contextual (disch:=first|omega|simp only[nx];omega) only[D1,cells_alloc_at,cells_alloc_ne,cells_set_at,cells_set_ne,yres,yres1,yresL,qA,qB,qC,D5,hF,hA,↓reduceIte,qD,qE];rfl) ?_ ?_))
  ·exact g12
  ·rw[if_neg hv]
 ·have hv:=Decidable.not_not.1 hv
  rw[if_pos hv]
  refine zS ?_
  refine V.run ?_
  have zf:=b2.2
  refine VI.sz 1 ?_
  simp only[ds]
  refine VI.callA rfl (f56_ok (h.grow g12) hv) zA (fun H3 g3=>?_)
  refine VI.l0 ?_
  refine zS ?_
  refine V.condP zP (fun ha=>?_) (fun ha=>?_)
  ·refine zS ?_
   refine V.l0 ?_
   refine zS ?_
   refine V.ret (V.rets rfl (Lv.retG (by simp +contextual (disch:=first|omega|simp only[nx];omega) only[D1,cells_alloc_at,cells_alloc_ne,cells_set_at,cells_set_ne,yres,yres1,yresL,qA,qB,qC,D5,hF,hA,↓reduceIte,qD,qE];rfl) ?_ ?_))
   ·exact g12.trans g3
   ·rw[if_neg ha]
  ·refine zS ?_
   refine V.l0 ?_
   refine zS ?_
   refine V.ret (V.rets rfl (Lv.retG (by simp +contextual (disch:=first|omega|simp only[nx];omega) only[D1,cells_alloc_at,cells_alloc_ne,cells_set_at,cells_set_ne,yres,yres1,yresL,qA,qB,qC,D5,hF,hA,↓reduceIte,qD,qE];rfl) ?_ ?_))
   ·exact g12.trans g3
   ·rw[if_pos (Decidable.not_not.1 ha)]
end Go.Xe.TBX
