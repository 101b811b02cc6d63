/- What the functions of the layer seat come to: SeatTimes. Conditions: none. -/
import Derived.Test.YtlfikodljmdekaaTVU
import Derived.Test.YtlfikodljmdekaaZl
import Derived.WideShapes
import Derived.ChangeSame
import Derived.Below
-- MOD TV
namespace Go.Xe.TVX
open Go Go.Xe Go.Proofs
open Nat renaming reduceLeDiff → qA, reduceSub → qB, reduceAdd → qC, reduceEqDiff → qD, reduceLT → qE
open Int renaming reduceNegSucc → qF, reduceEq → qG
open Go.Xe.V renaming seq → sA, block → sB, scope → sC, skip → sD, close → sE
open Go.Xe renaming pth → P
open Go.Xe.Sea
set_option maxRecDepth 100000
set_option maxHeartbeats 3200000
set_option linter.unusedSimpArgs false
noncomputable def d28 : FCode:=(.seq (.run (.go (.move (.con (.bool false))) (P 4)::
[])) (.seq (.seq (.run (.go (.move (tm 0)) (P 6)::
.go (.len 0 (tm 6)) (P 7)::
.go (.move (tm 1)) (P 8)::
.go (.len 0 (tm 8)) (P 9)::
.go (.bin .neq 3 (tm 7) (tm 9)) (P 10)::
[])) (.cond (tm 10) (.seq (.run (.go (.move (.con (.bool false))) (P 4)::
[])) .ret) .skip)) (.seq (.seq (.run (.go (.move (.con (.int .i64 (.ofNat 0)))) (P 5)::
[])) (.block 0 (.loop (.seq (.seq (.run (.go (.move (tm 5)) (P 11)::
.go (.move (tm 0)) (P 12)::
.go (.len 0 (tm 12)) (P 13)::
.go (.bin .lss 3 (tm 11) (tm 13)) (P 14)::
[])) (.cond (tm 14) .skip (.exit 0))) (.seq (.block 1 (.seq (.draw 9 (.go (.move (tm 0)) (P 17)::
.go (.move (tm 5)) (P 18)::
.go (.indexAddr none 1 (tm 17) (tm 18)) (P 19)::
.go (.load1 (tm 19)) (P 20)::
.go (.move (tm 1)) (P 21)::
.go (.move (tm 5)) (P 22)::
.go (.indexAddr none 1 (tm 21) (tm 22)) (P 23)::
.go (.load1 (tm 23)) (P 24)::
.go (.bin .neq 3 (tm 20) (tm 24)) (P 25)::
[]) [.ok,.ok,.ok,.ok,.ok,.ok,.ok,.ok,.ok]) (.cond (tm 25) (.seq (.run (.go (.move (.con (.bool false))) (P 4)::
[])) .ret) .skip))) (.run (.go (.move (tm 5)) (P 15)::
.go (.bin .add 3 (tm 15) (.con (.int .i64 (.ofNat 1)))) (P 16)::
.go (.move (tm 16)) (P 5)::
[]))))))) (.seq (.run (.go (.move (.con (.bool true))) (P 4)::
[])) .ret))))
theorem de28 : @compF Try.prog (Gl.none Try.prog) Try.f28 2=.mk d28 (mkTT 26) [(P 0),(P 1)] [.tmp (P 4)]:=by kernel_rfl
theorem dg28 : Try.prog.funcs[28]?=some Try.f28:=Try.func28
theorem do28 : okF Try.prog Try.f28=true:=by kernel_rfl
noncomputable def d16 : FCode:=(.seq (.run (.go (.box 23 (tm 0)) (P 3)::
.go (.move (.con (.bool false))) (P 6)::
[])) (.seq (.run (.go (.loadN 3 (tm 3)) (P 15)::
.go (.alloc 23 [(.int .u8 (.ofNat 0)),(.int .i64 (.ofNat 0)),(.int .i64 (.ofNat 0))]) (P 7)::
.un (.store 3 (tm 7) (tm 15))::
[])) (.seq (.run (.go (.move (tm 2)) (P 16)::
.go (.conv .i64 (tm 16)) (P 17)::
.go (.bin .rem 3 (tm 17) (.con (.int .i64 (.ofNat 20)))) (P 18)::
.go (.bin .add 3 (.con (.int .i64 (.ofNat 1))) (tm 18)) (P 19)::
.go (.move (tm 19)) (P 8)::
[])) (.seq (.run (.go (.move (.con (.slice none 0 0))) (P 9)::
[])) (.seq (.seq (.run (.go (.move (.con (.int .i64 (.ofNat 0)))) (P 10)::
[])) (.block 0 (.loop (.seq (.seq (.run (.go (.move (tm 10)) (P 20)::
.go (.move (tm 1)) (P 21)::
.go (.len 0 (tm 21)) (P 22)::
.go (.bin .lss 3 (tm 20) (tm 22)) (P 23)::
.go (.move (tm 23)) (P 24)::
.gd (P 24) true (.move (tm 10)) (P 25)::
.gd (P 24) true (.bin .lss 3 (tm 25) (.con (.int .i64 (.ofNat 12)))) (P 26)::
.go (.pick (tm 24) (tm 26) (.con (.bool false))) (P 27)::
[])) (.cond (tm 27) .skip (.exit 0))) (.seq (.block 1 (.run (.go (.move (tm 9)) (P 30)::
.go (.move (tm 1)) (P 31)::
.go (.move (tm 10)) (P 32)::
.go (.indexAddr none 1 (tm 31) (tm 32)) (P 33)::
.go (.load1 (tm 33)) (P 34)::
.go (.mm true [(.con (.int .i64 (.negSucc 0))),(tm 34)]) (P 35)::
.go (.mm false [(.con (.int .i64 (.ofNat 20000))),(tm 35)]) (P 36)::
.go (.move (tm 8)) (P 37)::
.go (.bin .mul 3 (tm 36) (tm 37)) (P 38)::
.go (.buildSlice 3 1 [(.int .i64 (.ofNat 0))] [(0,1,(tm 38))]) (P 39)::
.go (.append 3 1 8 (tm 30) (tm 39)) (P 40)::
.go (.move (tm 40)) (P 9)::
[]))) (.run (.go (.move (tm 10)) (P 28)::
.go (.bin .add 3 (tm 28) (.con (.int .i64 (.ofNat 1)))) (P 29)::
.go (.move (tm 29)) (P 10)::
[]))))))) (.seq (.seq (.run (.go (.loadN 3 (tm 3)) (P 41)::
.go (.move (tm 1)) (P 42)::
.go (.call (.con (.func (.func 48) ⟨[]⟩ ⟨[]⟩)) [(tm 41),(tm 42)]) (P 43)::
.go (.un .not (tm 43)) (P 44)::
[])) (.cond (tm 44) (.seq (.run (.go (.call (.con (.func (.func 20) ⟨[]⟩ ⟨[]⟩)) []) (P 45)::
.go (.move (tm 45)) (P 6)::
[])) .ret) .skip)) (.seq (.run (.go (.fieldAddr 2 (tm 7)) (P 46)::
.go (.load1 (tm 46)) (P 47)::
.go (.move (tm 8)) (P 48)::
.go (.bin .mul 3 (tm 47) (tm 48)) (P 49)::
.go (.fieldAddr 2 (tm 7)) (P 50)::
.un (.store 1 (tm 50) (tm 49))::
[])) (.seq (.seq (.run (.go (.loadN 3 (tm 7)) (P 51)::
.go (.move (tm 9)) (P 52)::
.go (.call (.con (.func (.func 48) ⟨[]⟩ ⟨[]⟩)) [(tm 51),(tm 52)]) (P 53)::
.go (.un .not (tm 53)) (P 54)::
[])) (.cond (tm 54) (.seq (.run (.go (.call (.con (.func (.func 20) ⟨[]⟩ ⟨[]⟩)) []) (P 55)::
.go (.move (tm 55)) (P 6)::
[])) .ret) .skip)) (.seq (.run (.go (.loadN 3 (tm 3)) (P 57)::
.go (.call (.con (.func (.func 22) ⟨[]⟩ ⟨[]⟩)) [tm 57]) (P 58)::
.go (.move (tm 1)) (P 59)::
.go (.call (.con (.func (.func 24) ⟨[]⟩ ⟨[]⟩)) [tm 59]) (P 60)::
.go (.call (.con (.func (.func 23) ⟨[]⟩ ⟨[]⟩)) [(tm 58),(tm 60)]) (P 61)::
.go (.move (tm 61)) (P 56)::
.go (.extract (tm 56) 0) (P 62)::
.go (.extract (tm 56) 1) (P 63)::
.go (.move (tm 62)) (P 11)::
.go (.move (tm 63)) (P 12)::
[])) (.seq (.run (.go (.loadN 3 (tm 7)) (P 65)::
.go (.call (.con (.func (.func 22) ⟨[]⟩ ⟨[]⟩)) [tm 65]) (P 66)::
.go (.move (tm 9)) (P 67)::
.go (.call (.con (.func (.func 24) ⟨[]⟩ ⟨[]⟩)) [tm 67]) (P 68)::
.go (.call (.con (.func (.func 23) ⟨[]⟩ ⟨[]⟩)) [(tm 66),(tm 68)]) (P 69)::
.go (.move (tm 69)) (P 64)::
.go (.extract (tm 64) 0) (P 70)::
.go (.extract (tm 64) 1) (P 71)::
.go (.move (tm 70)) (P 13)::
.go (.move (tm 71)) (P 14)::
[])) (.seq (.run (.go (.move (tm 12)) (P 72)::
.go (.move (tm 14)) (P 73)::
.go (.bin .eql 26 (tm 72) (tm 73)) (P 74)::
.go (.move (tm 74)) (P 75)::
.gd (P 75) true (.move (tm 11)) (P 76)::
.gd (P 75) true (.move (tm 13)) (P 77)::
.gd (P 75) true (.call (.con (.func (.func 28) ⟨[]⟩ ⟨[]⟩)) [(tm 76),(tm 77)]) (P 78)::
.go (.pick (tm 75) (tm 78) (.con (.bool false))) (P 79)::
.go (.move (tm 79)) (P 80)::
.gd (P 80) true (.call (.con (.func (.func 20) ⟨[]⟩ ⟨[]⟩)) []) (P 81)::
.go (.pick (tm 80) (tm 81) (.con (.bool false))) (P 82)::
.go (.move (tm 82)) (P 6)::
[])) .ret)))))))))))
theorem de16 : @compF Try.prog (Gl.none Try.prog) Try.f16 3=.mk d16 (mkTT 83) [(P 0),(P 1),(P 2)] [.tmp (P 6)]:=by kernel_rfl
theorem dg16 : Try.prog.funcs[16]?=some Try.f16:=Try.func16
theorem do16 : okF Try.prog Try.f16=true:=by kernel_rfl
theorem tp_alike {v v' : Nat→Int} {q q' : Nat→Q2} {k : Nat} (hv : ∀ p,0<v p↔0<v' p) (hq : ∀ p o,0<v p→0<v o→(qlt (q p) (q o)↔qlt (q' p) (q' o))) : tp v q k=tp v' q' k:=by
 unfold tp
 apply List.filter_congr
 intro p _
 rw[decide_eq_decide]
 constructor
 ·rintro⟨h1,h2⟩
  exact⟨(hv p).1 h1,fun o ho h3 h4=>h2 o ho ((hv o).2 h3) ((hq p o h1 ((hv o).2 h3)).2 h4)⟩
 ·rintro⟨h1,h2⟩
  exact⟨(hv p).2 h1,fun o ho h3 h4=>h2 o ho ((hv o).1 h3) ((hq p o ((hv p).2 h1) h3).1 h4)⟩
theorem giv_alike {v v' : Nat→Int} {c c' : Nat→Int→Q2} (hv : ∀ p,0<v p↔0<v' p) (hq : ∀ p o s t,0<v p→0<v o→0≤s→0≤t→(qlt (c p s) (c o t)↔qlt (c' p s) (c' o t))) : ∀ {f : Nat} {left : Int} {low : Nat→Int},(∀ p,0≤low p)→giv v c f left low=giv v' c' f left low
 | 0,_,_,_=>rfl
 | f+1,left,low,h=>by
  have e : tp v (fun p=>c p (low p)) 8=tp v' (fun p=>c' p (low p)) 8:=tp_alike hv (fun p o h1 h2=>hq p o _ _ h1 h2 (h p) (h o))
  unfold giv
  rw[e]
  split
  ·rfl
  ·split
   ·exact giv_alike hv hq (fun p=>by have:=h p;unfold up;split<;>omega)
   ·rfl
theorem qlt_scale {a b : Q2} {k : Int} (hk : 0<k) : qlt (k*a.1,a.2) (k*b.1,b.2)↔qlt a b:=by
 unfold qlt
 simp only
 split
 ·exact⟨fun h=>Int.lt_of_mul_lt_mul_left h (Int.le_of_lt hk),fun h=>Int.mul_lt_mul_of_pos_left h hk⟩
 ·rw[Int.mul_assoc,Int.mul_assoc]
  exact⟨fun h=>Int.lt_of_mul_lt_mul_left h (Int.le_of_lt hk),fun h=>Int.mul_lt_mul_of_pos_left h hk⟩
theorem sm_scale {v : Nat→Int} {k : Int} : ∀ {n : Nat},sm (fun p=>k*v p) n=k*sm v n
 | 0=>by simp[sm]
 | n+1=>by simp only[sm];rw[sm_scale,Int.mul_add]
theorem sm_sc {v v' : Nat→Int} {k : Int} (h : ∀ p,v' p=k*v p) {n : Nat} : sm v' n=k*sm v n:=by
 rw[← sm_scale]
 exact sm_cong fun p _=>h p
theorem shr_scale {S : Int} {v v' : Nat→Int} {k : Int} (hk : 0<k) (h : ∀ p,v' p=k*v p) (p : Nat) : shr S v' p=((shr S v p).1,k*(shr S v p).2):=by
 unfold shr
 rw[sm_sc h]
 by_cases h0 : v p=0
 ·rw[if_pos (by rw[h,h0];simp),if_pos h0];simp
 ·have h1 : v' p≠0:=by
   rw[h]
   intro hh
   rcases Int.mul_eq_zero.1 hh with h2|h2
   ·omega
   ·exact h0 h2
  rw[if_neg h1,if_neg h0,h,Int.mul_assoc,Int.mul_ediv_mul_of_pos _ _ hk,Int.mul_emod_mul_of_pos _ _ hk]
theorem clq_scale {m S : Int} {v v' : Nat→Int} (hv : vok v) (hv8 : ∀ p,¬ p<8→v p=0) (hS : 0≤S∧S≤61) {k : Int} (hk : 0<k) (h : ∀ p,v' p=k*v p) {p o : Nat} {s t : Int} (hp : 0<v p) (ho : 0<v o) : qlt (clq m S v p s) (clq m S v o t)↔qlt (clq m S v' p s) (clq m S v' o t):=by
 by_cases h5 : m=5
 ·have v8 : ∀ p,0<v p→p<8:=fun p hp=>by
   apply Decidable.by_contra
   intro hn
   rw[hv8 p hn] at hp;omega
  have ht:=sm_pos hv (v8 p hp) hp
  have hkt : 0<k*sm v 8:=Int.mul_pos hk ht
  have key : ∀ q s,(0<v q)→(clq m S v q s=(1,0)∧clq m S v' q s=(1,0))∨(∃ r,0≤r∧clq m S v q s=(r,sm v 8)∧clq m S v' q s=(k*r,k*sm v 8))∨(clq m S v q s=(0,1)∧clq m S v' q s=(0,1)):=by
   intro q s hq
   have hb:=shr_bd hv hS (v8 q hq)
   unfold clq
   rw[if_pos h5,if_pos h5,shr_scale hk h,sm_sc h]
   simp only
   by_cases h1 : s<(shr S v q).1
   ·rw[if_pos h1,if_pos h1];exact .inl ⟨rfl,rfl⟩
   ·rw[if_neg h1,if_neg h1]
    by_cases h2 : s=(shr S v q).1
    ·rw[if_pos h2,if_pos h2];exact .inr (.inl ⟨_,by omega,rfl,rfl⟩)
    ·rw[if_neg h2,if_neg h2];exact .inr (.inr ⟨rfl,rfl⟩)
  rcases key p s hp with⟨e1,e2⟩|⟨r,r0,e1,e2⟩|⟨e1,e2⟩<;>rcases key o t ho with⟨f1,f2⟩|⟨w,w0,f1,f2⟩|⟨f1,f2⟩<;>rw[e1,e2,f1,f2]
  ·unfold qlt;simp only;rw[if_neg (by omega),if_neg (by omega)]
   constructor
   ·intro hh;omega
   ·intro hh;omega
  ·unfold qlt;simp only;rw[if_neg (by omega),if_neg (by omega)]
   constructor
   ·intro _;omega
   ·intro _;omega
  ·unfold qlt;simp only;rw[if_neg (by omega),if_neg (by omega),Int.mul_assoc,Int.mul_assoc,Int.mul_left_comm r,Int.mul_left_comm w]
   exact⟨fun h=>Int.mul_lt_mul_of_pos_left (Int.mul_lt_mul_of_pos_left h hk) hk,fun h=>Int.lt_of_mul_lt_mul_left (Int.lt_of_mul_lt_mul_left h (Int.le_of_lt hk)) (Int.le_of_lt hk)⟩
  ·unfold qlt;simp only;rw[if_neg (by omega),if_neg (by omega)]
   constructor
   ·intro hh;have:=Int.mul_nonneg (Int.le_of_lt hk) r0;omega
   ·intro hh;have:=Int.mul_nonneg (Int.le_of_lt hk) r0;omega
  ·unfold qlt;simp only;rw[if_neg (by omega),if_neg (by omega)]
   constructor
   ·intro hh
    have h3 : 0<w:=by omega
    have:=Int.mul_pos hk h3
    omega
   ·intro hh
    apply Decidable.by_contra
    intro hn
    have : w=0:=by omega
    rw[this] at hh
    simp at hh
 ·have key : ∀ q s,clq m S v' q s=(k*k*(clq m S v q s).1,(clq m S v q s).2):=by
   intro q s
   unfold clq
   rw[if_neg h5,if_neg h5,h]
   simp only
   congr 1
   ac_rfl
  rw[key,key,qlt_scale (Int.mul_pos hk hk)]
theorem otc_scale {m S : Int} {v v' : Nat→Int} (hv : vok v) (hv8 : ∀ p,¬ p<8→v p=0) (hS : 0≤S∧S≤61) {k : Int} (hk : 0<k) (h : ∀ p,v' p=k*v p) : otc m S v'=otc m S v:=by
 have hpos : ∀ p,0<v p↔0<v' p:=by
  intro p
  rw[h]
  exact⟨fun hh=>Int.mul_pos hk hh,fun hh=>by
   apply Decidable.by_contra
   intro hn
   have:=Int.mul_le_mul_of_nonneg_left (show v p≤0 by omega) (Int.le_of_lt hk)
   omega⟩
 have e:=giv_alike (v:=v) (v':=v') (c:=clq m S v) (c':=clq m S v') (f:=62) (left:=S) (low:=fun _=>0) hpos (fun p o s t hp ho _ _=>clq_scale hv hv8 hS hk h hp ho) (fun _=>Int.le_refl _)
 exact e.symm
theorem adm_scale {L n k : Int} (hk : 0<k) : adm (L*k) (n*k)↔adm L n:=by
 unfold adm
 constructor
 ·rintro⟨h1,h2⟩
  refine⟨?_,Int.le_of_mul_le_mul_right h2 hk⟩
  apply Decidable.by_contra
  intro hn
  have:=Int.mul_le_mul_of_nonneg_right (show n≤0 by omega) (Int.le_of_lt hk)
  omega
 ·rintro⟨h1,h2⟩
  refine⟨?_,Int.mul_le_mul_of_nonneg_right h2 (Int.le_of_lt hk)⟩
  have:=Int.mul_le_mul_of_nonneg_right h1 (Int.le_of_lt hk)
  omega
theorem vl_scale {L k : Int} {l : List Int} (hk : 0<k) (p : Nat) : vl (L*k) (l.map (·*k)) p=k*vl L l p:=by
 have e : gl0 (l.map (·*k)) p=gl0 l p*k:=by
  unfold gl0
  rw[List.getD_eq_getElem?_getD,List.getElem?_map,List.getD_eq_getElem?_getD]
  cases l[p]? with
  | none=>simp
  | some a=>rfl
 unfold vl vts
 rw[e]
 by_cases ha : adm L (gl0 l p)
 ·rw[if_pos ha,if_pos ((adm_scale hk).2 ha),Int.mul_comm]
 ·rw[if_neg ha,if_neg (fun h=>ha ((adm_scale hk).1 h)),Int.mul_zero]
theorem f28_ok {H : Heap} {x y : Value} {l1 l2 : List Int} (h1 : LS H x l1) (h2 : LS H y l2) (hn : l1.length≤1048576) : Gives Try.prog 28 [x,y] H (.bool (decide (l1=l2))):=by
 have hl1:=h1.len
 have hl2:=h2.len
 obtain⟨px,nx',cx,rfl⟩:=h1.s.isS
 obtain⟨py,ny',cy,rfl⟩:=h2.s.isS
 refine F.entryL rfl dg28 do28 de28 rfl (by kernel_rfl) ?_
 simp only[sets]
 refine V.re [(0,.slice px nx' cx),(1,.slice py ny' cy)] (N:=26) zE zY ?_
 intro t hF hA
 simp only[Kn,and_true] at hA
 refine zS ?_
 refine V.l0 ?_
 refine zS ?_
 have zf:=And.intro @hl1<|@hl2
 refine V.lz ?_
 refine zS ?_
 refine V.condP zP (fun hne=>?_) (fun hne=>?_)
 ·refine zS ?_
  refine V.l0 ?_
  refine zS ?_
  refine V.ret (V.rets rfl (Lv.retG (by simp +contextual (disch:=first|omega|simp only[nx];omega) only[D1,cells_alloc_at,cells_alloc_ne,cells_set_at,cells_set_ne,yres,yres1,yresL,qA,qB,qC,D5,hF,hA,↓reduceIte,qD,qE];rfl) ?_ ?_))
  ·exact zW
  ·congr 1
   exact (decide_eq_false (fun e=>hne (by rw[e]))).symm
 have hll : l1.length=l2.length:=by omega
 refine zS ?_
 refine V.l0 ?_
 refine zS ?_
 refine V.loop (fun z t m X=>∃ (k : Nat),k≤l1.length∧z=l1.length-k∧m=[]∧X=H∧l1.take k=l2.take k∧Full 26 t∧Kn [(0,.slice px nx' cx),(1,.slice py ny' cy),(5,I k)] t) l1.length ?_ ?_
 ·exact⟨0,by omega,by omega,rfl,rfl,by simp,zF,zK⟩
 clear hF hA
 rintro z t m X ⟨k,hk,rfl,rfl,hX,htk,hF,hA⟩
 obtain rfl : H=X:=hX.symm
 simp only[Kn,and_true] at hA
 refine zS ?_
 have zf:=@hl1
 refine V.lz ?_
 refine zS ?_
 refine V.condP zP (fun hlt=>?_) (fun hlt=>?_)
 ·have hlt1 : k<l1.length:=by omega
  have hlt2 : k<l2.length:=by omega
  obtain⟨p,hp,hx⟩:=h1.at hlt1
  obtain⟨q,hq,hy⟩:=h2.at hlt2
  have hx1:=hx H (.refl _)
  have hy1:=hy H (.refl _)
  refine zS ?_
  have zf:=And.intro @hp<|And.intro @hx1<|And.intro @hq<|@hy1
  refine V.dz ?_ ?_ rfl ?_
  ·exact zM
  ·simp only[dcAll,dcOk,wantD,List.cons_append,List.nil_append,true_and,and_true]
  refine zS ?_
  refine V.condP zP (fun hne2=>?_) (fun hne2=>?_)
  ·refine zS ?_
   refine V.l0 ?_
   refine zS ?_
   refine V.ret (V.rets rfl (Or.inr ⟨by simp,V.rets rfl (Lv.retG (by simp +contextual (disch:=first|omega|simp only[nx];omega) only[D1,cells_alloc_at,cells_alloc_ne,cells_set_at,cells_set_ne,yres,yres1,yresL,qA,qB,qC,D5,hF,hA,↓reduceIte,qD,qE];rfl) ?_ ?_)⟩))
   ·exact zW
   ·congr 1
    refine (decide_eq_false (fun e=>hne2 ?_)).symm
    subst e;rfl
  ·refine zS ?_
   refine V.l0 ?_
   refine V.nil (Or.inl ⟨rfl,l1.length-(k+1),by omega,?_⟩)
   refine⟨k+1,hlt1,rfl,rfl,rfl,?_,zF,zK⟩
   rw[tk1 hlt1,tk1 hlt2,htk,Decidable.not_not.1 hne2]
 ·obtain rfl : k=l1.length:=by omega
  refine V.exit ?_
  refine zX ?_
  refine V.nil (Or.inr ⟨by simp,?_⟩)
  refine zX ?_
  refine zS ?_
  refine V.l0 ?_
  refine zS ?_
  refine V.ret (V.rets rfl (Lv.retG (by simp +contextual (disch:=first|omega|simp only[nx];omega) only[D1,cells_alloc_at,cells_alloc_ne,cells_set_at,cells_set_ne,yres,yres1,yresL,qA,qB,qC,D5,hF,hA,↓reduceIte,qD,qE];rfl) ?_ ?_))
  ·exact zW
  ·congr 1
   refine (decide_eq_true ?_).symm
   rw[List.take_length] at htk
   rw[htk,hll,List.take_length]
def clm (c : Int) : Int:=if (if c > -1 then c else -1)<20000 then (if c > -1 then c else -1) else 20000
theorem clm_bd (c : Int) : -1≤clm c∧clm c≤20000:=by
 unfold clm
 split<;>split<;>omega
theorem clm_id {c : Int} (h : 0≤c∧c≤10000) : clm c=c:=by
 unfold clm
 rw[if_pos (show c > -1 by omega),if_pos (by omega)]
theorem ls_nil (X : Heap) : LS X (.slice none 0 0) []:=⟨.nil⟩
theorem f16_all {H : Heap} {m S L by' : Int} {x : Value} {l : List Int} (hx : Sl H x (l.map I)) (hby : 0≤by'∧by'≤255) : F Try.prog 16 ⟨[.agg ⟨A3 m S L⟩,x,.int .u8 by']⟩ H (fun w _=>w=.bool true):=by
 have h : LS H x l:=⟨hx⟩
 have hl:=h.len
 obtain⟨px,nx',cx,rfl⟩:=h.s.isS
 have htm:=tmod_bd (a:=by') (b:=20) hby.1 (by omega)
 obtain⟨k,hk⟩ : ∃ k,k=1+by'.tmod 20:=⟨_,rfl⟩
 have hkb : 1≤k∧k≤20:=by omega
 have hk2:=hk.symm
 have h20 : ¬ (20 : Int)=0:=by omega
 refine F.entryL rfl dg16 do16 de16 rfl (by kernel_rfl) ?_
 simp only[sets]
 refine V.re [(0,.agg ⟨A3 m S L⟩),(1,.slice px nx' cx),(2,.int .u8 by')] (N:=83) zE zY ?_
 intro t hF hA
 simp only[Kn,and_true] at hA
 refine zS ?_
 refine V.l0 ?_
 refine V.heap (fun X=>Grow H X∧Bx X H.next (A3 m S L) 23) ⟨?_,?_⟩ ?_
 ·exact zW
 ·exact zB
 rintro H1 ⟨g1,b1⟩
 have n1:=b1.1
 refine zS ?_
 have zf:=b1.2
 refine V.lz ?_
 refine V.heap (fun X=>Grow H X∧Bx X H.next (A3 m S L) 23∧Bx X H1.next (A3 m S L) 23) ⟨?_,?_,?_⟩ ?_
 ·exact zW
 ·exact (b1.alloc _).set (by omega) _
 ·exact Bx.put (by simp only[Heap.next_alloc];omega) _ _
 rintro H2 ⟨g2,b2,c2⟩
 refine zS ?_
 have zf:=And.intro @h20<|@hk2
 refine V.lz ?_
 refine zS ?_
 refine V.l0 ?_
 refine zS ?_
 refine V.l0 ?_
 refine zS ?_
 refine V.loop (fun z t mm X=>∃ (j : Nat) (w : Value),j≤l.length∧j≤12∧z=12-j∧mm=[]∧Grow H2 X∧Ow H2 X 3 w (Li ((l.take j).map fun c=>clm c*k))∧Full 83 t∧Kn [(1,.slice px nx' cx),(3,PT H.next),(7,PT H1.next),(8,I k),(9,w),(10,I j)] t) 12 ?_ ?_
 ·exact⟨0,_,by omega,by omega,by omega,rfl,.refl _,.inl ⟨rfl,rfl⟩,zF,zK⟩
 clear hF hA
 rintro z t mm X ⟨j,w,hj,hj12,rfl,rfl,hg,ow,hF,hA⟩
 simp only[Kn,and_true] at hA
 refine zS ?_
 have zf:=@hl
 refine V.lz ?_
 refine zS ?_
 refine V.condP zP (fun hlt=>?_) (fun hlt=>?_)
 ·have hlt' : j<l.length∧j<12:=by
   obtain⟨c1,c2⟩:=hlt
   omega
  obtain⟨p,hp,hxx⟩:=h.at hlt'.1
  have hx1:=hxx X (g2.trans hg)
  have hcb:=clm_bd l[j]
  have hcm : (if (if l[j] > -1 then l[j] else -1)<20000 then (if l[j] > -1 then l[j] else -1) else 20000)=clm l[j]:=rfl
  have hpb : -20≤clm l[j]*k∧clm l[j]*k≤400000:=by
   have e1:=Int.mul_le_mul_of_nonneg_right hcb.1 (show 0≤k by omega)
   have e2:=Int.mul_le_mul_of_nonneg_right hcb.2 (show 0≤k by omega)
   omega
  obtain⟨u,Y,a1,a2,a3,a4,a5,a6,a7,a8⟩:=Ow.push (bytes:=8) (r:=[I (clm l[j]*k)]) hg ow rfl (by simp) (by rw[Li_len,List.length_map,List.length_take];simp;omega) (by rw[Li_len,List.length_map,List.length_take];simp;omega)
  replace a1 : yappend 3 1 8 (X.alloc (.cells ⟨[I (clm l[j]*k)]⟩ 3 true)) w (.slice (some ⟨X.next,0,none⟩) 1 1)=some (u,Y):=a1
  refine zS ?_
  have zf:=And.intro @hp<|And.intro @hx1<|And.intro @hcm<|@a1
  refine V.lz ?_
  refine zS ?_
  refine V.l0 ?_
  refine V.nil (Or.inl ⟨rfl,12-(j+1),by omega,?_⟩)
  refine⟨j+1,u,hlt'.1,hlt'.2,rfl,rfl,a3,?_,zF,zK⟩
  have e : Li ((l.take (j+1)).map fun c=>clm c*k)=Li ((l.take j).map fun c=>clm c*k)++[I (clm l[j]*k)]:=by
   rw[tk1 hlt'.1,List.map_append]
   unfold Li
   rw[List.map_append]
   rfl
  rw[e]
  exact a2
 have hjj : ¬ (j<l.length∧j<12):=fun hh=>hlt ⟨by omega,by omega⟩
 have bx:=b2.grow hg
 have cx':=c2.grow hg
 have gX:=g2.trans hg
 refine V.exit ?_
 refine zX ?_
 refine V.nil (Or.inr ⟨by simp,?_⟩)
 refine zX ?_
 refine zS ?_
 refine V.run ?_
 have zf:=bx.2
 refine VI.sz 2 ?_
 simp only[ds]
 refine VI.callA rfl (f48_ok (m:=m) (S:=S) (L:=L) (h.grow gX)) zA (fun H3 g3=>?_)
 have b3:=bx.grow g3
 have c3:=cx'.grow g3
 have g13:=gX.trans g3
 refine VI.l0 ?_
 refine zS ?_
 refine V.condP zP (fun h0=>?_) (fun h0=>?_)
 ·refine zS ?_
  refine V.run ?_
  refine VI.callA rfl (f20_ok _) zA (fun Hb gb=>?_)
  refine VI.l0 ?_
  refine zS ?_
  refine V.ret (V.rets rfl (Lv.retF (by simp +contextual (disch:=first|omega|simp only[nx];omega) only[D1,cells_alloc_at,cells_alloc_ne,cells_set_at,cells_set_ne,yres,yres1,yresL,qA,qB,qC,D5,hF,hA,↓reduceIte,qD,qE];rfl) ?_))
  rfl
 have h0 : flt m S L l=0:=Decidable.not_not.1 h0
 obtain⟨hr,hl8,hb⟩:=flt_0.1 h0
 have hvk:=vl_ok (L:=L) hb
 have hv8:=vl_8 (L:=L) hl8
 have hS : 0≤S∧S≤61:=⟨hr.2.2.1,by have:=hr.2.2.2.1;omega⟩
 have hLk : 0≤L*k∧L*k≤200000:=by
  have e1:=Int.mul_le_mul_of_nonneg_right hr.2.2.2.2.1 (show 0≤k by omega)
  have e2:=Int.mul_le_mul_of_nonneg_right hr.2.2.2.2.2 (show 0≤k by omega)
  omega
 obtain rfl : j=l.length:=by omega
 rw[List.take_length] at ow
 obtain⟨l',hl'⟩ : ∃ l',l'=l.map (·*k):=⟨_,rfl⟩
 have el : (l.map fun c=>clm c*k)=l':=by
  rw[hl']
  apply List.map_congr_left
  intro c hc
  rw[clm_id (hb c hc)]
 rw[el] at ow
 have ow3:=ow.keep g3
 have ll' : l'.length=l.length:=by rw[hl',List.length_map]
 have n13:=g13.1
 have nHX : H.next<H2.next:=b2.1
 have nH2 : H1.next<H2.next:=c2.1
 have hgn:=hg.1
 have n33:=g3.1
 have hn1:=g1.1
 refine zS ?_
 have zf:=c3.2
 refine V.lz ?_
 refine V.heap (fun X'=>Grow H X'∧Bx X' H.next (A3 m S L) 23∧Bx X' H1.next (A3 m S (L*k)) 23∧LS X' w l') ⟨?_,?_,?_,?_⟩ ?_
 ·exact zW
 ·exact b3.set (by omega) _
 ·exact Bx.put c3.1 _ _
 ·refine⟨(ow3.growS (U:=(·=H1.next)) (GrowS.setAt _ _ _) (fun i hi (he : i=H1.next)=>by omega) (Nat.le_refl _)).sl⟩
 rintro H4 ⟨g4,b4,c4,o4⟩
 obtain⟨pw,nw',cw,rfl⟩:=o4.s.isS
 refine zS ?_
 refine V.run ?_
 have zf:=c4.2
 refine VI.sz 2 ?_
 simp only[ds]
 refine VI.callA rfl (f48_ok (m:=m) (S:=S) (L:=L*k) o4) zA (fun H5 g5=>?_)
 have b5:=b4.grow g5
 have c5:=c4.grow g5
 have o5:=o4.grow g5
 have gH5:=g4.trans g5
 refine VI.l0 ?_
 refine zS ?_
 refine V.condP zP (fun h00=>?_) (fun h00=>?_)
 ·refine zS ?_
  refine V.run ?_
  refine VI.callA rfl (f20_ok _) zA (fun Hb gb=>?_)
  refine VI.l0 ?_
  refine zS ?_
  refine V.ret (V.rets rfl (Lv.retF (by simp +contextual (disch:=first|omega|simp only[nx];omega) only[D1,cells_alloc_at,cells_alloc_ne,cells_set_at,cells_set_ne,yres,yres1,yresL,qA,qB,qC,D5,hF,hA,↓reduceIte,qD,qE];rfl) ?_))
  rfl
 have h0' : flt m S (L*k) l'=0:=Decidable.not_not.1 h00
 have eo : otc m S (vl (L*k) l')=otc m S (vl L l):=by
  rw[hl']
  exact otc_scale hvk hv8 hS (by omega) (fun p=>vl_scale (by omega) p)
 refine zS ?_
 refine V.run ?_
 have zf:=b5.2
 refine VI.sz 1 ?_
 simp only[ds]
 refine VI.callA rfl (f22_ok m S L _) zA (fun H6 g6=>?_)
 refine VI.s0 1 ?_
 simp only[ds]
 refine VI.callR zA (f24_ok (h.grow (gH5.trans g6)) (by omega)) zA (fun w7 H7 ⟨g7,o7⟩=>?_)
 refine VI.callR zA (f23_ok (m:=m) (S:=S) (L:=L) (ow_ls o7) hS) zA (fun w8 H8 ⟨g8,s8⟩=>?_)
 have g58:=(g6.trans g7).trans g8
 have c8:=c5.grow g58
 have o8:=o5.grow g58
 obtain⟨y1,e1,rfl,k1⟩:=s8.ok h0
 refine VI.l0 ?_
 refine zS ?_
 refine V.run ?_
 have zf:=c8.2
 refine VI.sz 1 ?_
 simp only[ds]
 refine VI.callA rfl (f22_ok m S (L*k) _) zA (fun H9 g9=>?_)
 refine VI.s0 1 ?_
 simp only[ds]
 refine VI.callR zA (f24_ok (o8.grow g9) (by omega)) zA (fun wa Ha ⟨ga,oa⟩=>?_)
 refine VI.callR zA (f23_ok (m:=m) (S:=S) (L:=L*k) (ow_ls oa) hS) zA (fun wb Hb ⟨gb,sb⟩=>?_)
 have g8b:=(g9.trans ga).trans gb
 obtain⟨y2,e2,rfl,k2⟩:=sb.ok h0'
 have es : sure m S (vl (L*k) l')↔sure m S (vl L l):=by unfold sure;rw[eo]
 have hfin : e1=e2∧∃ r,r.length≤8∧LS Hb y1 r∧LS Hb y2 r:=by
  rcases k1 with⟨n1,rfl,rfl⟩|⟨s1,rfl,q1⟩<;>rcases k2 with⟨n2,rfl,rfl⟩|⟨s2,rfl,q2⟩
  ·exact⟨rfl,[],by simp,ls_nil _,ls_nil _⟩
  ·exact absurd (es.1 s2) n1
  ·exact absurd (es.2 s1) n2
  ·rw[eo,ll'] at q2
   exact⟨rfl,_,by rw[fl_len];exact hl8,q1.grow g8b,q2⟩
 obtain⟨rfl,r,hr8,q1,q2⟩:=hfin
 refine VI.l0 ?_
 refine zS ?_
 have hee : (e1=e1)=True:=eq_self _
 have f28':=f28_ok q1 q2 (by omega)
 rw[decide_eq_true (show r=r from rfl)] at f28'
 refine V.run ?_
 have zf:=@hee
 refine VI.sz 6 ?_
 simp only[ds]
 refine VI.callAT zG rfl (f28') zA (fun Hc gc=>?_)
 refine VI.s0 2 ?_
 simp only[ds]
 refine VI.callAT zG rfl (f20_ok _) zA (fun Hd gd=>?_)
 refine VI.l0 ?_
 refine zS ?_
 refine V.ret (V.rets rfl (Lv.retF (by simp +contextual (disch:=first|omega|simp only[nx];omega) only[D1,cells_alloc_at,cells_alloc_ne,cells_set_at,cells_set_ne,yres,yres1,yresL,qA,qB,qC,D5,hF,hA,↓reduceIte,qD,qE];rfl) ?_))
 rfl
end Go.Xe.TVX
/- Rules of reasoning over the executable reading of the model's code (part Z16): arguments, by what their types allow. Conditions: none; for every program. -/
namespace Go.Xe
open Go Go.RowKit Go.ChangeShapes Go.WideShapes
theorem okWide_agg {P : Program} {w : World} {r : Reach} {base : Nat} {t : TypeId} {v : Value} {fs : Array Field} (ht : P.underlying t=some (.struct fs)) (h : Value.okWide P w r base t v) : ∃ cs,v=.agg cs:=by
 unfold Value.okWide at h
 rw[ht] at h
 obtain⟨cs,h,_⟩:=h
 exact⟨cs,h⟩
end Go.Xe
/- The end of a call that has changed nothing of what was there: what a statement asks of the memory behind it. Conditions: as post_of_same's, but that new memory may be frozen. -/
namespace Go.Xe
open Go Go.RowKit Go.ChangeShapes Go.WideShapes
variable {H : Type} {enc : TypeId×Value→H} {P : Program}
theorem post_of_old {f : Func} {s : ChangeSpec} {apart fresh handsOn again : Bool} {W W' : World} {args : Array Value} {v : Value} {ds gs : List (DataW H)} {before pa pv : List MemPlace}
  (hW : DataW.Whole enc P f.params.toList s.vars apart W args.toList ds gs before)
  (hres : ∀ (b : Nat) (sp : Nat→Bool) (hd : Bool),DataW.TrodAll enc P W' b sp hd f.resultTypes.toList (v.resultList f.resultTypes.size) (s.fn H (ds++gs)).results [])
  (hargs : ∀ sp : Nat→Bool,(∀ p∈before,sp p.block=true)→DataW.TrodAll enc P W' 0 sp true f.params.toList args.toList (s.fn H (ds++gs)).args pa)
  (hvars : ∀ sp : Nat→Bool,(∀ p∈before,sp p.block=true)→DataW.TrodVars enc P W' sp s.vars (s.fn H (ds++gs)).vars pv)
  (hps : before=pa++pv) (hk : W.keptBut W' (·∈before)) (hfz : ∀ a : Addr,a.block<W.heap.size→W'.frozen? a=W.frozen? a)
  (hok : ∀ (j : Nat) (t : TypeId) (r : Value),f.resultTypes[j]?=some t→(v.resultList f.resultTypes.size)[j]?=some r→Value.okWide P W' .any 0 t r) :
  s.post enc P f apart fresh handsOn again W args v W':=by
 have old : ∀ p∈before,p.block<W.heap.size:=fun p hp=>hW.lt p hp
 have hold : ∀ p∈before,(fun b=>decide (b<W.heap.size)) p.block=true:=fun p hp=>by simpa using old p hp
 subst hps
 refine⟨ds,gs,_,[],pa,pv,hW,hres _ _ _,hargs _ hold,hvars _ hold,World.keptBut_mono (fun p hp=>⟨hp,.inr (List.mem_append.1 hp)⟩) hk,fun _=>?_⟩
 obtain⟨_,_,_,_,_,hz,hn⟩:=hW
 refine⟨hok,_,_,([]++pa)++pv,⟨[]++pa,pv,trodAll_append (hargs _ (fun _ _=>rfl)) (hres _ _ _),hvars _ (fun _ _=>rfl),rfl,?_,?_⟩,?_⟩
 ·intro b off hp
  have hp' : MemPlace.cell b off∈pa++pv:=by simpa using hp
  rw[hfz _ (old _ hp')]
  exact hz b off hp'
 ·intro ha
  simpa using hn ha
 ·intro p hp _
  simpa using hp
end Go.Xe
