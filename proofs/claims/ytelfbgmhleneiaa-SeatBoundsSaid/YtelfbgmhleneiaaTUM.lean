/- What the functions of the layer seat come to: Spread. Conditions: none. -/
import Derived.Test.YtelfbgmhleneiaaTUL
-- MOD TV
namespace Go.Xe.TVX
open Go Go.Xe Go.Proofs
open Nat renaming reduceLeDiff → qA, reduceSub → qB, reduceAdd → qC, reduceEqDiff → qD, reduceLT → qE
open Int renaming reduceNegSucc → qF, reduceEq → qG
open Go.Xe.V renaming seq → sA, block → sB, scope → sC, skip → sD, close → sE
open Go.Xe renaming pth → P
open Go.Xe.Sea
set_option maxRecDepth 100000
set_option maxHeartbeats 3200000
set_option linter.unusedSimpArgs false
noncomputable def d42 : FCode:=(.seq (.run (.go (.box 23 (tm 0)) (P 2)::
.go (.move (.con (.slice none 0 0))) (P 4)::
.go (.move (.con (.slice none 0 0))) (P 5)::
[])) (.seq (.draw 8 (.go (.move (tm 1)) (P 16)::
.go (.len 0 (tm 16)) (P 17)::
.go (.move (tm 1)) (P 19)::
.go (.len 0 (tm 19)) (P 20)::
.go (.makeSlice 3 1 8 [(.int .i64 (.ofNat 0))] (tm 17) (tm 17)) (P 18)::
.go (.makeSlice 3 1 8 [(.int .i64 (.ofNat 0))] (tm 20) (tm 20)) (P 21)::
.go (.move (tm 18)) (P 6)::
.go (.move (tm 21)) (P 7)::
[]) [.ok,.ok,.nw none (some (P 18)) 4 true,.ok,.ok,.nw none (some (P 21)) 5 true,.nw none (some (P 6)) 6 false,.nw none (some (P 7)) 7 false]) (.seq (.seq (.run (.go (.loadN 3 (tm 2)) (P 22)::
.go (.move (tm 1)) (P 23)::
.go (.call (.con (.func (.func 34) ⟨[]⟩ ⟨[]⟩)) [(tm 22),(tm 23)]) (P 24)::
.go (.un .not (tm 24)) (P 25)::
[])) (.cond (tm 25) (.seq (.run (.go (.move (tm 6)) (P 26)::
.go (.move (tm 7)) (P 27)::
.go (.move (tm 26)) (P 4)::
.go (.move (tm 27)) (P 5)::
[])) .ret) .skip)) (.seq (.seq (.run (.go (.fieldAddr 0 (tm 2)) (P 28)::
.go (.load1 (tm 28)) (P 29)::
.go (.bin .eql 5 (tm 29) (.con (.int .u8 (.ofNat 5)))) (P 30)::
[])) (.cond (tm 30) (.seq (.run (.go (.loadN 3 (tm 2)) (P 31)::
.go (.move (tm 1)) (P 32)::
.go (.call (.con (.func (.func 69) ⟨[]⟩ ⟨[]⟩)) [(tm 31),(tm 32)]) (P 33)::
.go (.extract (tm 33) 0) (P 34)::
.go (.extract (tm 33) 1) (P 35)::
.go (.move (tm 34)) (P 4)::
.go (.move (tm 35)) (P 5)::
[])) .ret) .skip)) (.seq (.seq (.run (.go (.move (.con (.int .i64 (.ofNat 0)))) (P 8)::
[])) (.block 0 (.loop (.seq (.seq (.run (.go (.move (tm 8)) (P 36)::
.go (.move (tm 1)) (P 37)::
.go (.len 0 (tm 37)) (P 38)::
.go (.bin .lss 3 (tm 36) (tm 38)) (P 39)::
[])) (.cond (tm 39) .skip (.exit 0))) (.seq (.block 1 (.seq (.run (.go (.move (.con (.int .i64 (.ofNat 0)))) (P 9)::
[])) (.block 2 (.loop (.seq (.seq (.draw 12 (.go (.move (tm 9)) (P 42)::
.go (.fieldAddr 1 (tm 2)) (P 43)::
.go (.load1 (tm 43)) (P 44)::
.go (.bin .lss 3 (tm 42) (tm 44)) (P 45)::
.go (.move (tm 45)) (P 46)::
.gd (P 46) true (.loadN 3 (tm 2)) (P 47)::
.gd (P 46) true (.move (tm 1)) (P 48)::
.gd (P 46) true (.move (tm 8)) (P 49)::
.gd (P 46) true (.indexAddr none 1 (tm 48) (tm 49)) (P 50)::
.gd (P 46) true (.load1 (tm 50)) (P 51)::
.gd (P 46) true (.call (.con (.func (.func 37) ⟨[]⟩ ⟨[]⟩)) [(tm 47),(tm 51)]) (P 52)::
.go (.pick (tm 46) (tm 52) (.con (.bool false))) (P 53)::
[]) [.ok,.ok,.ok,.ok,.ok,.ok,.ok,.ok,.ok,.ok,.ok,.ok]) (.cond (tm 53) .skip (.exit 2))) (.seq (.block 3 (.seq (.draw 10 (.go (.fieldAddr 0 (tm 2)) (P 56)::
.go (.load1 (tm 56)) (P 57)::
.go (.move (tm 1)) (P 58)::
.go (.move (tm 8)) (P 59)::
.go (.indexAddr none 1 (tm 58) (tm 59)) (P 60)::
.go (.load1 (tm 60)) (P 61)::
.go (.move (tm 9)) (P 62)::
.go (.call (.con (.func (.func 70) ⟨[]⟩ ⟨[]⟩)) [(tm 57),(tm 61),(tm 62)]) (P 63)::
.go (.alloc 101 [(.int .i64 (.ofNat 0)),(.int .i64 (.ofNat 0))]) (P 10)::
.un (.store 2 (tm 10) (tm 63))::
[]) [.ok,.ok,.ok,.ok,.ok,.ok,.ok,.ok,.nw none (some (P 10)) 8 true,.ok]) (.seq (.run (.go (.move (.con (.int .i64 (.ofNat 0)))) (P 11)::
.go (.move (.con (.int .i64 (.ofNat 0)))) (P 12)::
[])) (.seq (.seq (.run (.go (.move (.con (.int .i64 (.ofNat 0)))) (P 13)::
[])) (.block 4 (.loop (.seq (.seq (.run (.go (.move (tm 13)) (P 64)::
.go (.move (tm 1)) (P 65)::
.go (.len 0 (tm 65)) (P 66)::
.go (.bin .lss 3 (tm 64) (tm 66)) (P 67)::
[])) (.cond (tm 67) .skip (.exit 4))) (.seq (.block 5 (.seq (.run (.go (.move (.con (.int .i64 (.ofNat 0)))) (P 14)::
[])) (.block 6 (.loop (.seq (.seq (.draw 12 (.go (.move (tm 14)) (P 70)::
.go (.fieldAddr 1 (tm 2)) (P 71)::
.go (.load1 (tm 71)) (P 72)::
.go (.bin .lss 3 (tm 70) (tm 72)) (P 73)::
.go (.move (tm 73)) (P 74)::
.gd (P 74) true (.loadN 3 (tm 2)) (P 75)::
.gd (P 74) true (.move (tm 1)) (P 76)::
.gd (P 74) true (.move (tm 13)) (P 77)::
.gd (P 74) true (.indexAddr none 1 (tm 76) (tm 77)) (P 78)::
.gd (P 74) true (.load1 (tm 78)) (P 79)::
.gd (P 74) true (.call (.con (.func (.func 37) ⟨[]⟩ ⟨[]⟩)) [(tm 75),(tm 79)]) (P 80)::
.go (.pick (tm 74) (tm 80) (.con (.bool false))) (P 81)::
[]) [.ok,.ok,.ok,.ok,.ok,.ok,.ok,.ok,.ok,.ok,.ok,.ok]) (.cond (tm 81) .skip (.exit 6))) (.seq (.block 7 (.seq (.draw 10 (.go (.fieldAddr 0 (tm 2)) (P 84)::
.go (.load1 (tm 84)) (P 85)::
.go (.move (tm 1)) (P 86)::
.go (.move (tm 13)) (P 87)::
.go (.indexAddr none 1 (tm 86) (tm 87)) (P 88)::
.go (.load1 (tm 88)) (P 89)::
.go (.move (tm 14)) (P 90)::
.go (.call (.con (.func (.func 70) ⟨[]⟩ ⟨[]⟩)) [(tm 85),(tm 89),(tm 90)]) (P 91)::
.go (.alloc 101 [(.int .i64 (.ofNat 0)),(.int .i64 (.ofNat 0))]) (P 15)::
.un (.store 2 (tm 15) (tm 91))::
[]) [.ok,.ok,.ok,.ok,.ok,.ok,.ok,.ok,.nw none (some (P 15)) 8 true,.ok]) (.seq (.run (.go (.loadN 2 (tm 15)) (P 92)::
.go (.loadN 2 (tm 10)) (P 93)::
.go (.call (.con (.func (.func 71) ⟨[]⟩ ⟨[]⟩)) [(tm 92),(tm 93)]) (P 94)::
[])) (.cond (tm 94) (.run (.go (.move (tm 11)) (P 95)::
.go (.bin .add 3 (tm 95) (.con (.int .i64 (.ofNat 1)))) (P 96)::
.go (.move (tm 96)) (P 11)::
[])) (.seq (.run (.go (.loadN 2 (tm 10)) (P 97)::
.go (.loadN 2 (tm 15)) (P 98)::
.go (.call (.con (.func (.func 71) ⟨[]⟩ ⟨[]⟩)) [(tm 97),(tm 98)]) (P 99)::
.go (.un .not (tm 99)) (P 100)::
[])) (.cond (tm 100) (.run (.go (.move (tm 12)) (P 101)::
.go (.bin .add 3 (tm 101) (.con (.int .i64 (.ofNat 1)))) (P 102)::
.go (.move (tm 102)) (P 12)::
[])) .skip)))))) (.run (.go (.move (tm 14)) (P 82)::
.go (.bin .add 3 (tm 82) (.con (.int .i64 (.ofNat 1)))) (P 83)::
.go (.move (tm 83)) (P 14)::
[])))))))) (.run (.go (.move (tm 13)) (P 68)::
.go (.bin .add 3 (tm 68) (.con (.int .i64 (.ofNat 1)))) (P 69)::
.go (.move (tm 69)) (P 13)::
[]))))))) (.seq (.seq (.run (.go (.move (tm 11)) (P 103)::
.go (.move (tm 12)) (P 104)::
.go (.bin .add 3 (tm 103) (tm 104)) (P 105)::
.go (.fieldAddr 1 (tm 2)) (P 106)::
.go (.load1 (tm 106)) (P 107)::
.go (.bin .leq 3 (tm 105) (tm 107)) (P 108)::
[])) (.cond (tm 108) (.run (.go (.move (tm 6)) (P 109)::
.go (.move (tm 8)) (P 110)::
.go (.indexAddr none 1 (tm 109) (tm 110)) (P 111)::
.go (.load1 (tm 111)) (P 112)::
.go (.bin .add 3 (tm 112) (.con (.int .i64 (.ofNat 1)))) (P 113)::
.go (.indexAddr none 1 (tm 109) (tm 110)) (P 114)::
.un (.store 1 (tm 114) (tm 113))::
[])) .skip)) (.seq (.run (.go (.move (tm 11)) (P 115)::
.go (.fieldAddr 1 (tm 2)) (P 116)::
.go (.load1 (tm 116)) (P 117)::
.go (.bin .lss 3 (tm 115) (tm 117)) (P 118)::
[])) (.cond (tm 118) (.run (.go (.move (tm 7)) (P 119)::
.go (.move (tm 8)) (P 120)::
.go (.indexAddr none 1 (tm 119) (tm 120)) (P 121)::
.go (.load1 (tm 121)) (P 122)::
.go (.bin .add 3 (tm 122) (.con (.int .i64 (.ofNat 1)))) (P 123)::
.go (.indexAddr none 1 (tm 119) (tm 120)) (P 124)::
.un (.store 1 (tm 124) (tm 123))::
[])) .skip))))))) (.run (.go (.move (tm 9)) (P 54)::
.go (.bin .add 3 (tm 54) (.con (.int .i64 (.ofNat 1)))) (P 55)::
.go (.move (tm 55)) (P 9)::
[])))))))) (.run (.go (.move (tm 8)) (P 40)::
.go (.bin .add 3 (tm 40) (.con (.int .i64 (.ofNat 1)))) (P 41)::
.go (.move (tm 41)) (P 8)::
[]))))))) (.seq (.run (.go (.move (tm 6)) (P 125)::
.go (.move (tm 7)) (P 126)::
.go (.move (tm 125)) (P 4)::
.go (.move (tm 126)) (P 5)::
[])) .ret))))))
theorem de42 : @compF Try.prog (Gl.none Try.prog) Try.f42 2=.mk d42 (mkTT 127) [(P 0),(P 1)] [.tmp (P 4),.tmp (P 5)]:=by kernel_rfl
theorem dg42 : Try.prog.funcs[42]?=some Try.f42:=Try.func42
theorem do42 : okF Try.prog Try.f42=true:=by kernel_rfl
section
open Classical
theorem cn_nn (P : Nat→Prop) : ∀ n,0≤cn P n∧cn P n≤n
 | 0=>⟨Int.le_refl _,Int.le_refl _⟩
 | n+1=>by
  have:=cn_nn P n
  rw[cn_s]
  split<;>omega
noncomputable def kp (v : Nat→Int) (n : Nat) (P : Nat→Nat→Prop) (o : Nat) : Int:=sm (fun q=>if 0<v q then cn (P q) n else 0) o
theorem kp_s {v : Nat→Int} {n : Nat} {P : Nat→Nat→Prop} {o : Nat} : kp v n P (o+1)=kp v n P o+if 0<v o then cn (P o) n else 0:=rfl
theorem kp_bd {v : Nat→Int} {n : Nat} {P : Nat→Nat→Prop} (o : Nat) : 0≤kp v n P o∧kp v n P o≤(n : Int)*o:=sm_ub fun q _=>by
 have h1:=cn_nn (P q) n
 by_cases k : 0<v q
 ·rw[if_pos k];exact h1
 ·rw[if_neg k];omega
theorem kp_8 {v : Nat→Int} {n o : Nat} {P : Nat→Nat→Prop} (ho : o≤8) (hz : ∀ q,o≤q→v q=0) : kp v n P o=ck v n P:=by
 have:=sm_out (v:=fun q=>if 0<v q then cn (P q) n else 0) (n:=o) (k:=8-o) (fun q hq=>if_neg (by rw[hz q hq];omega))
 rw[show o+(8-o)=8 by omega] at this
 exact this.symm
theorem cn_add {P Q R : Nat→Prop} (h : ∀ t,(R t↔P t∨Q t)∧¬ (P t∧Q t)) : ∀ n,cn R n=cn P n+cn Q n
 | 0=>rfl
 | n+1=>by
  have ih:=cn_add h n
  obtain⟨h1,h2⟩:=h n
  rw[cn_s,cn_s,cn_s,ih]
  by_cases a : P n<;>by_cases b : Q n
  ·exact absurd ⟨a,b⟩ h2
  ·rw[if_pos a,if_neg b,if_pos (h1.2 (.inl a))];omega
  ·rw[if_neg a,if_pos b,if_pos (h1.2 (.inr b))];omega
  ·rw[if_neg a,if_neg b,if_neg (fun k=>(h1.1 k).elim a b)];omega
theorem ck_add {v : Nat→Int} {n : Nat} {P Q R : Nat→Nat→Prop} (h : ∀ q t,q<8→0<v q→(R q t↔P q t∨Q q t)∧¬ (P q t∧Q q t)) : ck v n R=ck v n P+ck v n Q:=by
 unfold ck
 rw[← sm_add]
 refine sm_cong fun q hq=>?_
 by_cases k : 0<v q
 ·rw[if_pos k,if_pos k,if_pos k]
  exact cn_add (fun t=>h q t hq k) n
 ·rw[if_neg k,if_neg k,if_neg k];rfl
theorem cn_t {P : Nat→Prop} {n : Nat} (h : P n) : cn P (n+1)=cn P n+1:=by rw[cn_s,if_pos h]
theorem cn_f {P : Nat→Prop} {n : Nat} (h : ¬ P n) : cn P (n+1)=cn P n:=by rw[cn_s,if_neg h];omega
theorem kp_t {v : Nat→Int} {n : Nat} {P : Nat→Nat→Prop} {o : Nat} (h : 0<v o) : kp v n P (o+1)=kp v n P o+cn (P o) n:=by rw[kp_s,if_pos h]
theorem kp_f {v : Nat→Int} {n : Nat} {P : Nat→Nat→Prop} {o : Nat} (h : ¬ 0<v o) : kp v n P (o+1)=kp v n P o:=by rw[kp_s,if_neg h];omega
end
theorem mk_row (H : Heap) (g : Nat) (hg : g≤1048576) : ymakeSlice 3 8 [I 0] H (I g) (I g)=some (.slice (some ⟨H.next,0,none⟩) g g,H.alloc (.cells ⟨Li (fl g fun _=>0)⟩ 3 true)):=by
 have e48 : (2 : Nat) ^ 48=281474976710656:=by decide
 have ez : zeros ⟨[I 0]⟩ ((g : Int).toNat*[I 0].length)=⟨Li (fl g fun _=>0)⟩:=by
  apply Array.toList_inj.1
  simp only[zeros,Array.toList_map,Array.toList_range,Li,fl,List.map_map,List.length_cons,List.length_nil]
  apply List.ext_getElem
  ·simp
  ·intro j h1 h2
   simp[Nat.mod_one]
 simp only[ymakeSlice]
 rw[if_pos ⟨by omega,by omega,by omega,by omega⟩,ez]
 simp[Li_len,fl_len]
theorem inb_fl (n m : Nat) (f : Nat→Int) : (Li (fl n f)).all (inBound m 2)=true:=by
 simp[Li,fl,inBound]
theorem fl_set {n p : Nat} {g : Nat→Int} {a b : Int} : (Li (fl n fun q=>if q=p then a else g q)).set p (I b)=Li (fl n fun q=>if q=p then b else g q):=by
 rw[Li_set]
 congr 1
 apply List.ext_getElem
 ·rw[List.length_set,fl_len,fl_len]
 ·intro i h1 h2
  rw[List.getElem_set,fl_at]
  split
  ·rename_i e;rw[fl_at,if_pos e.symm]
  ·rename_i e;rw[fl_at,if_neg (fun k=>e k.symm),if_neg (fun k=>e k.symm)]
theorem f42_gen {H : Heap} {m S L : Int} {x : Value} {l : List Int} {Q : Heap→Value→Prop} (h : LS H x l) (hg : (1≤m∧m≤5)∧(0≤S∧S≤61)∧l.length≤8∧∀ v∈l,0≤v∧v≤10000) (h69 : m=5→0<sm (vl L l) 8→∀ X,Grow H X→F Try.prog 69 ⟨[.agg ⟨A3 m S L⟩,x]⟩ X (fun w Y=>Grow X Y∧Q Y w)) (hT : ∀ X w,Q X w→∃ y1 y2,w=.tuple ⟨[y1,y2]⟩) (hQ : ∀ X i1 i2,H.next≤i1→H.next≤i2→Bx X i1 (Li (fl l.length (otc m S (vl L l)).1)) 3→Bx X i2 (Li (fl l.length (otc m S (vl L l)).2)) 3→Q X (.tuple ⟨[.slice (some ⟨i1,0,none⟩) l.length l.length,.slice (some ⟨i2,0,none⟩) l.length l.length]⟩)) : F Try.prog 42 ⟨[.agg ⟨A3 m S L⟩,x]⟩ H (fun w X=>Grow H X∧Q X w):=by
 have hl:=h.len
 obtain⟨px,nx',cx,rfl⟩:=h.s.isS
 obtain⟨hm5,hS,hl8,hb⟩:=hg
 have hvk:=vl_ok (L:=L) hb
 have hv8:=vl_8 (L:=L) hl8
 have F0:=otc_fin (m:=m) hvk hS hv8
 have hbd:=Fin.bd F0 hS.1
 refine F.entryL rfl dg42 do42 de42 rfl (by kernel_rfl) ?_
 simp only[sets]
 refine V.re [(0,.agg ⟨A3 m S L⟩),(1,.slice px nx' cx)] (N:=127) zE zY ?_
 intro t hF hA
 simp only[Kn,and_true] at hA
 refine zS ?_
 refine V.l0 ?_
 refine V.heap (fun X=>Grow H X∧Bx X H.next (A3 m S L) 23) ⟨?_,?_⟩ ?_
 ·exact zW
 ·exact zB
 rintro H1 ⟨g1,b1⟩
 have n1:=b1.1
 refine zS ?_
 have mk1:=mk_row H1 l.length (by omega)
 have mk2:=mk_row (H1.alloc (.cells ⟨Li (fl l.length fun _=>0)⟩ 3 true)) l.length (by omega)
 have ib:=fun m=>inb_fl l.length m fun _=>0
 have zf:=And.intro @hl<|And.intro @mk1<|@mk2
 refine V.dz ?_ ?_ rfl ?_
 ·exact zM
 ·simp only[dcAll,dcOk,wantD,List.cons_append,List.nil_append,true_and,and_true]
  exact⟨fun _=>⟨_,_,_,rfl,rfl,rfl,(by simp only[D5,hF,hA,↓reduceIte,qD,qE];simp[inBound]<;>exact decide_eq_true (by omega)),fun _=>⟨_,_,_,cells_alloc _ _ _ _,ib _⟩⟩,fun _=>⟨_,_,_,rfl,rfl,rfl,(by simp only[D5,hF,hA,↓reduceIte,qD,qE];simp[inBound]<;>exact decide_eq_true (by omega)),fun _=>⟨_,_,_,cells_alloc _ _ _ _,ib _⟩⟩,fun _=>⟨_,_,_,rfl,rfl,rfl,(by simp only[D5,hF,hA,↓reduceIte,qD,qE];simp[inBound]<;>exact decide_eq_true (by omega)),fun k=>by cases k⟩,fun _=>⟨_,_,_,rfl,rfl,rfl,(by simp only[D5,hF,hA,↓reduceIte,qD,qE];simp[inBound]<;>exact decide_eq_true (by omega)),fun k=>by cases k⟩⟩
 refine V.heap (fun X=>Grow H X∧Bx X H.next (A3 m S L) 23∧Bx X H1.next (Li (fl l.length fun _=>0)) 3∧Bx X (H1.next+1) (Li (fl l.length fun _=>0)) 3) ⟨?_,?_,?_,?_⟩ ?_
 ·exact zW
 ·exact (b1.alloc _).alloc _
 ·exact (Bx.new _ _ _).alloc _
 ·exact Bx.new _ _ _
 rintro H2 ⟨g2,b2,c2,d2⟩
 refine zS ?_
 refine V.run ?_
 have zf:=b2.2
 refine VI.sz 2 ?_
 simp only[ds]
 refine VI.callA rfl (f34_ok (m:=m) (S:=S) (L:=L) (h.grow g2) hl8 hb) zA (fun H3 g3=>?_)
 have b3:=b2.grow g3
 have c3:=c2.grow g3
 have d3:=d2.grow g3
 have gH3:=g2.trans g3
 refine VI.l0 ?_
 refine zS ?_
 refine V.condP zP (fun hno=>?_) (fun hno=>?_)
 ·have e1:=sure_none (fun p hp hh=>hno ((sm_pos' hvk).2 ⟨p,hp,hh⟩)) F0
  have e2 : (otc m S (vl L l)).2=fun _=>0:=by
   rcases F0.2 with⟨_,_,e⟩|⟨hh,_⟩|⟨hh,_⟩
   ·rw[e,e1]
   ·exact absurd ((sm_pos' hvk).2 hh) hno
   ·exact absurd ((sm_pos' hvk).2 hh) hno
  refine zS ?_
  refine V.l0 ?_
  refine zS ?_
  refine V.ret (V.rets rfl (Lv.retF (by simp +contextual (disch:=first|omega|simp only[nx];omega) only[D1,cells_alloc_at,cells_alloc_ne,cells_set_at,cells_set_ne,yres,yres1,yresL,qA,qB,qC,D5,hF,hA,↓reduceIte,qD,qE];rfl) ?_))
  have hh1:=g1.1
  refine⟨gH3,hQ _ _ _ (by omega) (by omega) ?_ ?_⟩
  ·rw[e1];exact c3
  ·rw[e2];exact d3
 have hno:=Decidable.not_not.1 hno
 refine zS ?_
 have zf:=b3.2
 refine V.lz ?_
 refine zS ?_
 refine V.condP zP (fun h5=>?_) (fun h5=>?_)
 ·refine zS ?_
  refine V.run ?_
  have zf:=b3.2
  refine VI.sz 2 ?_
  simp only[ds]
  refine VI.callR zA (h69 h5 hno H3 gH3) zA (fun w4 H4 ⟨g4,q4⟩=>?_)
  have hw:=hT _ _ q4
  obtain⟨y1,y2,rfl⟩:=hw
  refine VI.l0 ?_
  refine zS ?_
  refine V.ret (V.rets rfl (Lv.retF (by simp +contextual (disch:=first|omega|simp only[nx];omega) only[D1,cells_alloc_at,cells_alloc_ne,cells_set_at,cells_set_ne,yres,yres1,yresL,qA,qB,qC,D5,hF,hA,↓reduceIte,qD,qE];rfl) ?_))
  exact⟨gH3.trans g4,q4⟩
 have hm4 : 1≤m∧m≤4:=⟨hm5.1,by have:=hm5.2;omega⟩
 obtain⟨ns,hns⟩ : ∃ ns : Nat,S=ns:=⟨S.toNat,by omega⟩
 obtain⟨A,hA0⟩ : ∃ A,A=(otc m S (vl L l)).1:=⟨_,rfl⟩
 obtain⟨B,hB0⟩ : ∃ B,B=(otc m S (vl L l)).2:=⟨_,rfl⟩
 have hzA : ∀ p,¬ 0<vl L l p→A p=0:=fun p hp=>by rw[hA0];exact F0.1.adm p (fun k=>hp k.2)
 have hzB : ∀ p,¬ 0<vl L l p→B p=0:=fun p hp=>by
  rw[hB0]
  rcases F0.2 with⟨_,_,e⟩|⟨_,_,e⟩|⟨_,_,_,e⟩
  ·rw[e];exact F0.1.adm p (fun k=>hp k.2)
  ·rw[e];exact F0.1.adm p (fun k=>hp k.2)
  ·rw[e];unfold Sea.up;rw[if_neg (fun k=>hp (mem_tp.1 k).2.1)];exact F0.1.adm p (fun k=>hp k.2)
 have spr:=fun p (s : Nat)=>spread (m:=m) (p:=p) (s:=s) hns h5 hvk hS hv8
 have fA : ∀ p,p<8→0<vl L l p→cn (fun (s : Nat)=>ck (vl L l) ns (fun q t=>¬ qlt (clq m S (vl L l) q t) (clq m S (vl L l) p s))≤S) ns=A p:=fun p hp hv=>by
  rw[hA0]
  exact cn_eq ⟨F0.1.nn p,by have:=(hbd.1 p).2;omega⟩ (fun s hs=>(spr p s hp hv hs).1)
 have hBS : ∀ p,(otc m S (vl L l)).2 p≤S:=fun p=>by
  rcases F0.2 with⟨_,_,e⟩|⟨_,_,e⟩|⟨_,e1,_,e⟩
  ·rw[e];exact (hbd.1 p).2
  ·rw[e];exact (hbd.1 p).2
  ·have:=hbd.2.1 p
   by_cases hp : p<8
   ·have:=sm_each F0.1.nn hp
    omega
   ·rw[e];unfold Sea.up;rw[if_neg (fun k=>hp (mem_tp.1 k).1)];exact (hbd.1 p).2
 have fB : ∀ p,p<8→0<vl L l p→cn (fun (s : Nat)=>ck (vl L l) ns (fun q t=>qlt (clq m S (vl L l) p s) (clq m S (vl L l) q t))<S) ns=B p:=fun p hp hv=>by
  rw[hB0]
  exact cn_eq ⟨by have:=F0.1.nn p;have:=(hbd.2.1 p).1;omega,by have:=hBS p;omega⟩ (fun s hs=>(spr p s hp hv hs).2)
 refine zS ?_
 refine V.l0 ?_
 refine zS ?_
 refine V.loop (fun z t mm X=>∃ (p : Nat),p≤l.length∧z=l.length-p∧mm=[]∧Grow H X∧Bx X H.next (A3 m S L) 23∧Bx X H1.next (Li (fl l.length fun q=>if q<p then A q else 0)) 3∧Bx X (H1.next+1) (Li (fl l.length fun q=>if q<p then B q else 0)) 3∧Full 127 t∧Kn [(1,.slice px nx' cx),(2,PT H.next),(6,.slice (some ⟨H1.next,0,none⟩) l.length l.length),(7,.slice (some ⟨H1.next+1,0,none⟩) l.length l.length),(8,I p)] t) l.length ?_ ?_
 ·exact⟨0,by omega,by omega,rfl,gH3,b3,c3,d3,zF,zK⟩
 clear hF hA
 rintro z t mm X ⟨p,hp,rfl,rfl,gX,bX,cX,dX,hF,hA⟩
 simp only[Kn,and_true] at hA
 refine zS ?_
 have zf:=@hl
 refine V.lz ?_
 refine zS ?_
 refine V.condP zP (fun hlt=>?_) (fun hlt=>?_)
 ·have hlt' : p<l.length:=by omega
  have hp8 : p<8:=by omega
  obtain⟨lp,lp1,lp2⟩:=h.at hlt'
  have hbp:=hb _ (List.getElem_mem hlt')
  have egp:=gl0_at hlt'
  have vadm : 0<vl L l p↔adm L l[p]:=by rw[vl_pos,egp]
  have vval : 0<vl L l p→vl L l p=l[p]:=fun k=>by rw[← vl_eq k,egp]
  have iA : ∀ q : Nat,(if q<p then A q else 0)=if q=p then (0 : Int) else if q<p then A q else 0:=fun q=>by
   by_cases k : q=p
   ·rw[if_pos k,if_neg (by omega)]
   ·rw[if_neg k]
  have iB : ∀ q : Nat,(if q<p then B q else 0)=if q=p then (0 : Int) else if q<p then B q else 0:=fun q=>by
   by_cases k : q=p
   ·rw[if_pos k,if_neg (by omega)]
   ·rw[if_neg k]
  have jA : (fun q : Nat=>if q=p then A p else if q<p then A q else 0)=fun q=>if q<p+1 then A q else 0:=by
   funext q
   by_cases k : q=p
   ·rw[if_pos k,if_pos (by omega),k]
   ·rw[if_neg k]
    by_cases k2 : q<p
    ·rw[if_pos k2,if_pos (by omega)]
    ·rw[if_neg k2,if_neg (by omega)]
  have jB : (fun q : Nat=>if q=p then B p else if q<p then B q else 0)=fun q=>if q<p+1 then B q else 0:=by
   funext q
   by_cases k : q=p
   ·rw[if_pos k,if_pos (by omega),k]
   ·rw[if_neg k]
    by_cases k2 : q<p
    ·rw[if_pos k2,if_pos (by omega)]
    ·rw[if_neg k2,if_neg (by omega)]
  rw[funext iA] at cX
  rw[funext iB] at dX
  obtain⟨PA,hPA⟩ : ∃ PA : Nat→Prop,PA=fun (s : Nat)=>ck (vl L l) ns (fun q t=>¬ qlt (clq m S (vl L l) q t) (clq m S (vl L l) p s))≤S:=⟨_,rfl⟩
  obtain⟨PB,hPB⟩ : ∃ PB : Nat→Prop,PB=fun (s : Nat)=>ck (vl L l) ns (fun q t=>qlt (clq m S (vl L l) p s) (clq m S (vl L l) q t))<S:=⟨_,rfl⟩
  have fA':=fA p hp8
  have fB':=fB p hp8
  rw[← hPA] at fA'
  rw[← hPB] at fB'
  refine zS ?_
  refine V.l0 ?_
  refine zS ?_
  refine V.loop (fun z t mm X=>∃ (s : Nat),s≤ns∧z=ns-s∧mm=[]∧(¬ adm L l[p]→s=0)∧Grow H X∧Bx X H.next (A3 m S L) 23∧Bx X H1.next (Li (fl l.length fun q=>if q=p then cn PA s else if q<p then A q else 0)) 3∧Bx X (H1.next+1) (Li (fl l.length fun q=>if q=p then cn PB s else if q<p then B q else 0)) 3∧Full 127 t∧Kn [(1,.slice px nx' cx),(2,PT H.next),(6,.slice (some ⟨H1.next,0,none⟩) l.length l.length),(7,.slice (some ⟨H1.next+1,0,none⟩) l.length l.length),(8,I p),(9,I s)] t) ns ?_ ?_
  ·exact⟨0,by omega,by omega,rfl,fun _=>rfl,gX,bX,cX,dX,zF,zK⟩
  clear hF hA gX bX cX dX
  rintro z t mm X ⟨s,hs,rfl,rfl,hz,gX,bX,cX,dX,hF,hA⟩
  simp only[Kn,and_true] at hA
  have lp3:=lp2 X gX
  refine zS ?_
  by_cases c1 : (s : Int)<S
  rotate_left
  ·have c1' : ((s : Int)<S)=False:=eq_false c1
   have hsn : s=ns:=by omega
   refine V.draw ?_
   have zf:=And.intro bX.2<|@c1'
   refine VD.nz 9 ?_
   simp only[ds]
   have zf:=And.intro bX.2<|@c1'
   refine VD.nz 1 ?_
   simp only[ds]
   refine VD.gdF zG ?_
   have zf:=@c1'
   refine VD.dz ?_ ?_ rfl ?_
   ·exact zM
   ·simp only[dcAll,dcOk,wantD,List.cons_append,List.nil_append,true_and,and_true]
    try exact fun hw q hq=>by simp only[wantD,D5,hF,hA,↓reduceIte,qD,qE,beq_iff_eq,decide_eq_false_iff_not,decide_eq_true_eq] at hw
   refine zS ?_
   refine V.condF zA ?_
   have eA : cn PA s=A p:=by
    by_cases k : adm L l[p]
    ·rw[hsn];exact fA' (vadm.2 k)
    ·rw[hz k,hzA p (fun hh=>k (vadm.1 hh))];rfl
   have eB : cn PB s=B p:=by
    by_cases k : adm L l[p]
    ·rw[hsn];exact fB' (vadm.2 k)
    ·rw[hz k,hzB p (fun hh=>k (vadm.1 hh))];rfl
   rw[eA,jA] at cX
   rw[eB,jB] at dX
   refine V.exit ?_
   refine zX ?_
   refine V.nil (Or.inr ⟨by simp,?_⟩)
   refine zX ?_
   refine zS ?_
   refine V.l0 ?_
   refine V.nil (Or.inl ⟨rfl,l.length-(p+1),by omega,?_⟩)
   exact⟨p+1,hlt',rfl,rfl,gX,bX,cX,dX,zF,zK⟩
  have c1' : ((s : Int)<S)=True:=eq_true c1
  refine V.draw ?_
  have zf:=And.intro bX.2<|And.intro @lp1<|And.intro @lp3<|@c1'
  refine VD.nz 9 ?_
  simp only[ds]
  have zf:=And.intro bX.2<|And.intro @lp1<|And.intro @lp3<|@c1'
  refine VD.nz 1 ?_
  simp only[ds]
  refine VD.callAT zG zA (f37_ok m S L l[p] X) zA (fun X2 k2=>?_)
  have bX2:=bX.grow k2
  have cX2:=cX.grow k2
  have dX2:=dX.grow k2
  have gX2:=gX.trans k2
  have lp4:=lp2 X2 gX2
  have o2:=k2.1
  have zf:=@c1'
  refine VD.dz ?_ ?_ rfl ?_
  ·exact zM
  ·simp only[dcAll,dcOk,wantD,List.cons_append,List.nil_append,true_and,and_true]
  refine zS ?_
  refine V.condP zP (fun ha=>?_) (fun ha=>?_)
  rotate_left
  ·have eA : cn PA s=A p:=by rw[hz ha,hzA p (fun hh=>ha (vadm.1 hh))];rfl
   have eB : cn PB s=B p:=by rw[hz ha,hzB p (fun hh=>ha (vadm.1 hh))];rfl
   rw[eA,jA] at cX2
   rw[eB,jB] at dX2
   refine V.exit ?_
   refine zX ?_
   refine V.nil (Or.inr ⟨by simp,?_⟩)
   refine zX ?_
   refine zS ?_
   refine V.l0 ?_
   refine V.nil (Or.inl ⟨rfl,l.length-(p+1),by omega,?_⟩)
   exact⟨p+1,hlt',rfl,rfl,gX2,bX2,cX2,dX2,zF,zK⟩
  have vp:=vadm.2 ha
  have evp:=vval vp
  have qbp:=ofq_qb (m:=m) (c:=l[p]) (s:=s) hbp (by omega)
  have qop:=ofq_ok (m:=m) (c:=l[p]) (s:=s) (by have:=ha.1;omega) (by omega)
  obtain⟨P1,hP1⟩ : ∃ P1 : Nat→Nat→Prop,P1=fun (q t : Nat)=>qlt (clq m S (vl L l) p s) (clq m S (vl L l) q t):=⟨_,rfl⟩
  obtain⟨P2,hP2⟩ : ∃ P2 : Nat→Nat→Prop,P2=fun (q t : Nat)=>¬ qlt (clq m S (vl L l) q t) (clq m S (vl L l) p s)∧¬ qlt (clq m S (vl L l) p s) (clq m S (vl L l) q t):=⟨_,rfl⟩
  have kb : ∀ (P : Nat→Nat→Prop) (o : Nat),o≤l.length→0≤kp (vl L l) ns P o∧kp (vl L l) ns P o≤488:=fun P o ho=>by
   have h1:=kp_bd (v:=vl L l) (n:=ns) (P:=P) o
   have h2 : (ns : Int)*o≤61*8:=Int.mul_le_mul (by omega) (by omega) (by omega) (by omega)
   omega
  refine zS ?_
  refine V.draw ?_
  have zf:=And.intro bX2.2<|And.intro @lp1<|@lp4
  refine VD.nz 7 ?_
  simp only[ds]
  refine VD.callR zA (f70_ok (m:=m) (c:=l[p]) (s:=(s : Int)) hbp) zA (fun w3 X3 ⟨g3,a1,hw3,ha1⟩=>?_)
  subst hw3
  obtain rfl : a1=ofq m l[p] s:=ha1 (by omega)
  have o3:=g3.1
  refine VD.d0 ?_ ?_ rfl ?_
  ·exact zM
  ·simp only[dcAll,dcOk,wantD,List.cons_append,List.nil_append,true_and,and_true]
   exact fun _=>⟨_,_,_,rfl,rfl,rfl,(by simp only[D5,hF,hA,↓reduceIte,qD,qE];simp[inBound]),fun _=>⟨_,_,_,cells_alloc _ _ _ _,(by first|exact An_inb|rfl)⟩⟩
  refine V.heap (fun Y=>Grow X2 Y∧Bx Y X3.next (A2 (ofq m l[p] s).1 (ofq m l[p] s).2) 101) ⟨?_,?_⟩ ?_
  ·exact zW
  ·exact Bx.put (by simp only[Heap.next_alloc];omega) _ _
  rintro X4 ⟨g4,e4⟩
  have gX4:=gX2.trans g4
  have bX4:=bX2.grow g4
  have cX4:=cX2.grow g4
  have dX4:=dX2.grow g4
  refine zS ?_
  refine V.l0 ?_
  refine zS ?_
  refine V.l0 ?_
  refine zS ?_
  refine V.loop (fun z t mm Y=>∃ (o : Nat),o≤l.length∧z=l.length-o∧mm=[]∧Grow X4 Y∧Full 127 t∧Kn [(1,.slice px nx' cx),(2,PT H.next),(6,.slice (some ⟨H1.next,0,none⟩) l.length l.length),(7,.slice (some ⟨H1.next+1,0,none⟩) l.length l.length),(8,I p),(9,I s),(10,PT X3.next),(11,I (kp (vl L l) ns P1 o)),(12,I (kp (vl L l) ns P2 o)),(13,I o)] t) l.length ?_ ?_
  ·exact⟨0,by omega,by omega,rfl,.refl _,zF,zK⟩
  clear hF hA
  rintro z t mm Y ⟨o,ho,rfl,rfl,gY,hF,hA⟩
  simp only[Kn,and_true] at hA
  have k1o:=kb P1 o ho
  have k2o:=kb P2 o ho
  refine zS ?_
  have zf:=@hl
  refine V.lz ?_
  refine zS ?_
  refine V.condP zP (fun hlo=>?_) (fun hlo=>?_)
  ·have hlo' : o<l.length:=by omega
   have ho8 : o<8:=by omega
   obtain⟨lo,lo1,lo2⟩:=h.at hlo'
   have hbo:=hb _ (List.getElem_mem hlo')
   have ego:=gl0_at hlo'
   have vado : 0<vl L l o↔adm L l[o]:=by rw[vl_pos,ego]
   have valo : 0<vl L l o→vl L l o=l[o]:=fun k=>by rw[← vl_eq k,ego]
   refine zS ?_
   refine V.l0 ?_
   refine zS ?_
   refine V.loop (fun z t mm Y=>∃ (u : Nat),u≤ns∧z=ns-u∧mm=[]∧(¬ adm L l[o]→u=0)∧Grow X4 Y∧Full 127 t∧Kn [(1,.slice px nx' cx),(2,PT H.next),(6,.slice (some ⟨H1.next,0,none⟩) l.length l.length),(7,.slice (some ⟨H1.next+1,0,none⟩) l.length l.length),(8,I p),(9,I s),(10,PT X3.next),(11,I (kp (vl L l) ns P1 o+cn (P1 o) u)),(12,I (kp (vl L l) ns P2 o+cn (P2 o) u)),(13,I o),(14,I u)] t) ns ?_ ?_
   ·refine⟨0,by omega,by omega,rfl,fun _=>rfl,gY,?_⟩
    have z1 : cn (P1 o) 0=0:=rfl
    have z2 : cn (P2 o) 0=0:=rfl
    rw[z1,z2,Int.add_zero,Int.add_zero]
    exact⟨zF,zK⟩
   clear hF hA gY
   rintro z t mm Y ⟨u,hu,rfl,rfl,hzu,gY,hF,hA⟩
   simp only[Kn,and_true] at hA
   have n1u:=cn_nn (P1 o) u
   have n2u:=cn_nn (P2 o) u
   have lo3:=lo2 Y (gX4.trans gY)
   have bY:=bX4.grow gY
   refine zS ?_
   by_cases c2 : (u : Int)<S
   rotate_left
   ·have c2' : ((u : Int)<S)=False:=eq_false c2
    have hun : u=ns:=by omega
    refine V.draw ?_
    have zf:=And.intro bY.2<|@c2'
    refine VD.nz 9 ?_
    simp only[ds]
    have zf:=And.intro bY.2<|@c2'
    refine VD.nz 1 ?_
    simp only[ds]
    refine VD.gdF zG ?_
    have zf:=@c2'
    refine VD.dz ?_ ?_ rfl ?_
    ·exact zM
    ·simp only[dcAll,dcOk,wantD,List.cons_append,List.nil_append,true_and,and_true]
     try exact fun hw q hq=>by simp only[wantD,D5,hF,hA,↓reduceIte,qD,qE,beq_iff_eq,decide_eq_false_iff_not,decide_eq_true_eq] at hw
    refine zS ?_
    refine V.condF zA ?_
    have e : ∀ P : Nat→Nat→Prop,kp (vl L l) ns P o+cn (P o) u=kp (vl L l) ns P (o+1):=fun P=>by
     by_cases k : adm L l[o]
     ·rw[kp_t (vado.2 k),hun]
     ·rw[kp_f (fun hh=>k (vado.1 hh)),hzu k]
      exact Int.add_zero _
    rw[e P1,e P2] at hA
    refine V.exit ?_
    refine zX ?_
    refine V.nil (Or.inr ⟨by simp,?_⟩)
    refine zX ?_
    refine zS ?_
    refine V.l0 ?_
    refine V.nil (Or.inl ⟨rfl,l.length-(o+1),by omega,?_⟩)
    exact⟨o+1,hlo',rfl,rfl,gY,zF,zK⟩
   have c2' : ((u : Int)<S)=True:=eq_true c2
   refine V.draw ?_
   have zf:=And.intro bY.2<|And.intro @lo1<|And.intro @lo3<|@c2'
   refine VD.nz 9 ?_
   simp only[ds]
   have zf:=And.intro bY.2<|And.intro @lo1<|And.intro @lo3<|@c2'
   refine VD.nz 1 ?_
   simp only[ds]
   refine VD.callAT zG zA (f37_ok m S L l[o] Y) zA (fun Y2 j2=>?_)
   have bY2:=bY.grow j2
   have gY2:=gY.trans j2
   have lo4:=lo2 Y2 (gX4.trans gY2)
   have o5:=j2.1
   have zf:=@c2'
   refine VD.dz ?_ ?_ rfl ?_
   ·exact zM
   ·simp only[dcAll,dcOk,wantD,List.cons_append,List.nil_append,true_and,and_true]
   refine zS ?_
   refine V.condP zP (fun hao=>?_) (fun hao=>?_)
   rotate_left
   ·have e : ∀ P : Nat→Nat→Prop,kp (vl L l) ns P o+cn (P o) u=kp (vl L l) ns P (o+1):=fun P=>by
     rw[kp_f (fun hh=>hao (vado.1 hh)),hzu hao]
     exact Int.add_zero _
    rw[e P1,e P2] at hA
    refine V.exit ?_
    refine zX ?_
    refine V.nil (Or.inr ⟨by simp,?_⟩)
    refine zX ?_
    refine zS ?_
    refine V.l0 ?_
    refine V.nil (Or.inl ⟨rfl,l.length-(o+1),by omega,?_⟩)
    exact⟨o+1,hlo',rfl,rfl,gY2,zF,zK⟩
   have vo:=vado.2 hao
   have evo:=valo vo
   have qbo:=ofq_qb (m:=m) (c:=l[o]) (s:=u) hbo (by omega)
   have qoo:=ofq_ok (m:=m) (c:=l[o]) (s:=u) (by have:=hao.1;omega) (by omega)
   have cmp1 : qlt (ofq m l[p] s) (ofq m l[o] u)↔qlt (clq m S (vl L l) p s) (clq m S (vl L l) o u):=by
    rw[← evp,← evo]
    exact ofq_cmp hm4 vp vo (by omega) (by omega)
   have cmp2 : qlt (ofq m l[o] u) (ofq m l[p] s)↔qlt (clq m S (vl L l) o u) (clq m S (vl L l) p s):=by
    rw[← evp,← evo]
    exact ofq_cmp hm4 vo vp (by omega) (by omega)
   refine zS ?_
   refine V.draw ?_
   have zf:=And.intro bY2.2<|And.intro @lo1<|@lo4
   refine VD.nz 7 ?_
   simp only[ds]
   refine VD.callR zA (f70_ok (m:=m) (c:=l[o]) (s:=(u : Int)) hbo) zA (fun w6 Y3 ⟨j3,a2,hw6,ha2⟩=>?_)
   subst hw6
   obtain rfl : a2=ofq m l[o] u:=ha2 (by omega)
   have o6:=j3.1
   refine VD.d0 ?_ ?_ rfl ?_
   ·exact zM
   ·simp only[dcAll,dcOk,wantD,List.cons_append,List.nil_append,true_and,and_true]
    exact fun _=>⟨_,_,_,rfl,rfl,rfl,(by simp only[D5,hF,hA,↓reduceIte,qD,qE];simp[inBound]),fun _=>⟨_,_,_,cells_alloc _ _ _ _,(by first|exact An_inb|rfl)⟩⟩
   refine V.heap (fun Z=>Grow Y2 Z∧Bx Z Y3.next (A2 (ofq m l[o] u).1 (ofq m l[o] u).2) 101) ⟨?_,?_⟩ ?_
   ·exact zW
   ·exact Bx.put (by simp only[Heap.next_alloc];omega) _ _
   rintro Y4 ⟨j4,f4⟩
   have gY4:=gY2.trans j4
   have eY4:=e4.grow gY4
   refine zS ?_
   refine V.run ?_
   have zf:=And.intro f4.2<|eY4.2
   refine VI.sz 2 ?_
   simp only[ds]
   refine VI.callR zA (f71_ok (a:=ofq m l[o] u) (b:=ofq m l[p] s)) zA (fun w7 Y5 ⟨j5,r1,hw7,hr1⟩=>?_)
   subst hw7
   have hr1:=hr1 qoo qop qbo qbp
   have gY5:=gY4.trans j5
   have eY5:=eY4.grow j5
   have fY5:=f4.grow j5
   by_cases k1 : P1 o u
   ·have k1' : qlt (clq m S (vl L l) p s) (clq m S (vl L l) o u):=by rw[hP1] at k1;exact k1
    obtain rfl : r1=true:=by rw[hr1];exact decide_eq_true (cmp1.2 k1')
    have e1 : cn (P1 o) (u+1)=cn (P1 o) u+1:=cn_t k1
    have e2 : cn (P2 o) (u+1)=cn (P2 o) u:=cn_f (fun k=>by rw[hP2] at k;exact k.2 k1')
    refine VI.l0 ?_
    refine zS ?_
    refine V.condT zA ?_
    refine zS ?_
    refine V.l0 ?_
    refine zS ?_
    refine V.l0 ?_
    refine V.nil (Or.inl ⟨rfl,ns-(u+1),by omega,?_⟩)
    refine⟨u+1,by omega,rfl,rfl,fun k=>absurd hao k,gY5,?_⟩
    rw[e1,e2,← Int.add_assoc]
    exact⟨zF,zK⟩
   have k1' : ¬ qlt (clq m S (vl L l) p s) (clq m S (vl L l) o u):=by rw[hP1] at k1;exact k1
   obtain rfl : r1=false:=by rw[hr1];exact decide_eq_false (fun k=>k1' (cmp1.1 k))
   have e1 : cn (P1 o) (u+1)=cn (P1 o) u:=cn_f k1
   refine VI.l0 ?_
   refine zS ?_
   refine V.condF zA ?_
   refine zS ?_
   refine V.run ?_
   have zf:=And.intro fY5.2<|eY5.2
   refine VI.sz 2 ?_
   simp only[ds]
   refine VI.callR zA (f71_ok (a:=ofq m l[p] s) (b:=ofq m l[o] u)) zA (fun w8 Y6 ⟨j6,r2,hw8,hr2⟩=>?_)
   subst hw8
   have hr2:=hr2 qop qoo qbp qbo
   have gY6:=gY5.trans j6
   by_cases k2 : qlt (clq m S (vl L l) o u) (clq m S (vl L l) p s)
   ·obtain rfl : r2=true:=by rw[hr2];exact decide_eq_true (cmp2.2 k2)
    have e2 : cn (P2 o) (u+1)=cn (P2 o) u:=cn_f (fun k=>by rw[hP2] at k;exact k.1 k2)
    refine VI.l0 ?_
    refine zS ?_
    refine V.condF zA ?_
    refine zS ?_
    refine V.l0 ?_
    refine V.nil (Or.inl ⟨rfl,ns-(u+1),by omega,?_⟩)
    refine⟨u+1,by omega,rfl,rfl,fun k=>absurd hao k,gY6,?_⟩
    rw[e1,e2]
    exact⟨zF,zK⟩
   ·obtain rfl : r2=false:=by rw[hr2];exact decide_eq_false (fun k=>k2 (cmp2.1 k))
    have e2 : cn (P2 o) (u+1)=cn (P2 o) u+1:=cn_t (by rw[hP2];exact⟨k2,k1'⟩)
    refine VI.l0 ?_
    refine zS ?_
    refine V.condT zA ?_
    refine zS ?_
    refine V.l0 ?_
    refine zS ?_
    refine V.l0 ?_
    refine V.nil (Or.inl ⟨rfl,ns-(u+1),by omega,?_⟩)
    refine⟨u+1,by omega,rfl,rfl,fun k=>absurd hao k,gY6,?_⟩
    rw[e1,e2,← Int.add_assoc]
    exact⟨zF,zK⟩
  ·obtain rfl : o=l.length:=by omega
   have kB : kp (vl L l) ns P1 l.length=ck (vl L l) ns P1:=kp_8 hl8 (fun q hq=>vl_out hq)
   have kE : kp (vl L l) ns P2 l.length=ck (vl L l) ns P2:=kp_8 hl8 (fun q hq=>vl_out hq)
   have hbe : kp (vl L l) ns P1 l.length=ck (vl L l) ns (fun q t=>qlt (clq m S (vl L l) p s) (clq m S (vl L l) q t)):=by rw[kB,hP1]
   have hBE : kp (vl L l) ns P1 l.length+kp (vl L l) ns P2 l.length=ck (vl L l) ns (fun q t=>¬ qlt (clq m S (vl L l) q t) (clq m S (vl L l) p s)):=by
    rw[kB,kE]
    refine (ck_add (fun q t hq hvq=>?_)).symm
    rw[hP1,hP2]
    refine⟨⟨fun k=>?_,fun k=>?_⟩,fun k=>k.2.2 k.1⟩
    ·by_cases kk : qlt (clq m S (vl L l) p s) (clq m S (vl L l) q t)
     ·exact .inl kk
     ·exact .inr ⟨k,kk⟩
    ·rcases k with k|k
     ·exact qlt_asymm (clq_ok hvk hS hp8 vp (by omega)) (clq_ok hvk hS hq hvq (by omega)) k
     ·exact k.1
   have gZ:=gX4.trans gY
   have bZ:=bX4.grow gY
   have cZ:=cX4.grow gY
   have dZ:=dX4.grow gY
   have na:=cn_nn PA s
   have nb:=cn_nn PB s
   refine V.exit ?_
   refine zX ?_
   refine V.nil (Or.inr ⟨by simp,?_⟩)
   refine zX ?_
   refine zS ?_
   have zf:=bZ.2
   refine V.lz ?_
   refine zS ?_
   refine V.condP zP (fun hA1=>?_) (fun hA1=>?_)
   ·have ea : cn PA (s+1)=cn PA s+1:=cn_t (by rw[hPA];rw[hBE] at hA1;exact hA1)
    have hLk : (Li (fl l.length fun q=>if q=p then cn PA s else if q<p then A q else 0))[p]?=some (I (cn PA s)):=by rw[Li_at (by rw[fl_len];exact hlt'),fl_at,if_pos rfl]
    have oi:=own_idx (y:=H1.next) (c:=l.length) hlt'
    have hst:=fl_set (n:=l.length) (p:=p) (g:=fun q=>if q<p then A q else 0) (a:=cn PA s) (b:=cn PA s+1)
    have n7:=cZ.1
    have n8:=bZ.1
    refine zS ?_
    have zf:=And.intro @oi<|And.intro cZ.2<|And.intro @hLk<|And.intro @Li_len<|And.intro @fl_len<|And.intro @hlt'<|@hst
    refine V.lz ?_
    rw[← ea]
    refine V.heap (fun X=>Grow H X∧Bx X H.next (A3 m S L) 23∧Bx X H1.next (Li (fl l.length fun q=>if q=p then cn PA (s+1) else if q<p then A q else 0)) 3∧Bx X (H1.next+1) (Li (fl l.length fun q=>if q=p then cn PB s else if q<p then B q else 0)) 3) ⟨?_,?_,?_,?_⟩ ?_
    ·exact gZ.set (by have:=g1.1;omega) _
    ·exact bZ.set (by omega) _
    ·exact Bx.put (by omega) _ _
    ·exact dZ.set (by omega) _
    clear gZ bZ cZ dZ
    rintro Z ⟨gZ,bZ,cZ,dZ⟩
    refine zS ?_
    have zf:=bZ.2
    refine V.lz ?_
    refine zS ?_
    refine V.condP zP (fun hB1=>?_) (fun hB1=>?_)
    ·have eb : cn PB (s+1)=cn PB s+1:=cn_t (by rw[hPB];rw[hbe] at hB1;exact hB1)
     have hLk2 : (Li (fl l.length fun q=>if q=p then cn PB s else if q<p then B q else 0))[p]?=some (I (cn PB s)):=by rw[Li_at (by rw[fl_len];exact hlt'),fl_at,if_pos rfl]
     have oi2:=own_idx (y:=H1.next+1) (c:=l.length) hlt'
     have hst2:=fl_set (n:=l.length) (p:=p) (g:=fun q=>if q<p then B q else 0) (a:=cn PB s) (b:=cn PB s+1)
     have n9:=cZ.1
     have n10:=dZ.1
     have n11:=bZ.1
     refine zS ?_
     have zf:=And.intro @oi2<|And.intro dZ.2<|And.intro @hLk2<|And.intro @Li_len<|And.intro @fl_len<|And.intro @hlt'<|@hst2
     refine V.lz ?_
     rw[← eb]
     refine V.heap (fun X=>Grow H X∧Bx X H.next (A3 m S L) 23∧Bx X H1.next (Li (fl l.length fun q=>if q=p then cn PA (s+1) else if q<p then A q else 0)) 3∧Bx X (H1.next+1) (Li (fl l.length fun q=>if q=p then cn PB (s+1) else if q<p then B q else 0)) 3) ⟨?_,?_,?_,?_⟩ ?_
     ·exact gZ.set (by have:=g1.1;omega) _
     ·exact bZ.set (by omega) _
     ·exact cZ.set (by omega) _
     ·exact Bx.put (by omega) _ _
     clear gZ bZ cZ dZ
     rintro W ⟨gZ,bZ,cZ,dZ⟩
     refine zS ?_
     refine V.l0 ?_
     refine V.nil (Or.inl ⟨rfl,ns-(s+1),by omega,?_⟩)
     exact⟨s+1,by omega,rfl,rfl,fun k=>absurd ha k,gZ,bZ,cZ,dZ,zF,zK⟩
    ·have eb : cn PB (s+1)=cn PB s:=cn_f (by rw[hPB];rw[hbe] at hB1;exact hB1)
     rw[← eb] at dZ
     refine zS ?_
     refine V.l0 ?_
     refine V.nil (Or.inl ⟨rfl,ns-(s+1),by omega,?_⟩)
     exact⟨s+1,by omega,rfl,rfl,fun k=>absurd ha k,gZ,bZ,cZ,dZ,zF,zK⟩
   ·have ea : cn PA (s+1)=cn PA s:=cn_f (by rw[hPA];rw[hBE] at hA1;exact hA1)
    rw[← ea] at cZ
    refine zS ?_
    have zf:=bZ.2
    refine V.lz ?_
    refine zS ?_
    refine V.condP zP (fun hB1=>?_) (fun hB1=>?_)
    ·have eb : cn PB (s+1)=cn PB s+1:=cn_t (by rw[hPB];rw[hbe] at hB1;exact hB1)
     have hLk2 : (Li (fl l.length fun q=>if q=p then cn PB s else if q<p then B q else 0))[p]?=some (I (cn PB s)):=by rw[Li_at (by rw[fl_len];exact hlt'),fl_at,if_pos rfl]
     have oi2:=own_idx (y:=H1.next+1) (c:=l.length) hlt'
     have hst2:=fl_set (n:=l.length) (p:=p) (g:=fun q=>if q<p then B q else 0) (a:=cn PB s) (b:=cn PB s+1)
     have n9:=cZ.1
     have n10:=dZ.1
     have n11:=bZ.1
     refine zS ?_
     have zf:=And.intro @oi2<|And.intro dZ.2<|And.intro @hLk2<|And.intro @Li_len<|And.intro @fl_len<|And.intro @hlt'<|@hst2
     refine V.lz ?_
     rw[← eb]
     refine V.heap (fun X=>Grow H X∧Bx X H.next (A3 m S L) 23∧Bx X H1.next (Li (fl l.length fun q=>if q=p then cn PA (s+1) else if q<p then A q else 0)) 3∧Bx X (H1.next+1) (Li (fl l.length fun q=>if q=p then cn PB (s+1) else if q<p then B q else 0)) 3) ⟨?_,?_,?_,?_⟩ ?_
     ·exact gZ.set (by have:=g1.1;omega) _
     ·exact bZ.set (by omega) _
     ·exact cZ.set (by omega) _
     ·exact Bx.put (by omega) _ _
     clear gZ bZ cZ dZ
     rintro W ⟨gZ,bZ,cZ,dZ⟩
     refine zS ?_
     refine V.l0 ?_
     refine V.nil (Or.inl ⟨rfl,ns-(s+1),by omega,?_⟩)
     exact⟨s+1,by omega,rfl,rfl,fun k=>absurd ha k,gZ,bZ,cZ,dZ,zF,zK⟩
    ·have eb : cn PB (s+1)=cn PB s:=cn_f (by rw[hPB];rw[hbe] at hB1;exact hB1)
     rw[← eb] at dZ
     refine zS ?_
     refine V.l0 ?_
     refine V.nil (Or.inl ⟨rfl,ns-(s+1),by omega,?_⟩)
     exact⟨s+1,by omega,rfl,rfl,fun k=>absurd ha k,gZ,bZ,cZ,dZ,zF,zK⟩
 ·obtain rfl : p=l.length:=by omega
  refine V.exit ?_
  refine zX ?_
  refine V.nil (Or.inr ⟨by simp,?_⟩)
  refine zX ?_
  refine zS ?_
  refine V.l0 ?_
  refine zS ?_
  refine V.ret (V.rets rfl (Lv.retF (by simp +contextual (disch:=first|omega|simp only[nx];omega) only[D1,cells_alloc_at,cells_alloc_ne,cells_set_at,cells_set_ne,yres,yres1,yresL,qA,qB,qC,D5,hF,hA,↓reduceIte,qD,qE];rfl) ?_))
  have e : ∀ f : Nat→Int,(fl l.length fun q=>if q<l.length then f q else 0)=fl l.length f:=fun f=>by
   apply List.ext_getElem
   ·rw[fl_len,fl_len]
   ·intro i h1 h2
    rw[fl_at,fl_at,if_pos (by rw[fl_len] at h2;exact h2)]
  rw[e] at cX dX
  have hh1:=g1.1
  refine⟨gX,hQ _ _ _ (by omega) (by omega) ?_ ?_⟩
  ·rw[← hA0];exact cX
  ·rw[← hB0];exact dX
theorem f42_loc {H : Heap} {m S L : Int} {x : Value} {l : List Int} (h5 : m≠5) (h : LS H x l) (hg : (1≤m∧m≤5)∧(0≤S∧S≤61)∧l.length≤8∧∀ v∈l,0≤v∧v≤10000) : F Try.prog 42 ⟨[.agg ⟨A3 m S L⟩,x]⟩ H (fun w X=>Grow H X∧∃ i1 i2,H.next≤i1∧H.next≤i2∧Bx X i1 (Li (fl l.length (otc m S (vl L l)).1)) 3∧Bx X i2 (Li (fl l.length (otc m S (vl L l)).2)) 3∧w=.tuple ⟨[.slice (some ⟨i1,0,none⟩) l.length l.length,.slice (some ⟨i2,0,none⟩) l.length l.length]⟩):=
 f42_gen (Q:=fun X w=>∃ i1 i2,H.next≤i1∧H.next≤i2∧Bx X i1 (Li (fl l.length (otc m S (vl L l)).1)) 3∧Bx X i2 (Li (fl l.length (otc m S (vl L l)).2)) 3∧w=.tuple ⟨[.slice (some ⟨i1,0,none⟩) l.length l.length,.slice (some ⟨i2,0,none⟩) l.length l.length]⟩) h hg (fun e=>absurd e h5) (fun _ _ ⟨_,_,_,_,_,_,e⟩=>⟨_,_,e⟩) (fun _ i1 i2 a b c d=>⟨i1,i2,a,b,c,d,rfl⟩)
end Go.Xe.TVX
