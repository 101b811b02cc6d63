/- What the functions of the layer seat come to: Bounds, party by party. Conditions: none. -/
import Derived.Test.YtelfbgmhleneiaaTUZ
-- MOD TV
namespace Go.Xe.TVX
open Go Go.Xe Go.Proofs
open Nat renaming reduceLeDiff → qA, reduceSub → qB, reduceAdd → qC, reduceEqDiff → qD, reduceLT → qE
open Int renaming reduceNegSucc → qF, reduceEq → qG
open Go.Xe.V renaming seq → sA, block → sB, scope → sC, skip → sD, close → sE
open Go.Xe renaming pth → P
open Go.Xe.Sea
set_option maxRecDepth 100000
set_option maxHeartbeats 3200000
set_option linter.unusedSimpArgs false
noncomputable def d68 : FCode:=(.seq (.run (.go (.box 28 (tm 0)) (P 2)::
.go (.move (.con (.slice none 0 0))) (P 4)::
[])) (.seq (.run (.go (.move (.con (.slice none 0 0))) (P 5)::
.go (.move (.con (.slice none 0 0))) (P 6)::
[])) (.seq (.seq (.run (.go (.move (tm 1)) (P 16)::
.go (.len 0 (tm 16)) (P 17)::
.go (.move (.con (.int .i64 (.ofNat 0)))) (P 18)::
[])) (.block 0 (.loop (.seq (.run (.go (.bin .lss 3 (tm 18) (tm 17)) (P 19)::
[])) (.seq (.cond (tm 19) .skip (.exit 0)) (.seq (.block 1 (.seq (.run (.go (.indexAddr none 2 (tm 16) (tm 18)) (P 20)::
.go (.loadN 2 (tm 20)) (P 21)::
.go (.alloc 49 [(.int .i64 (.ofNat 0)),(.int .i64 (.ofNat 0))]) (P 8)::
.un (.store 2 (tm 8) (tm 21))::
[])) (.seq (.run (.go (.move (tm 5)) (P 22)::
.go (.fieldAddr 0 (tm 8)) (P 23)::
.go (.load1 (tm 23)) (P 24)::
.go (.buildSlice 3 1 [(.int .i64 (.ofNat 0))] [(0,1,(tm 24))]) (P 25)::
.go (.append 3 1 8 (tm 22) (tm 25)) (P 26)::
.go (.move (tm 26)) (P 5)::
[])) (.run (.go (.move (tm 6)) (P 27)::
.go (.fieldAddr 1 (tm 8)) (P 28)::
.go (.load1 (tm 28)) (P 29)::
.go (.buildSlice 3 1 [(.int .i64 (.ofNat 0))] [(0,1,(tm 29))]) (P 30)::
.go (.append 3 1 8 (tm 27) (tm 30)) (P 31)::
.go (.move (tm 31)) (P 6)::
[]))))) (.run (.go (.bin .add 3 (tm 18) (.con (.int .i64 (.ofNat 1)))) (P 32)::
.go (.move (tm 32)) (P 18)::
[])))))))) (.seq (.run (.go (.move (.con (.slice none 0 0))) (P 9)::
[])) (.seq (.seq (.run (.go (.move (tm 1)) (P 33)::
.go (.len 0 (tm 33)) (P 34)::
.go (.move (.con (.int .i64 (.ofNat 0)))) (P 35)::
[])) (.block 2 (.loop (.seq (.run (.go (.bin .lss 3 (tm 35) (tm 34)) (P 36)::
[])) (.seq (.cond (tm 36) .skip (.exit 2)) (.seq (.block 3 (.seq (.run (.go (.move (tm 35)) (P 37)::
.go (.indexAddr none 2 (tm 33) (tm 35)) (P 38)::
.go (.loadN 2 (tm 38)) (P 39)::
.go (.alloc 49 [(.int .i64 (.ofNat 0)),(.int .i64 (.ofNat 0))]) (P 11)::
.go (.move (tm 37)) (P 10)::
.un (.store 2 (tm 11) (tm 39))::
[])) (.seq (.draw 15 (.go (.loadN 3 (tm 2)) (P 41)::
.go (.move (tm 6)) (P 42)::
.go (.move (tm 10)) (P 43)::
.go (.fieldAddr 0 (tm 11)) (P 44)::
.go (.load1 (tm 44)) (P 45)::
.go (.call (.con (.func (.func 89) ⟨[]⟩ ⟨[]⟩)) [(tm 42),(tm 43),(tm 45)]) (P 46)::
.go (.call (.con (.func (.func 55) ⟨[]⟩ ⟨[]⟩)) [(tm 41),(tm 46)]) (P 47)::
.go (.call (.con (.func (.func 79) ⟨[]⟩ ⟨[]⟩)) [tm 47]) (P 48)::
.go (.move (tm 48)) (P 40)::
.go (.extract (tm 40) 0) (P 49)::
.go (.extract (tm 40) 1) (P 50)::
.go (.alloc 78 [(.int .i64 (.ofNat 0)),(.int .i64 (.ofNat 0)),(.int .i64 (.ofNat 0)),(.int .i64 (.ofNat 0)),(.int .i64 (.ofNat 0)),(.int .i64 (.ofNat 0)),(.int .i64 (.ofNat 0)),(.int .i64 (.ofNat 0))]) (P 12)::
.go (.alloc 78 [(.int .i64 (.ofNat 0)),(.int .i64 (.ofNat 0)),(.int .i64 (.ofNat 0)),(.int .i64 (.ofNat 0)),(.int .i64 (.ofNat 0)),(.int .i64 (.ofNat 0)),(.int .i64 (.ofNat 0)),(.int .i64 (.ofNat 0))]) (P 13)::
.un (.store 8 (tm 12) (tm 49))::
.un (.store 8 (tm 13) (tm 50))::
[]) [.rd none (.loadN 3 (tm 2)) (some (P 41)) [6],.ok,.ok,.ok,.ok,.ok,.ok,.ok,.ok,.ok,.ok,.nw none (some (P 12)) 11 true,.nw none (some (P 13)) 12 true,.ok,.ok]) (.seq (.draw 15 (.go (.loadN 3 (tm 2)) (P 52)::
.go (.move (tm 5)) (P 53)::
.go (.move (tm 10)) (P 54)::
.go (.fieldAddr 1 (tm 11)) (P 55)::
.go (.load1 (tm 55)) (P 56)::
.go (.call (.con (.func (.func 89) ⟨[]⟩ ⟨[]⟩)) [(tm 53),(tm 54),(tm 56)]) (P 57)::
.go (.call (.con (.func (.func 55) ⟨[]⟩ ⟨[]⟩)) [(tm 52),(tm 57)]) (P 58)::
.go (.call (.con (.func (.func 79) ⟨[]⟩ ⟨[]⟩)) [tm 58]) (P 59)::
.go (.move (tm 59)) (P 51)::
.go (.extract (tm 51) 0) (P 60)::
.go (.extract (tm 51) 1) (P 61)::
.go (.alloc 78 [(.int .i64 (.ofNat 0)),(.int .i64 (.ofNat 0)),(.int .i64 (.ofNat 0)),(.int .i64 (.ofNat 0)),(.int .i64 (.ofNat 0)),(.int .i64 (.ofNat 0)),(.int .i64 (.ofNat 0)),(.int .i64 (.ofNat 0))]) (P 14)::
.go (.alloc 78 [(.int .i64 (.ofNat 0)),(.int .i64 (.ofNat 0)),(.int .i64 (.ofNat 0)),(.int .i64 (.ofNat 0)),(.int .i64 (.ofNat 0)),(.int .i64 (.ofNat 0)),(.int .i64 (.ofNat 0)),(.int .i64 (.ofNat 0))]) (P 15)::
.un (.store 8 (tm 14) (tm 60))::
.un (.store 8 (tm 15) (tm 61))::
[]) [.rd none (.loadN 3 (tm 2)) (some (P 52)) [6],.ok,.ok,.ok,.ok,.ok,.ok,.ok,.ok,.ok,.ok,.nw none (some (P 14)) 11 true,.nw none (some (P 15)) 12 true,.ok,.ok]) (.draw 11 (.go (.move (tm 9)) (P 62)::
.go (.move (tm 10)) (P 63)::
.go (.indexAddr (some 8) 1 (tm 12) (tm 63)) (P 64)::
.go (.load1 (tm 64)) (P 65)::
.go (.move (tm 10)) (P 66)::
.go (.indexAddr (some 8) 1 (tm 15) (tm 66)) (P 67)::
.go (.load1 (tm 67)) (P 68)::
.go (.build [(.int .i64 (.ofNat 0)),(.int .i64 (.ofNat 0))] [(0,1,(tm 65)),(1,1,(tm 68))]) (P 69)::
.go (.buildSlice 49 1 [(.int .i64 (.ofNat 0)),(.int .i64 (.ofNat 0))] [(0,2,(tm 69))]) (P 70)::
.go (.append 49 2 16 (tm 62) (tm 70)) (P 71)::
.go (.move (tm 71)) (P 9)::
[]) [.ok,.ok,.ok,.ok,.ok,.ok,.ok,.ok,.ok,.ok,.ok]))))) (.run (.go (.bin .add 3 (tm 35) (.con (.int .i64 (.ofNat 1)))) (P 72)::
.go (.move (tm 72)) (P 35)::
[])))))))) (.seq (.run (.go (.move (tm 9)) (P 73)::
.go (.move (tm 73)) (P 4)::
[])) .ret))))))
theorem de68 : @compF Try.prog (Gl.none Try.prog) Try.f68 2=.mk d68 (mkTT 74) [(P 0),(P 1)] [.tmp (P 4)]:=by kernel_rfl
theorem dg68 : Try.prog.funcs[68]?=some Try.f68:=Try.func68
theorem do68 : okF Try.prog Try.f68=true:=by kernel_rfl
noncomputable def d40 : FCode:=(.seq (.run (.go (.box 28 (tm 0)) (P 2)::
.go (.move (.con (.slice none 0 0))) (P 4)::
.go (.move (.con (.int .i64 (.ofNat 0)))) (P 5)::
[])) (.seq (.run (.go (.loadN 3 (tm 2)) (P 7)::
.go (.move (tm 1)) (P 8)::
.go (.call (.con (.func (.func 66) ⟨[]⟩ ⟨[]⟩)) [(tm 7),(tm 8),(.con (.func (.func 67) ⟨[]⟩ ⟨[]⟩))]) (P 9)::
.go (.move (tm 9)) (P 6)::
[])) (.seq (.block 0 (.seq (.run (.go (.move (tm 6)) (P 11)::
.go (.bin .neq 26 (tm 11) (.con (.int .i64 (.ofNat 0)))) (P 12)::
.go (.move (tm 12)) (P 10)::
[])) (.cond (tm 10) (.seq (.run (.go (.move (tm 6)) (P 13)::
.go (.move (.con (.slice none 0 0))) (P 4)::
.go (.move (tm 13)) (P 5)::
[])) .ret) (.seq (.run (.go (.fieldAddr 0 (tm 2)) (P 15)::
.go (.load1 (tm 15)) (P 16)::
.go (.bin .eql 5 (tm 16) (.con (.int .u8 (.ofNat 5)))) (P 17)::
.go (.move (tm 17)) (P 14)::
[])) (.cond (tm 14) (.seq (.run (.go (.move (.con (.slice none 0 0))) (P 4)::
.go (.move (.con (.int .i64 (.ofNat 8)))) (P 5)::
[])) .ret) .skip))))) (.seq (.run (.go (.loadN 3 (tm 2)) (P 18)::
.go (.move (tm 1)) (P 19)::
.go (.call (.con (.func (.func 68) ⟨[]⟩ ⟨[]⟩)) [(tm 18),(tm 19)]) (P 20)::
.go (.move (tm 20)) (P 4)::
.go (.move (.con (.int .i64 (.ofNat 0)))) (P 5)::
[])) .ret))))
theorem de40 : @compF Try.prog (Gl.none Try.prog) Try.f40 2=.mk d40 (mkTT 21) [(P 0),(P 1)] [.tmp (P 4),.tmp (P 5)]:=by kernel_rfl
theorem dg40 : Try.prog.funcs[40]?=some Try.f40:=Try.func40
theorem do40 : okF Try.prog Try.f40=true:=by kernel_rfl
noncomputable def d41 : FCode:=(.seq (.run (.go (.move (.con (.slice none 0 0))) (P 2)::
[])) (.seq (.run (.go (.move (.con (.slice none 0 0))) (P 3)::
[])) (.seq (.seq (.run (.go (.move (.con (.int .i64 (.ofNat 0)))) (P 4)::
[])) (.block 0 (.loop (.seq (.seq (.run (.go (.move (tm 4)) (P 5)::
.go (.move (tm 0)) (P 6)::
.go (.len 0 (tm 6)) (P 7)::
.go (.bin .lss 3 (tm 5) (tm 7)) (P 8)::
[])) (.cond (tm 8) .skip (.exit 0))) (.seq (.block 1 (.draw 15 (.go (.move (tm 3)) (P 11)::
.go (.move (tm 0)) (P 12)::
.go (.move (tm 4)) (P 13)::
.go (.indexAddr none 2 (tm 12) (tm 13)) (P 14)::
.go (.fieldAddr 0 (tm 14)) (P 15)::
.go (.load1 (tm 15)) (P 16)::
.go (.move (tm 0)) (P 17)::
.go (.move (tm 4)) (P 18)::
.go (.indexAddr none 2 (tm 17) (tm 18)) (P 19)::
.go (.fieldAddr 1 (tm 19)) (P 20)::
.go (.load1 (tm 20)) (P 21)::
.go (.build [(.int .i64 (.ofNat 0)),(.int .i64 (.ofNat 0))] [(0,1,(tm 16)),(1,1,(tm 21))]) (P 22)::
.go (.buildSlice 49 1 [(.int .i64 (.ofNat 0)),(.int .i64 (.ofNat 0))] [(0,2,(tm 22))]) (P 23)::
.go (.append 49 2 16 (tm 11) (tm 23)) (P 24)::
.go (.move (tm 24)) (P 3)::
[]) [.ok,.ok,.ok,.ok,.ok,.ok,.ok,.ok,.ok,.ok,.ok,.ok,.ok,.ok,.ok])) (.run (.go (.move (tm 4)) (P 9)::
.go (.bin .add 3 (tm 9) (.con (.int .i64 (.ofNat 1)))) (P 10)::
.go (.move (tm 10)) (P 4)::
[]))))))) (.seq (.run (.go (.move (tm 3)) (P 25)::
.go (.move (tm 25)) (P 2)::
[])) .ret))))
theorem de41 : @compF Try.prog (Gl.none Try.prog) Try.f41 1=.mk d41 (mkTT 26) [(P 0)] [.tmp (P 2)]:=by kernel_rfl
theorem dg41 : Try.prog.funcs[41]?=some Try.f41:=Try.func41
theorem do41 : okF Try.prog Try.f41=true:=by kernel_rfl
theorem gl0_map {R : List R2} {f : R2→Int} {k : Nat} (hk : k<R.length) : gl0 (R.map f) k=f R[k]:=by
 rw[gl0_at (by rw[List.length_map];exact hk),List.getElem_map]
theorem f68_ok {H : Heap} {m S L : Int} {x : Value} {R : List R2} (h : RS H x R) (hm : 1≤m∧m≤5) (hS : 0≤S∧S≤60) (hR8 : R.length≤8) (hR : ∀ r∈R,rok r) : F Try.prog 68 ⟨[.agg ⟨A3 m S L⟩,x]⟩ H (fun w X=>Grow H X∧OwW 2 H X 49 w ((bnd m S L R R.length).map q2)):=by
 have hl:=h.len
 obtain⟨px,nx',cx,rfl⟩:=h.isS
 have hlo : ∀ v∈R.map (·.1),0≤v∧v≤10000:=fun v hv=>by
  obtain⟨r,hr,rfl⟩:=List.mem_map.1 hv
  exact (hR r hr).2.1
 have hhi : ∀ v∈R.map (·.2),0≤v∧v≤10000:=fun v hv=>by
  obtain⟨r,hr,rfl⟩:=List.mem_map.1 hv
  exact (hR r hr).2.2
 refine F.entryL rfl dg68 do68 de68 rfl (by kernel_rfl) ?_
 simp only[sets]
 refine V.re [(0,.agg ⟨A3 m S L⟩),(1,.slice px nx' cx)] (N:=74) zE zY ?_
 intro t hF hA
 simp only[Kn,and_true] at hA
 refine zS ?_
 refine V.l0 ?_
 refine V.heap (fun X=>Grow H X∧Bx X H.next (A3 m S L) 28) ⟨?_,?_⟩ ?_
 ·exact zW
 ·exact zB
 rintro H1 ⟨g1,b1⟩
 have n1:=b1.1
 refine zS ?_
 refine V.l0 ?_
 refine zS ?_
 have zf:=@hl
 refine V.lz ?_
 refine zS ?_
 refine V.loop (fun z t mm X=>∃ (k : Nat) (w5 w6 : Value),k≤R.length∧z=R.length-k∧mm=[]∧Grow H1 X∧Ow H1 X 3 w5 (Li ((R.take k).map (·.1)))∧Ow H1 X 3 w6 (Li ((R.take k).map (·.2)))∧Sep w5 w6∧Full 74 t∧Kn [(1,.slice px nx' cx),(2,PT H.next),(5,w5),(6,w6),(16,.slice px nx' cx),(17,I R.length),(18,I k)] t) R.length ?_ ?_
 ·exact⟨0,_,_,by omega,by omega,rfl,.refl _,.nil,.nil,(fun i h=>by cases h),zF,zK⟩
 clear hF hA
 rintro z t mm X ⟨k,w5,w6,hk,rfl,rfl,hg,o5,o6,hsep,hF,hA⟩
 simp only[Kn,and_true] at hA
 refine zS ?_
 refine V.l0 ?_
 refine zS ?_
 refine V.condP zP (fun hlt=>?_) (fun hlt=>?_)
 ·have hlt' : k<R.length:=by omega
  obtain⟨i,o,h1,h2⟩:=h.at hlt'
  have h3:=(h2 X (g1.trans hg)).1
  refine zS ?_
  have zf:=And.intro @h1<|@h3
  refine V.lz ?_
  refine V.heap (fun Y=>Grow X Y∧Bx Y X.next (A2 R[k].1 R[k].2) 49) ⟨?_,?_⟩ ?_
  ·exact zW
  ·exact zB
  rintro X1 ⟨gx,bx⟩
  have n5 : blk w5≠some X.next:=fun e=>by have:=o5.lt e;omega
  have o5:=o5.keep gx
  have o6:=o6.keep gx
  have e1 : Li ((R.take k).map (·.1))++[I R[k].1]=Li ((R.take (k+1)).map (·.1)):=by rw[tk1 hlt',List.map_append];simp[Li]
  have e2 : Li ((R.take k).map (·.2))++[I R[k].2]=Li ((R.take (k+1)).map (·.2)):=by rw[tk1 hlt',List.map_append];simp[Li]
  obtain⟨u5,X2,a1,a2,a3,a4,a5,_,a7,_⟩:=o5.push (bytes:=8) (r:=[I R[k].1]) (hg.trans gx) rfl (by simp) (by rw[Li_len,List.length_map,List.length_take];simp;omega) (by rw[Li_len,List.length_map,List.length_take];simp;omega)
  have o6':=a4.sep o6 hsep
  have bx2:=bx.apart a4 n5
  obtain⟨u6,X3,c1,c2,c3,c4,c5,_,c7,_⟩:=o6'.push (bytes:=8) (r:=[I R[k].2]) a3 rfl (by simp) (by rw[Li_len,List.length_map,List.length_take];simp;omega) (by rw[Li_len,List.length_map,List.length_take];simp;omega)
  have hs2 : Sep u5 u6:=fun i h1 h2=>by
   rw[a5] at h1
   rw[c5] at h2
   have h1:=Option.some.inj h1
   have h2:=Option.some.inj h2
   omega
  have hs3 : Sep w6 u5:=fun i h1 h2=>by
   have:=o6.lt h1
   rw[a5] at h2
   have h2:=Option.some.inj h2
   omega
  have o5':=c4.sep a2 hs3
  rw[e1] at o5'
  rw[e2] at c2
  replace a1 : yappend 3 1 8 (X1.alloc (.cells ⟨[I R[k].1]⟩ 3 true)) w5 (.slice (some ⟨X1.next,0,none⟩) 1 1)=some (u5,X2):=a1
  replace c1 : yappend 3 1 8 (X2.alloc (.cells ⟨[I R[k].2]⟩ 3 true)) w6 (.slice (some ⟨X2.next,0,none⟩) 1 1)=some (u6,X3):=c1
  refine zS ?_
  have zf:=And.intro bx.2<|@a1
  refine V.lz ?_
  refine zS ?_
  have zf:=And.intro bx2.2<|@c1
  refine V.lz ?_
  refine zS ?_
  refine V.l0 ?_
  refine V.nil (Or.inl ⟨rfl,R.length-(k+1),by omega,?_⟩)
  exact⟨k+1,u5,u6,hlt',rfl,rfl,c3,o5',c2,hs2,zF,zK⟩
 obtain rfl : k=R.length:=by omega
 rw[List.take_length] at o5 o6
 have bX:=b1.grow hg
 have gX:=g1.trans hg
 have ls5:=ow_ls o5
 have ls6:=ow_ls o6
 clear o5 o6 hsep
 refine V.exit ?_
 refine zX ?_
 refine V.nil (Or.inr ⟨by simp,?_⟩)
 refine zX ?_
 refine zS ?_
 refine V.l0 ?_
 refine zS ?_
 have zf:=@hl
 refine V.lz ?_
 refine zS ?_
 refine V.loop (fun z t mm Y=>∃ (k : Nat) (w : Value),k≤R.length∧z=R.length-k∧mm=[]∧Grow X Y∧OwW 2 X Y 49 w ((bnd m S L R k).map q2)∧Full 74 t∧Kn [(1,.slice px nx' cx),(2,PT H.next),(5,w5),(6,w6),(9,w),(33,.slice px nx' cx),(34,I R.length),(35,I k)] t) R.length ?_ ?_
 ·exact⟨0,_,by omega,by omega,rfl,.refl _,.nil,zF,zK⟩
 clear hF hA
 rintro z t mm Y ⟨k,w,hk,rfl,rfl,gY,ow,hF,hA⟩
 simp only[Kn,and_true] at hA
 refine zS ?_
 refine V.l0 ?_
 refine zS ?_
 refine V.condP zP (fun hl2=>?_) (fun hl2=>?_)
 ·have hlt' : k<R.length:=by omega
  have hk8 : k<8:=by omega
  obtain⟨i,o,h1,h2⟩:=h.at hlt'
  have h3:=(h2 Y (gX.trans gY)).1
  have hr:=hR _ (List.getElem_mem hlt')
  refine zS ?_
  have zf:=And.intro @h1<|@h3
  refine V.lz ?_
  refine V.heap (fun Z=>Grow Y Z∧Bx Z Y.next (A2 R[k].1 R[k].2) 49) ⟨?_,?_⟩ ?_
  ·exact zW
  ·exact zB
  rintro Y1 ⟨gy,by1⟩
  have gXY:=gY.trans gy
  have bY:=bX.grow gXY
  -- the fewest
  have h1b : ∀ v∈(R.map (·.2)).set k R[k].1,0≤v∧v≤10000:=fun v hv=>by
   rcases List.mem_or_eq_of_mem_set hv with hv|rfl
   ·exact hhi v hv
   ·exact hr.2.1
  have h2b : ∀ v∈(R.map (·.1)).set k R[k].2,0≤v∧v≤10000:=fun v hv=>by
   rcases List.mem_or_eq_of_mem_set hv with hv|rfl
   ·exact hlo v hv
   ·exact hr.2.2
  have e1 : bLo m S L R k=(otc m S (vl L ((R.map (·.2)).set k R[k].1))).1 k:=by unfold bLo;rw[gl0_map hlt']
  have e2 : bHi m S L R k=(otc m S (vl L ((R.map (·.1)).set k R[k].2))).2 k:=by unfold bHi;rw[gl0_map hlt']
  obtain⟨l1,hl1⟩ : ∃ l1,l1=(R.map (·.2)).set k R[k].1:=⟨_,rfl⟩
  obtain⟨l2,hl2⟩ : ∃ l2,l2=(R.map (·.1)).set k R[k].2:=⟨_,rfl⟩
  rw[← hl1] at h1b e1
  rw[← hl2] at h2b e2
  have ll1 : l1.length≤8:=by rw[hl1,List.length_set,List.length_map];exact hR8
  have ll2 : l2.length≤8:=by rw[hl2,List.length_set,List.length_map];exact hR8
  have vk1:=vl_ok (L:=L) h1b
  have vk2:=vl_ok (L:=L) h2b
  have v81:=vl_8 (L:=L) ll1
  have v82:=vl_8 (L:=L) ll2
  have hS' : 0≤S∧S≤61:=by omega
  have nY:=gXY.1
  have nb:=bY.1
  have nb2:=by1.1
  refine zS ?_
  refine V.draw ?_
  have zf:=And.intro bY.2<|by1.2
  refine VD.nz 5 ?_
  simp only[ds]
  refine VD.callR zA (f89_ok (p:=k) (n:=R[k].1) (ls6.grow gXY) (by rw[List.length_map];exact hlt') (by rw[List.length_map];omega)) zA (fun wa Ya ⟨ga,qa⟩=>?_)
  rw[← hl1] at qa
  refine VD.callA zA (f55_ok (m:=m) (S:=S) (L:=L) qa ll1 h1b hm) zA (fun Yb gb=>?_)
  refine VD.callA zA (f79_ok (L:=L) (c:=gl0 l1) hm vk1 hS' v81) zA (fun Yc gc=>?_)
  have gac:=(ga.trans gb).trans gc
  have mac:=gac.1
  have ma:=ga.1
  have mb:=gb.1
  have mc:=gc.1
  have n8a:=n8_set0 (otc m S (vl L l1)).1 (fun _=>0)
  have n8b:=n8_set0 (otc m S (vl L l1)).2 (fun _=>0)
  have zf:=And.intro @n8_take<|And.intro @n8_len<|And.intro @n8_ok<|And.intro @n8a<|And.intro @n8b<|@n8_0
  refine VD.dz ?_ ?_ rfl ?_
  ·exact zM
  ·simp only[dcAll,dcOk,wantD,List.cons_append,List.nil_append,true_and,and_true]
   have zf:=And.intro bY.2<|And.intro by1.2<|((bY.grow ga).2)
   exact⟨zR,fun _=>⟨_,_,_,rfl,rfl,rfl,(by simp only[D5,hF,hA,↓reduceIte,qD,qE];simp[inBound]),fun _=>⟨_,_,_,cells_alloc _ _ _ _,(by first|exact An_inb|rfl)⟩⟩,fun _=>⟨_,_,_,rfl,rfl,rfl,(by simp only[D5,hF,hA,↓reduceIte,qD,qE];simp[inBound]),fun _=>⟨_,_,_,cells_alloc _ _ _ _,(by first|exact An_inb|rfl)⟩⟩⟩
  refine V.heap (fun Z=>Grow Y1 Z∧Bx Z Yc.next (n8 (otc m S (vl L l1)).1) 78) ⟨?_,?_⟩ ?_
  ·exact zW
  ·exact (Bx.put (by simp only[Heap.next_alloc];omega) _ _).set (by omega) _
  rintro Yd ⟨gd,bd⟩
  have by2:=by1.grow gd
  have bYd:=bY.grow gd
  have gXd:=gXY.trans gd
  have nd:=gd.1
  refine zS ?_
  refine V.draw ?_
  have zf:=And.intro bYd.2<|by2.2
  refine VD.nz 5 ?_
  simp only[ds]
  refine VD.callR zA (f89_ok (p:=k) (n:=R[k].2) (ls5.grow gXd) (by rw[List.length_map];exact hlt') (by rw[List.length_map];omega)) zA (fun we Ye ⟨ge,qe⟩=>?_)
  rw[← hl2] at qe
  refine VD.callA zA (f55_ok (m:=m) (S:=S) (L:=L) qe ll2 h2b hm) zA (fun Yf gf=>?_)
  refine VD.callA zA (f79_ok (L:=L) (c:=gl0 l2) hm vk2 hS' v82) zA (fun Yg gg=>?_)
  have geg:=(ge.trans gf).trans gg
  have meg:=geg.1
  have me:=ge.1
  have mf:=gf.1
  have mg:=gg.1
  have n8c:=n8_set0 (otc m S (vl L l2)).1 (fun _=>0)
  have n8d:=n8_set0 (otc m S (vl L l2)).2 (fun _=>0)
  have nbd:=bd.1
  have zf:=And.intro @n8_take<|And.intro @n8_len<|And.intro @n8_ok<|And.intro @n8c<|And.intro @n8d<|@n8_0
  refine VD.dz ?_ ?_ rfl ?_
  ·exact zM
  ·simp only[dcAll,dcOk,wantD,List.cons_append,List.nil_append,true_and,and_true]
   have zf:=And.intro bYd.2<|And.intro by2.2<|((bYd.grow ge).2)
   exact⟨zR,fun _=>⟨_,_,_,rfl,rfl,rfl,(by simp only[D5,hF,hA,↓reduceIte,qD,qE];simp[inBound]),fun _=>⟨_,_,_,cells_alloc _ _ _ _,(by first|exact An_inb|rfl)⟩⟩,fun _=>⟨_,_,_,rfl,rfl,rfl,(by simp only[D5,hF,hA,↓reduceIte,qD,qE];simp[inBound]),fun _=>⟨_,_,_,cells_alloc _ _ _ _,(by first|exact An_inb|rfl)⟩⟩⟩
  refine V.heap (fun Z=>Grow Yd Z∧Bx Z Yc.next (n8 (otc m S (vl L l1)).1) 78∧Bx Z (Yg.next+1) (n8 (otc m S (vl L l2)).2) 78) ⟨?_,?_,?_⟩ ?_
  ·exact zW
  ·exact ((((bd.grow geg).alloc _).alloc _).set (by omega) _).set (by omega) _
  ·exact Bx.put (by simp only[Heap.next_alloc,Heap.next_set];omega) _ _
  rintro Yh ⟨gh,bh,ch⟩
  have ix1:=idx_arr (i:=Yc.next) (o:=0) (kd:=.i64) hk8
  have ix2:=idx_arr (i:=Yg.next+1) (o:=0) (kd:=.i64) hk8
  have e8a:=n8_get (f:=(otc m S (vl L l1)).1) hk8
  have e8b:=n8_get (f:=(otc m S (vl L l2)).2) hk8
  rw[← e1] at e8a
  rw[← e2] at e8b
  have gYh:=(gy.trans gd).trans gh
  obtain⟨u,Yi,a1,a2,a3,a4,a5,a6⟩:=OwW.push (bytes:=16) (x:=A2 (bLo m S L R k) (bHi m S L R k)) (by decide) (gY.trans gYh) (ow.keep gYh) q2_w rfl rfl (by rw[List.length_map,bnd_len];omega) (by rw[List.length_map,bnd_len];omega)
  refine zS ?_
  have zf:=And.intro bh.2<|And.intro ch.2<|And.intro @ix1<|And.intro @ix2<|And.intro @e8a<|And.intro @e8b<|@a1
  refine V.dz ?_ ?_ rfl ?_
  ·exact zM
  ·simp only[dcAll,dcOk,wantD,List.cons_append,List.nil_append,true_and,and_true]
  refine zS ?_
  refine V.l0 ?_
  refine V.nil (Or.inl ⟨rfl,R.length-(k+1),by omega,?_⟩)
  refine⟨k+1,u,by omega,rfl,rfl,a3,?_,zF,zK⟩
  rw[bnd_1,List.map_append]
  exact a2
 ·obtain rfl : k=R.length:=by omega
  refine V.exit ?_
  refine zX ?_
  refine V.nil (Or.inr ⟨by simp,?_⟩)
  refine zX ?_
  refine zS ?_
  refine V.l0 ?_
  refine zS ?_
  refine V.ret (V.rets rfl (Lv.retF (by simp +contextual (disch:=first|omega|simp only[nx];omega) only[D1,cells_alloc_at,cells_alloc_ne,cells_set_at,cells_set_ne,yres,yres1,yresL,qA,qB,qC,D5,hF,hA,↓reduceIte,qD,qE];rfl) ?_))
  exact⟨gX.trans gY,ow.base gX.1⟩
def BDR (m S L : Int) (R : List R2) (H X : Heap) (w : Value) : Prop:=∃ y e,w=.tuple ⟨[y,I e]⟩∧((flr m S L R≠0∧y=.slice none 0 0∧e=flr m S L R)∨(flr m S L R=0∧m=5∧y=.slice none 0 0∧e=8)∨(flr m S L R=0∧m≠5∧e=0∧OwW 2 H X 49 y ((bnd m S L R R.length).map q2)))
theorem f40_ok {H : Heap} {m S L : Int} {x : Value} {R : List R2} (h : RS H x R) : F Try.prog 40 ⟨[.agg ⟨A3 m S L⟩,x]⟩ H (fun w X=>Grow H X∧BDR m S L R H X w):=by
 obtain⟨px,nx',cx,rfl⟩:=h.isS
 refine F.entryL rfl dg40 do40 de40 rfl (by kernel_rfl) ?_
 simp only[sets]
 refine V.re [(0,.agg ⟨A3 m S L⟩),(1,.slice px nx' cx)] (N:=21) zE zY ?_
 intro t hF hA
 simp only[Kn,and_true] at hA
 refine zS ?_
 refine V.l0 ?_
 refine V.heap (fun X=>Grow H X∧Bx X H.next (A3 m S L) 28) ⟨?_,?_⟩ ?_
 ·exact zW
 ·exact zB
 rintro H1 ⟨g1,b1⟩
 refine zS ?_
 refine V.run ?_
 have zf:=b1.2
 refine VI.sz 2 ?_
 simp only[ds]
 refine VI.callA rfl (f66_ok (m:=m) (S:=S) (L:=L) (h.grow g1)) zA (fun H2 g2=>?_)
 have b2:=b1.grow g2
 have g12:=g1.trans g2
 refine VI.l0 ?_
 refine zS ?_
 refine V.l0 ?_
 refine zS ?_
 refine V.condP zP (fun he=>?_) (fun he=>?_)
 ·refine zS ?_
  refine V.l0 ?_
  refine zS ?_
  refine V.ret (V.rets rfl (Lv.retF (by simp +contextual (disch:=first|omega|simp only[nx];omega) only[D1,cells_alloc_at,cells_alloc_ne,cells_set_at,cells_set_ne,yres,yres1,yresL,qA,qB,qC,D5,hF,hA,↓reduceIte,qD,qE];rfl) ?_))
  exact⟨g12,_,_,rfl,.inl ⟨he,rfl,rfl⟩⟩
 have he0 : flr m S L R=0:=Decidable.not_not.1 he
 obtain⟨hr,hl8,hb⟩:=flr_0.1 he0
 refine zS ?_
 have zf:=b2.2
 refine V.lz ?_
 refine zS ?_
 refine V.condP zP (fun h5=>?_) (fun h5=>?_)
 ·refine zS ?_
  refine V.l0 ?_
  refine zS ?_
  refine V.ret (V.rets rfl (Lv.retF (by simp +contextual (disch:=first|omega|simp only[nx];omega) only[D1,cells_alloc_at,cells_alloc_ne,cells_set_at,cells_set_ne,yres,yres1,yresL,qA,qB,qC,D5,hF,hA,↓reduceIte,qD,qE];rfl) ?_))
  exact⟨g12,_,_,rfl,.inr (.inl ⟨he0,h5,rfl,rfl⟩)⟩
 refine zS ?_
 refine V.run ?_
 have zf:=b2.2
 refine VI.sz 2 ?_
 simp only[ds]
 refine VI.callR zA (f68_ok (L:=L) (h.grow g12) ⟨hr.1,hr.2.1⟩ ⟨hr.2.2.1,hr.2.2.2.1⟩ hl8 hb) zA (fun w3 H3 ⟨g3,o3⟩=>?_)
 refine VI.l0 ?_
 refine zS ?_
 refine V.ret (V.rets rfl (Lv.retF (by simp +contextual (disch:=first|omega|simp only[nx];omega) only[D1,cells_alloc_at,cells_alloc_ne,cells_set_at,cells_set_ne,yres,yres1,yresL,qA,qB,qC,D5,hF,hA,↓reduceIte,qD,qE];rfl) ?_))
 exact⟨g12.trans g3,_,_,rfl,.inr (.inr ⟨he0,h5,rfl,o3.base g12.1⟩)⟩
theorem f41_ok {H : Heap} {x : Value} {R : List R2} (h : RS H x R) (hn : R.length≤1048576) : F Try.prog 41 ⟨[x]⟩ H (fun w X=>Grow H X∧OwW 2 H X 49 w (R.map q2)):=by
 have hl:=h.len
 obtain⟨px,nx',cx,rfl⟩:=h.isS
 refine F.entryL rfl dg41 do41 de41 rfl (by kernel_rfl) ?_
 simp only[sets]
 refine V.re [(0,.slice px nx' cx)] (N:=26) zE zY ?_
 intro t hF hA
 simp only[Kn,and_true] at hA
 refine zS ?_
 refine V.l0 ?_
 refine zS ?_
 refine V.l0 ?_
 refine zS ?_
 refine V.l0 ?_
 refine zS ?_
 refine V.loop (fun z t mm X=>∃ (k : Nat) (w : Value),k≤R.length∧z=R.length-k∧mm=[]∧Grow H X∧OwW 2 H X 49 w ((R.take k).map q2)∧Full 26 t∧Kn [(0,.slice px nx' cx),(3,w),(4,I k)] t) R.length ?_ ?_
 ·exact⟨0,_,by omega,by omega,rfl,.refl _,.nil,zF,zK⟩
 clear hF hA
 rintro z t mm X ⟨k,w,hk,rfl,rfl,hg,ow,hF,hA⟩
 simp only[Kn,and_true] at hA
 refine zS ?_
 have zf:=@hl
 refine V.lz ?_
 refine zS ?_
 refine V.condP zP (fun hlt=>?_) (fun hlt=>?_)
 ·have hlt' : k<R.length:=by omega
  obtain⟨i,o,h1,h2⟩:=h.at hlt'
  obtain⟨_,h4,h5⟩:=h2 X hg
  obtain⟨u,Y,a1,a2,a3,a4,a5,a6⟩:=OwW.push (bytes:=16) (x:=A2 R[k].1 R[k].2) (by decide) hg ow q2_w rfl rfl (by rw[List.length_map,List.length_take];omega) (by rw[List.length_map,List.length_take];omega)
  refine zS ?_
  have zf:=And.intro @h1<|And.intro @h4<|And.intro @h5<|@a1
  refine V.dz ?_ ?_ rfl ?_
  ·exact zM
  ·simp only[dcAll,dcOk,wantD,List.cons_append,List.nil_append,true_and,and_true]
  refine zS ?_
  refine V.l0 ?_
  refine V.nil (Or.inl ⟨rfl,R.length-(k+1),by omega,?_⟩)
  refine⟨k+1,u,by omega,rfl,rfl,a3,?_,zF,zK⟩
  rw[tk1 hlt',List.map_append]
  exact a2
 ·obtain rfl : k=R.length:=by omega
  rw[List.take_length] at ow
  refine V.exit ?_
  refine zX ?_
  refine V.nil (Or.inr ⟨by simp,?_⟩)
  refine zX ?_
  refine zS ?_
  refine V.l0 ?_
  refine zS ?_
  refine V.ret (V.rets rfl (Lv.retF (by simp +contextual (disch:=first|omega|simp only[nx];omega) only[D1,cells_alloc_at,cells_alloc_ne,cells_set_at,cells_set_ne,yres,yres1,yresL,qA,qB,qC,D5,hF,hA,↓reduceIte,qD,qE];rfl) ?_))
  exact⟨hg,ow⟩
end Go.Xe.TVX
