/- Rules of reasoning over the executable reading of the model's code (part Z13): memory of a function's own, by what lies in it. Conditions: none; for every program. -/
import Derived.Test.YtimnlnfpblomnaaZl
import Derived.Test.YtimnlnfpblomnaaYe
namespace Go.Xe
open Go
def Bx (H : Heap) (i : Nat) (c : List Value) (e : TypeId) : Prop:=i<H.next∧H.cellsAt i=some (⟨c⟩,e,true)
theorem Bx.grow {A B : Heap} (g : Grow A B) {i : Nat} {c : List Value} {e : TypeId} (h : Bx A i c e) : Bx B i c e:=⟨Nat.lt_of_lt_of_le h.1 g.1,(g.cells h.1).trans h.2⟩
theorem Bx.alloc {A : Heap} {i : Nat} {c : List Value} {e : TypeId} (h : Bx A i c e) (o : AO) : Bx (A.alloc o) i c e:=h.grow ((Grow.refl A).alloc o)
theorem Bx.new (A : Heap) (c : List Value) (e : TypeId) : Bx (A.alloc (.cells ⟨c⟩ e true)) A.next c e:=⟨Nat.lt_succ_self _,cells_alloc _ _ _ _⟩
theorem Bx.newAt {A : Heap} {c : List Value} {e : TypeId} {i : Nat} (h : i=A.next) : Bx (A.alloc (.cells ⟨c⟩ e true)) i c e:=by subst h;exact .new A c e
theorem Bx.set {A : Heap} {i j : Nat} {c : List Value} {e : TypeId} (h : Bx A i c e) (hij : i≠j) (o : AO) : Bx (A.set j o) i c e:=⟨h.1,(cells_set_ne A o hij).trans h.2⟩
theorem Bx.put {A : Heap} {i : Nat} (h : i<A.next) (c : List Value) (e : TypeId) : Bx (A.set i (.cells ⟨c⟩ e true)) i c e:=⟨h,cells_set _ _ _ _ _⟩
section
variable {P : Program} [Gl P] [Orc P] {rnd : Option Nat} {Q : FQ} {K : List FFr} {t : TT} {m : List Nat} {H : Heap} {e : XE} {is : List FI}
theorem V.heap (S : Heap→Prop) (hS : S H) (h : ∀ H',S H'→V P rnd Q K e t m H') : V P rnd Q K e t m H:=h H hS
theorem VI.heap (S : Heap→Prop) (hS : S H) (h : ∀ H',S H'→VI P rnd Q K m is t H') : VI P rnd Q K m is t H:=h H hS
end
theorem cells_alloc_at (H : Heap) (c : Array Value) (el : TypeId) (rw : Bool) {i : Nat} (h : H.next≤i) (h' : i≤H.next) : (H.alloc (.cells c el rw)).cellsAt i=some (c,el,rw):=by
 obtain rfl : i=H.next:=by omega
 exact cells_alloc H c el rw
theorem cells_set_at (H : Heap) (c : Array Value) (el : TypeId) (rw : Bool) {i j : Nat} (h : j≤i) (h' : i≤j) : (H.set j (.cells c el rw)).cellsAt i=some (c,el,rw):=by
 obtain rfl : i=j:=by omega
 exact cells_set H i c el rw
theorem mm_max {k : IntKind} {a b : Int} : xmm true [.int k a,.int k b]=some (.int k (if b > a then b else a)):=rfl
theorem mm_min {k : IntKind} {a b : Int} : xmm false [.int k a,.int k b]=some (.int k (if b<a then b else a)):=rfl
def gsV : Value→Bool→Option (Value×Heap)→Heap→Option (Value×Heap)
 | .bool b,w,o,H=>if b=w then o else some (undef,H)
 | .tuple ⟨[]⟩,_,_,H=>some (undef,H)
 | _,_,_,_=>none
def din (P : Program) : List FI→TT→Heap→Option (TT×Heap)
 | [],t,H=>some (t,H)
 | .go f d::is,t,H=>match dop P f t H with
  | some (v,H1)=>din P is (st v d t) H1
  | none=>none
 | .gd p w f d::is,t,H=>match gsV (gt p t) w (dop P f t H) H with
  | some (v,H1)=>din P is (st v d t) H1
  | none=>none
 | .un f::is,t,H=>match f with
  | .store n a x=>match dop P (.store n a x) t H with
   | some (_,H1)=>din P is t H1
   | none=>none
  | .mapUpdate kt a k x=>match dop P (.mapUpdate kt a k x) t H with
   | some (_,H1)=>din P is t H1
   | none=>none
  | .nilCheck x=>match dop P (.nilCheck x) t H with
   | some (_,H1)=>din P is t H1
   | none=>none
  | .clear es z x=>match dop P (.clear es z x) t H with
   | some (_,H1)=>din P is t H1
   | none=>none
  | _=>none
 | .gu ..::_,_,_=>none
theorem gsV_cases {x v : Value} {w : Bool} {o : Option (Value×Heap)} {H H1 : Heap} (h : gsV x w o H=some (v,H1)) : (x=.bool w∧o=some (v,H1))∨(x=.bool (!w)∧v=undef∧H1=H)∨(x=undef∧v=undef∧H1=H):=by
 unfold gsV at h
 split at h
 ·rename_i b w' o' H'
  split at h
  ·rename_i e;subst e;exact .inl ⟨rfl,h⟩
  ·rename_i e
   cases h
   refine .inr (.inl ⟨?_,rfl,rfl⟩)
   cases b<;>cases w<;>simp_all
 ·cases h;exact .inr (.inr ⟨rfl,rfl,rfl⟩)
 ·cases h
section
variable {P : Program} [Gl P] [Orc P] {rnd : Option Nat} {Q : FQ} {K : List FFr} {m : List Nat}
theorem VI.din {is' : List FI} : ∀ {is1 : List FI} {t t1 : TT} {H H1 : Heap},Xe.din P is1 t H=some (t1,H1)→VI P rnd Q K m is' t1 H1→VI P rnd Q K m (is1++is') t H
 | [],t,t1,H,H1,h,k=>by simp only[Xe.din] at h;cases h;exact k
 | .go f d::is,t,t1,H,H1,h,k=>by
  simp only[Xe.din] at h
  split at h
  ·rename_i v H2 hd;exact VI.go hd (VI.din h k)
  ·cases h
 | .gd p w f d::is,t,t1,H,H1,h,k=>by
  simp only[Xe.din] at h
  split at h
  ·rename_i v H2 hd
   rcases gsV_cases hd with⟨h1,h2⟩|⟨h1,rfl,rfl⟩|⟨h1,rfl,rfl⟩
   ·exact VI.gdT h1 (.of h2) (VI.din h k)
   ·exact VI.gdF h1 (VI.din h k)
   ·exact VI.gdN h1 (VI.din h k)
  ·cases h
 | .un f::is,t,t1,H,H1,h,k=>by
  simp only[Xe.din] at h
  split at h
  ·split at h
   ·rename_i v H2 hd;exact VI.un hd (by simp[badOp]) (VI.din h k)
   ·cases h
  ·split at h
   ·rename_i v H2 hd;exact VI.un hd (by simp[badOp]) (VI.din h k)
   ·cases h
  ·split at h
   ·rename_i v H2 hd;exact VI.un hd (by simp[badOp]) (VI.din h k)
   ·cases h
  ·split at h
   ·rename_i v H2 hd;exact VI.un hd (by simp[badOp]) (VI.din h k)
   ·cases h
  ·cases h
 | .gu p w f::is,t,t1,H,H1,h,k=>by simp[Xe.din] at h
theorem VI.steps' (n : Nat) {is : List FI} {t t1 : TT} {H H1 : Heap} (h : Xe.din P (is.take n) t H=some (t1,H1)) (k : VI P rnd Q K m (is.drop n) t1 H1) : VI P rnd Q K m is t H:=by
 rw[← List.take_append_drop n is]
 exact .din h k
theorem V.line' {is : List FI} {t t1 : TT} {H H1 : Heap} (h : Xe.din P is t H=some (t1,H1)) (k : V P rnd Q K .normal t1 m H1) : V P rnd Q (.seq (.run is)::K) .normal t m H:=by
 refine .run ?_
 rw[← List.append_nil is]
 exact .din h (.done k)
theorem VI.line' {is : List FI} {t t1 : TT} {H H1 : Heap} (h : Xe.din P is t H=some (t1,H1)) (k : V P rnd Q K .normal t1 m H1) : VI P rnd Q K m is t H:=by
 rw[← List.append_nil is]
 exact .din h (.done k)
end
def dinA (P : Program) : List FI→TT→Heap→List Heap→Option (TT×List Heap×Heap)
 | [],t,H,pre=>some (t,pre,H)
 | .go f d::is,t,H,pre=>match dop P f t H with
  | some (v,H1)=>dinA P is (st v d t) H1 (pre++[H])
  | none=>none
 | .gd p w f d::is,t,H,pre=>match gsV (gt p t) w (dop P f t H) H with
  | some (v,H1)=>dinA P is (st v d t) H1 (pre++[H])
  | none=>none
 | .un f::is,t,H,pre=>match dop P f t H with
  | some (_,H1)=>dinA P is t H1 (pre++[H])
  | none=>none
 | .gu ..::_,_,_,_=>none
section
variable {P : Program} [Gl P] [Orc P] {rnd : Option Nat} {Q : FQ} {K : List FFr} {m : List Nat} {R : TT→List Heap→Prop}
theorem VD.gdN {is : List FI} {p d : Pth} {w : Bool} {f : FOp} {t : TT} {H : Heap} {pre : List Heap} (hp : gt p t=undef) (k : VD P is (st undef d t) H (pre++[H]) R) : VD P (.gd p w f d::is) t H pre R:=by
 intro ops l tm hl ht
 obtain⟨j,l',rfl,hj,hl'⟩:=list_cons hl
 obtain⟨o,ho,j0,g,i,hg,hjg,rfl,hd,rfl,hf⟩:=compFI_gd hj
 obtain⟨T,Gs,t',⟨n1,k1⟩,k2,k3⟩:=k ops l' (put tm o.dst undef) hl' (by rw[hd];exact ht.st undef i)
 refine⟨T,H::Gs,t',⟨n1,fun N hN=>?_⟩,k2,by simpa using k3⟩
 have hw : xwanted ops tm o=some false:=by
  unfold xwanted
  rw[hg]
  simp only[hjg,Option.bind_some]
  cases hx : tm[g]? with
  | none=>rfl
  | some y=>
   rw[ht.gt,Array.getD_eq_getD_getElem?,hx] at hp
   have : y=undef:=hp
   subst this
   rfl
 simp only[xsteps,ho,hw,k1 N (by omega)]
theorem VD.re {N : Nat} {is : List FI} {t : TT} {H : Heap} {pre : List Heap} (l : List (Nat×Value)) (hF : Full N t) (hA : Kn l t) (h : ∀ t',Full N t'→Kn l t'→VD P is t' H pre R) : VD P is t H pre R:=h t hF hA
theorem VD.heap {is : List FI} {t : TT} {H : Heap} {pre : List Heap} (S : Heap→Prop) (hS : S H) (h : ∀ H',S H'→VD P is t H' pre R) : VD P is t H pre R:=h H hS
theorem VD.callAT {is : List FI} {p d : Pth} {w : Bool} {fa : FA} {args : List FA} {t : TT} {H : Heap} {v : Value} {pre : List Heap} {g : FuncId} {a b l : List Value} (hp : gt p t=.bool w) (hf : dA t fa=.func (.func g) ⟨a⟩ ⟨b⟩) (hs : Gives P g l H v) (hl : a++args.map (dA t)++b=l) (k : ∀ H',Grow H H'→VD P is (st v d t) H' (pre++[H]) R) : VD P (.gd p w (.call fa args) d::is) t H pre R:=by
 subst hl
 refine .callT hp hf ?_
 rw[arr_app,arr_app]
 exact hs.mono (fun v' H' ⟨e,g⟩=>by subst e;exact k H' g)
theorem VD.din : ∀ {is : List FI} {t T : TT} {H H1 : Heap} {pre Gs : List Heap},dinA P is t H pre=some (T,Gs,H1)→R T (Gs++[H1])→VD P is t H pre R
 | [],t,T,H,H1,pre,Gs,h,k=>by simp only[dinA] at h;cases h;exact .nil k
 | .go f d::is,t,T,H,H1,pre,Gs,h,k=>by
  simp only[dinA] at h
  split at h
  ·rename_i v H2 hd;exact .go hd (VD.din h k)
  ·cases h
 | .gd p w f d::is,t,T,H,H1,pre,Gs,h,k=>by
  simp only[dinA] at h
  split at h
  ·rename_i v H2 hd
   rcases gsV_cases hd with⟨h1,h2⟩|⟨h1,rfl,rfl⟩|⟨h1,rfl,rfl⟩
   ·exact .gdT h1 (.of h2) (VD.din h k)
   ·exact .gdF h1 (VD.din h k)
   ·exact .gdN h1 (VD.din h k)
  ·cases h
 | .un f::is,t,T,H,H1,pre,Gs,h,k=>by
  simp only[dinA] at h
  split at h
  ·rename_i v H2 hd;exact .un hd (VD.din h k)
  ·cases h
 | .gu p w f::is,t,T,H,H1,pre,Gs,h,k=>by simp[dinA] at h
theorem VD.dins : ∀ (n : Nat) {is : List FI} {t T : TT} {H H1 : Heap} {pre Gs : List Heap},dinA P (is.take n) t H pre=some (T,Gs,H1)→VD P (is.drop n) T H1 Gs R→VD P is t H pre R
 | 0,is,t,T,H,H1,pre,Gs,h,k=>by
  simp only[List.take_zero,dinA] at h
  cases h
  simpa using k
 | n+1,[],t,T,H,H1,pre,Gs,h,k=>by
  simp only[List.take_nil,dinA] at h
  cases h
  simpa using k
 | n+1,.go f d::is,t,T,H,H1,pre,Gs,h,k=>by
  simp only[List.take_succ_cons,dinA] at h
  split at h
  ·rename_i v H2 hd;exact .go hd (VD.dins n h k)
  ·cases h
 | n+1,.gd p w f d::is,t,T,H,H1,pre,Gs,h,k=>by
  simp only[List.take_succ_cons,dinA] at h
  split at h
  ·rename_i v H2 hd
   rcases gsV_cases hd with⟨h1,h2⟩|⟨h1,rfl,rfl⟩|⟨h1,rfl,rfl⟩
   ·exact .gdT h1 (.of h2) (VD.dins n h k)
   ·exact .gdF h1 (VD.dins n h k)
   ·exact .gdN h1 (VD.dins n h k)
  ·cases h
 | n+1,.un f::is,t,T,H,H1,pre,Gs,h,k=>by
  simp only[List.take_succ_cons,dinA] at h
  split at h
  ·rename_i v H2 hd;exact .un hd (VD.dins n h k)
  ·cases h
 | n+1,.gu p w f::is,t,T,H,H1,pre,Gs,h,k=>by simp[dinA] at h
theorem V.lineD' {is : List FI} {cs : List FC} {n : Nat} {t t1 : TT} {H H1 : Heap} {Gs : List Heap} (h : dinA P is t H []=some (t1,Gs,H1)) (h1 : monoG (Gs++[H1])) (h2 : dcAll P t1 (Gs++[H1]) cs) (h3 : (Gs++[H1])[n]?=some H1) (k : V P rnd Q K .normal t1 m H1) : V P rnd Q (.seq (.draw n is cs)::K) .normal t m H:=
 .draw (.din h ⟨h1,h2,H1,h3,k⟩)
theorem VD.lineD' {is : List FI} {cs : List FC} {n : Nat} {t t1 : TT} {H H1 : Heap} {pre Gs : List Heap} (h : dinA P is t H pre=some (t1,Gs,H1)) (h1 : monoG (Gs++[H1])) (h2 : dcAll P t1 (Gs++[H1]) cs) (h3 : (Gs++[H1])[n]?=some H1) (k : V P rnd Q K .normal t1 m H1) : VD P is t H pre (DEnd P rnd Q K m n cs):=
 .din h ⟨h1,h2,H1,h3,k⟩
end
section
variable {P : Program} {is : List FI} {d p : Pth} {t T : TT} {H H1 : Heap} {f : FOp} {w : Bool} {v : Value} {o : Option (Value×Heap)} {n : Nat} {a x k : FA} {kt : TypeId} {pre : List Heap}
def disK (P : Program) (is : List FI) (d : Pth) (t : TT) : Option (Value×Heap)→Option (TT×Heap)
 | some (v,H1)=>din P is (st v d t) H1
 | none=>none
def disU (P : Program) (is : List FI) (t : TT) : Option (Value×Heap)→Option (TT×Heap)
 | some (_,H1)=>din P is t H1
 | none=>none
theorem gs_tt : gsV (.bool true) true o H=o:=rfl
theorem gs_ff : gsV (.bool false) false o H=o:=rfl
theorem gs_tf : gsV (.bool true) false o H=some (undef,H):=rfl
theorem gs_ft : gsV (.bool false) true o H=some (undef,H):=rfl
theorem gs_un : gsV undef w o H=some (undef,H):=rfl
theorem disK_some : disK P is d t (some (v,H1))=din P is (st v d t) H1:=rfl
theorem disU_some : disU P is t (some (v,H1))=din P is t H1:=rfl
theorem dis_nil : din P [] t H=some (t,H):=rfl
theorem dis_go : din P (.go f d::is) t H=disK P is d t (dop P f t H):=by
 simp only[din]
 cases dop P f t H<;>rfl
theorem dis_gd : din P (.gd p w f d::is) t H=disK P is d t (gsV (gt p t) w (dop P f t H) H):=by
 simp only[din]
 cases gsV (gt p t) w (dop P f t H) H<;>rfl
theorem dis_st : din P (.un (.store n a x)::is) t H=disU P is t (dop P (.store n a x) t H):=by
 simp only[din]
 cases dop P (.store n a x) t H<;>rfl
theorem dis_mu : din P (.un (.mapUpdate kt a k x)::is) t H=disU P is t (dop P (.mapUpdate kt a k x) t H):=by
 simp only[din]
 cases dop P (.mapUpdate kt a k x) t H<;>rfl
theorem dis_nc : din P (.un (.nilCheck x)::is) t H=disU P is t (dop P (.nilCheck x) t H):=by
 simp only[din]
 cases dop P (.nilCheck x) t H<;>rfl
theorem dis_cl {es : Nat} {z : List Value} : din P (.un (.clear es z x)::is) t H=disU P is t (dop P (.clear es z x) t H):=by
 simp only[din]
 cases dop P (.clear es z x) t H<;>rfl
def disAK (P : Program) (is : List FI) (d : Pth) (t : TT) (pre : List Heap) : Option (Value×Heap)→Option (TT×List Heap×Heap)
 | some (v,H1)=>dinA P is (st v d t) H1 pre
 | none=>none
def disAU (P : Program) (is : List FI) (t : TT) (pre : List Heap) : Option (Value×Heap)→Option (TT×List Heap×Heap)
 | some (_,H1)=>dinA P is t H1 pre
 | none=>none
theorem disAK_some : disAK P is d t pre (some (v,H1))=dinA P is (st v d t) H1 pre:=rfl
theorem disAU_some : disAU P is t pre (some (v,H1))=dinA P is t H1 pre:=rfl
theorem disA_nil : dinA P [] t H pre=some (t,pre,H):=rfl
theorem disA_go : dinA P (.go f d::is) t H pre=disAK P is d t (pre++[H]) (dop P f t H):=by
 simp only[dinA]
 cases dop P f t H<;>rfl
theorem disA_gd : dinA P (.gd p w f d::is) t H pre=disAK P is d t (pre++[H]) (gsV (gt p t) w (dop P f t H) H):=by
 simp only[dinA]
 cases gsV (gt p t) w (dop P f t H) H<;>rfl
theorem disA_un : dinA P (.un f::is) t H pre=disAU P is t (pre++[H]) (dop P f t H):=by
 simp only[dinA]
 cases dop P f t H<;>rfl
end
theorem D2 : type_of% (And.intro D1<|And.intro @gs_tt<|And.intro @gs_ff<|And.intro @gs_tf<|And.intro @gs_ft<|And.intro @gs_un<|And.intro @disK_some<|And.intro @disU_some<|And.intro @dis_nil<|And.intro @dis_go<|And.intro @dis_gd<|And.intro @dis_st<|And.intro @dis_mu<|And.intro @dis_nc<|And.intro @dis_cl<| And.intro @disAK_some<|And.intro @disAU_some<|And.intro @disA_nil<|And.intro @disA_go<|And.intro @disA_un<|And.intro @disA_gd<|And.intro @List.nil_append.{0} @List.cons_append.{0}):=
 And.intro D1<|And.intro @gs_tt<|And.intro @gs_ff<|And.intro @gs_tf<|And.intro @gs_ft<|And.intro @gs_un<|And.intro @disK_some<|And.intro @disU_some<|And.intro @dis_nil<|And.intro @dis_go<|And.intro @dis_gd<|And.intro @dis_st<|And.intro @dis_mu<|And.intro @dis_nc<|And.intro @dis_cl<| And.intro @disAK_some<|And.intro @disAU_some<|And.intro @disA_nil<|And.intro @disA_go<|And.intro @disA_un<|And.intro @disA_gd<|And.intro @List.nil_append.{0} @List.cons_append.{0}
end Go.Xe
/- Rules of reasoning over the executable reading of the model's code (part Z14): arrays of known length. Conditions: none; for every program. -/
namespace Go.Xe
open Go
def An (n : Nat) (p : Nat→Value) : List Value:=(List.range n).map p
section
variable {n i k : Nat} {p q : Nat→Value} {v : Value}
theorem all2_refl {f : Value→Value→Bool} : ∀ {l : List Value},(∀ x∈l,f x x=true)→all2 f l l=true
 | [],_=>rfl
 | x::l,h=>by
  simp only[all2,Bool.and_eq_true]
  exact⟨h x (by simp),all2_refl (fun y hy=>h y (by simp[hy]))⟩
theorem An_inb {f : Nat→Bool} {b : Nat} : (⟨An n fun i=>.bool (f i)⟩ : Array Value).toList.all (inBound b 2)=true:=by
 refine List.all_eq_true.2 (fun x hx=>?_)
 obtain⟨i,_,rfl⟩:=List.mem_map.1 hx
 rfl
theorem vEq_An {f : Nat→Bool} : vEq 3 (.agg ⟨An n fun i=>.bool (f i)⟩) (.agg ⟨An n fun i=>.bool (f i)⟩)=true:=by
 show all2 (vEq 2) _ _=true
 refine all2_refl (fun x hx=>?_)
 obtain⟨i,_,rfl⟩:=List.mem_map.1 hx
 simp[vEq,vEq0]
end
end Go.Xe
/- Rules of reasoning over the executable reading of the model's code (part Z15): maps. Conditions: none; for every program. -/
namespace Go.Xe
open Go
theorem Grow.maps {A B : Heap} (h : Grow A B) {i : Nat} (hi : i<A.next) : B.mapAt i=A.mapAt i:=by unfold Heap.mapAt;rw[h.2 i hi]
theorem maps_alloc (H : Heap) (kt : TypeId) (es : Array MapEntry) (clk : Nat) : (H.alloc (.map kt es clk)).mapAt H.next=some (kt,es,clk):=by
 have:=Heap.get_alloc H H.next (.map kt es clk)
 unfold Heap.mapAt;rw[this,if_pos rfl]
theorem maps_set (H : Heap) (i : Nat) (kt : TypeId) (es : Array MapEntry) (clk : Nat) : (H.set i (.map kt es clk)).mapAt i=some (kt,es,clk):=by
 have:=Heap.get_set H i i (.map kt es clk)
 unfold Heap.mapAt;rw[this,if_pos rfl]
theorem maps_set_ne (H : Heap) (o : AO) {i j : Nat} (h : i≠j) : (H.set j o).mapAt i=H.mapAt i:=by
 have:=Heap.get_set H j i o
 unfold Heap.mapAt;rw[this,if_neg h]
def Mp (H : Heap) (i : Nat) (kt : TypeId) (es : List MapEntry) : Prop:=i<H.next∧∃ clk,H.mapAt i=some (kt,⟨es⟩,clk)
theorem Mp.grow {A B : Heap} (g : Grow A B) {i : Nat} {kt : TypeId} {es : List MapEntry} (h : Mp A i kt es) : Mp B i kt es:=by
 obtain⟨h1,clk,h2⟩:=h
 exact⟨Nat.lt_of_lt_of_le h1 g.1,clk,(g.maps h1).trans h2⟩
theorem Mp.set {A : Heap} {i j : Nat} {kt : TypeId} {es : List MapEntry} (h : Mp A i kt es) (hij : i≠j) (o : AO) : Mp (A.set j o) i kt es:=⟨h.1,h.2.elim fun clk h2=>⟨clk,(maps_set_ne A o hij).trans h2⟩⟩
theorem Mp.alloc {A : Heap} {i : Nat} {kt : TypeId} {es : List MapEntry} (h : Mp A i kt es) (o : AO) : Mp (A.alloc o) i kt es:=h.grow ((Grow.refl A).alloc o)
def GrowX (j : Nat) (A B : Heap) : Prop:=A.next≤B.next∧∀ i,i<A.next→i≠j→B.get i=A.get i
theorem Grow.x {A B : Heap} (h : Grow A B) (j : Nat) : GrowX j A B:=⟨h.1,fun i hi _=>h.2 i hi⟩
theorem GrowX.trans {j : Nat} {A B C : Heap} (h : GrowX j A B) (k : GrowX j B C) : GrowX j A C:=⟨Nat.le_trans h.1 k.1,fun i hi hj=>(k.2 i (Nat.lt_of_lt_of_le hi h.1) hj).trans (h.2 i hi hj)⟩
theorem GrowX.set {j : Nat} {A B : Heap} (h : GrowX j A B) (o : AO) : GrowX j A (B.set j o):=⟨h.1,fun i hi hj=>by rw[Heap.get_set,if_neg hj];exact h.2 i hi hj⟩
theorem GrowX.alloc {j : Nat} {A B : Heap} (h : GrowX j A B) (o : AO) : GrowX j A (B.alloc o):=h.trans (((Grow.refl B).alloc o).x j)
theorem GrowX.grow {j : Nat} {H A B : Heap} (h : GrowX j A B) (g : Grow H A) (hj : H.next≤j) : Grow H B:=⟨Nat.le_trans g.1 h.1,fun i hi=>(h.2 i (Nat.lt_of_lt_of_le hi g.1) (by omega)).trans (g.2 i hi)⟩
section
variable {P : Program} {kt : TypeId} {z k v : Value} {H : Heap} {i clk : Nat} {es : Array MapEntry}
theorem look_hit {e : MapEntry} {x : Nat} (hm : H.mapAt i=some (kt,es,clk)) (h1 : keyedB P kt=true) (h2 : keyishV k=true) (h3 : (keyOf P kt k).isSome=true) (hf : xfind k es.toList 0=some x) (he : es[x]?=some e) : ylookup P kt z H (.map (some i)) k true=some (.tuple ⟨[e.val,.bool true]⟩):=by
 simp only[ylookup,hm]
 rw[if_pos ⟨trivial,h1,h2,h3⟩,hf]
 simp only[he]
 rfl
theorem look_miss (hm : H.mapAt i=some (kt,es,clk)) (h1 : keyedB P kt=true) (h2 : keyishV k=true) (h3 : (keyOf P kt k).isSome=true) (hf : xfind k es.toList 0=none) : ylookup P kt z H (.map (some i)) k true=some (.tuple ⟨[z,.bool false]⟩):=by
 simp only[ylookup,hm]
 rw[if_pos ⟨trivial,h1,h2,h3⟩,hf]
 rfl
theorem upd_miss (hm : H.mapAt i=some (kt,es,clk)) (h1 : keyedB P kt=true) (h2 : keyishV k=true) (h3 : (keyOf P kt k).isSome=true) (hf : xfind k es.toList 0=none) : ymapUpdate P kt H (.map (some i)) k v=some (H.set i (.map kt (es.push { key:=k,val:=v,born:=clk }) (clk+1))):=by
 simp only[ymapUpdate,hm]
 rw[if_pos ⟨trivial,h1,h2,h3⟩,hf]
end
end Go.Xe
/- Rules of reasoning over the executable reading of the model's code (part Z17): loops over functions, and their rounds. Conditions: none; for every program. -/
namespace Go.Xe
open Go
def GrowS (U : Nat→Prop) (A B : Heap) : Prop:=A.next≤B.next∧∀ i,i<A.next→¬ U i→B.get i=A.get i
section
variable {U V : Nat→Prop} {A B C : Heap}
theorem GrowS.refl (A : Heap) : GrowS U A A:=⟨Nat.le_refl _,fun _ _ _=>rfl⟩
theorem GrowS.trans (h : GrowS U A B) (k : GrowS U B C) : GrowS U A C:=⟨Nat.le_trans h.1 k.1,fun i hi hu=>(k.2 i (Nat.lt_of_lt_of_le hi h.1) hu).trans (h.2 i hi hu)⟩
theorem Grow.s (h : Grow A B) : GrowS U A B:=⟨h.1,fun i hi _=>h.2 i hi⟩
theorem GrowS.mono (h : GrowS U A B) (k : ∀ i,U i→V i) : GrowS V A B:=⟨h.1,fun i hi hv=>h.2 i hi (fun hu=>hv (k i hu))⟩
theorem GrowS.alloc (h : GrowS U A B) (o : AO) : GrowS U A (B.alloc o):=h.trans (Grow.s ((Grow.refl B).alloc o))
theorem GrowS.set (h : GrowS U A B) {i : Nat} (hi : U i∨A.next≤i) (o : AO) : GrowS U A (B.set i o):=
 ⟨h.1,fun j hj hu=>by
  rw[Heap.get_set]
  split
  ·rename_i e;subst e;rcases hi with hi|hi
   ·exact absurd hi hu
   ·omega
  ·exact h.2 j hj hu⟩
theorem GrowS.setAt (A : Heap) (i : Nat) (o : AO) : GrowS (·=i) A (A.set i o):=(GrowS.refl A).set (U:=(·=i)) (i:=i) (Or.inl rfl) o
theorem GrowS.grow {H : Heap} (h : GrowS U A B) (g : Grow H A) (hu : ∀ i,U i→H.next≤i) : Grow H B:=
 ⟨Nat.le_trans g.1 h.1,fun i hi=>(h.2 i (Nat.lt_of_lt_of_le hi g.1) (fun u=>by have:=hu i u;omega)).trans (g.2 i hi)⟩
theorem GrowS.x {j : Nat} (h : GrowX j A B) (hj : U j) : GrowS U A B:=⟨h.1,fun i hi hu=>h.2 i hi (fun e=>hu (e ▸ hj))⟩
theorem GrowS.cells (h : GrowS U A B) {i : Nat} (hi : i<A.next) (hu : ¬ U i) : B.cellsAt i=A.cellsAt i:=by unfold Heap.cellsAt;rw[h.2 i hi hu]
theorem Bx.growS {i : Nat} {c : List Value} {e : TypeId} (h : Bx A i c e) (g : GrowS U A B) (hu : ¬ U i) : Bx B i c e:=⟨Nat.lt_of_lt_of_le h.1 g.1,by rw[g.cells h.1 hu];exact h.2⟩
theorem Mp.growS {i : Nat} {kt : TypeId} {es : List MapEntry} (h : Mp A i kt es) (g : GrowS U A B) (hu : ¬ U i) : Mp B i kt es:=by
 obtain⟨h1,clk,h2⟩:=h
 refine⟨Nat.lt_of_lt_of_le h1 g.1,clk,?_⟩
 rw[← h2];unfold Heap.mapAt;rw[g.2 i h1 hu]
end
section
variable (P : Program) [Gl P] [Orc P]
def FV (y : Value) (args : List Value) (H : Heap) (R : Value→Heap→Prop) : Prop:=match y with
 | .func (.func g) ⟨a⟩ ⟨b⟩=>F P g ⟨a++args++b⟩ H R
 | .func (.yield l) ⟨a⟩ _=>∃ v H',EvY P l ⟨a++args⟩ H v H'∧R v H'
 | _=>False
def Rd (r : Loop) (ps : List Pth) (fa fb : FCode) (t : TT) : Prop:=r.state=.ready∧r.pending=none∧TR t r.tmps∧r.params.toList.map pth=ps∧comp P r.assign=fa∧comp P r.body=fb
end
section
variable {P : Program} [Gl P] [Orc P] {rnd : Option Nat} {Q : FQ} {K : List FFr} {t : TT} {m : List Nat} {H : Heap}
variable {is : List FI} {d p : Pth} {w : Bool} {v : Value} {fa : FA} {args : List FA} {y : Value} {l : List Value} {R R' : Value→Heap→Prop}
theorem FV.mono (h : FV P y l H R) (k : ∀ v H',R v H'→R' v H') : FV P y l H R':=by
 unfold FV at h ⊢
 split at h
 ·exact F.mono h k
 ·obtain⟨v,H',h1,h2⟩:=h;exact⟨v,H',h1,k _ _ h2⟩
 ·exact h
theorem FV.fn {g : FuncId} {a b : List Value} (h : F P g ⟨a++l++b⟩ H R) : FV P (.func (.func g) ⟨a⟩ ⟨b⟩) l H R:=h
theorem VI.callV (hf : dA t fa=y) (h : FV P y (args.map (dA t)) H R) (k : ∀ v H1,R v H1→VI P rnd Q K m is (st v d t) H1) : VI P rnd Q K m (.go (.call fa args) d::is) t H:=by
 subst hf
 unfold FV at h
 split at h
 ·rename_i g a b e
  obtain⟨v,H1,h1,h2⟩:=h
  refine .does (.call e (H1:=H1) (v:=v) ?_) (k _ _ h2)
  have e2 : (⟨a⟩ : Array Value)++⟨args.map (dA t)⟩++⟨b⟩=⟨a++args.map (dA t)++b⟩:=by simp only[arr_app]
  rw[e2];exact h1
 ·rename_i l a b e
  obtain⟨v,H1,h1,h2⟩:=h
  refine .does (.yield e (H1:=H1) (v:=v) ?_) (k _ _ h2)
  have e2 : (⟨a⟩ : Array Value)++⟨args.map (dA t)⟩=⟨a++args.map (dA t)⟩:=by simp only[arr_app]
  rw[e2];exact h1
 ·exact h.elim
omit [Orc P] in
theorem comp_range {c : Code} {f : FA} {ps : List Pth} {ca cb : Code} {x y : FCode} (h : comp P c=.rangeFunc f ps ca cb x y) : ∃ f0 ps0,c=.rangeFunc f0 ps0 ca cb∧compA P f0=f∧ps0.toList.map pth=ps∧comp P ca=x∧comp P cb=y:=by
 cases c with
 | rangeFunc f0 ps0 a b=>simp only[comp] at h;cases h;exact⟨_,_,rfl,rfl,rfl,rfl,rfl⟩
 | region i ops draw=>
  cases draw<;>simp only[comp] at h
  ·cases h
  ·split at h<;>cases h
 | _=>simp only[comp,reduceCtorEq] at h
theorem V.range {f : FA} {ps : List Pth} {ca cb : Code} {x y : FCode} {g : FuncId} {first cap : List Value} {m1 : List Nat} {H1 : Heap} {dd : Nat} (hf : dA t f=.func (.func g) ⟨first⟩ ⟨cap⟩) (he : xenter rnd m H=some (dd,m1,H1))
  (h : ∀ r,Rd P r ps x y t→F P g ⟨first++[.func (.yield H1.next) ⟨[]⟩ ⟨[]⟩]++cap⟩ (H1.alloc (.loop r)) (fun _ H2=>∃ st e,st≠LoopState.busy∧H2.get H1.next=some (.loop { r with state:=st,pending:=XE.jump e }) ∧
   V P rnd Q K e t m1 (H2.set H1.next (.loop { r with state:=.exhausted,pending:=XE.jump e })))) :
  V P rnd Q (.seq (.rangeFunc f ps ca cb x y)::K) .normal t m H:=by
 intro c tm hc ht
 obtain⟨f0,ps0,rfl,rfl,rfl,rfl,rfl⟩:=comp_range hc
 rw[dA_comp ht] at hf
 obtain⟨v,H2,⟨n,h1⟩,st,e,hst,hl,hV⟩:=h { state:=.ready,pending:=none,fn:=0,tmps:=tm,params:=ps0,assign:=ca,body:=cb,defers:=dd } ⟨rfl,rfl,ht,rfl,rfl,rfl⟩
 refine⟨e,tm,m1,_,t,⟨n+2,fun N hN=>?_⟩,ht,hV⟩
 obtain⟨N,rfl⟩ : ∃ M,N=M+2:=⟨N-2,by omega⟩
 have hcall : xrangeCall (ev P tm f0) H1.next=some (g,⟨first++[.func (.yield H1.next) ⟨[]⟩ ⟨[]⟩]++cap⟩):=by
  rw[hf];simp only[xrangeCall,arr_app]
 unfold exec
 simp only[he,hcall,h1 (N+1) (by omega),hl]
 rw[if_neg hst]
 cases e with
 | normal=>simp only[XE.jump]
 | exit id=>simp only[XE.jump,exec]
 | ret=>simp only[XE.jump,exec]
theorem EvY.of {r : Loop} {ps : List Pth} {x y : FCode} {j : Nat} {l : List Value} (hr : Rd P r ps x y t) (hl : H.get j=some (.loop r)) (hn : l.length=ps.length)
  (h : V P (some j) (fun e t1 m1 H1=>e=.normal∧H1.get j=some (.loop r)∧V P (some j) (fun e2 _ _ H2=>H2.get j=some (.loop { r with state:=.busy }) ∧
   R (.bool e2.jump.isNone) (H2.set j (.loop { r with state:=if e2.jump.isNone then .ready else .done,pending:=e2.jump }))) [.seq y] .normal t1 m1 (H1.set j (.loop { r with state:=.busy }))) [.seq x] .normal (sets l ps t) [] H) :
  ∃ v H',EvY P j ⟨l⟩ H v H'∧R v H':=by
 obtain⟨hst,hp,ht,rfl,rfl,rfl⟩:=hr
 have hn' : l.length=r.params.toList.length:=by simpa using hn
 have ht1 : TR (sets l (r.params.toList.map pth) t) (setParams r.tmps r.params ⟨l⟩):=by rw[setParams_all hn'];exact sets_TR ht
 obtain⟨e1,tm1,m1,H1,t1,⟨n1,k1⟩,ht2,rfl,hl1,h2⟩:=h r.assign _ rfl ht1
 obtain⟨e2,tm2,m2,H2,t2,⟨n2,k2⟩,_,hl2,hR⟩:=h2 r.body _ rfl ht2
 refine⟨_,_,⟨n1+n2,fun N hN=>?_⟩,hR⟩
 unfold xround
 simp only[hl]
 rw[if_pos (by simpa using hn')]
 simp only[k1 N (by omega),hl1]
 rw[if_pos hst]
 simp only[k2 N (by omega),hl2]
end
section
variable {P : Program} [Gl P] [Orc P] {rnd : Option Nat} {Q : FQ} {K : List FFr} {t : TT} {m : List Nat} {H : Heap}
end
end Go.Xe
