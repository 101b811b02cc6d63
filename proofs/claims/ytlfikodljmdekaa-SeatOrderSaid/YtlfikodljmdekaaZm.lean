/- Rules of reasoning over the executable reading of the model's code (part Z13): memory of a function's own, by what lies in it. Conditions: none; for every program. -/
import Derived.Test.YtlfikodljmdekaaZl
namespace Go.Xe
open Go
def Bx (H : Heap) (i : Nat) (c : List Value) (e : TypeId) : Prop:=i<H.next∧H.cellsAt i=some (⟨c⟩,e,true)
theorem Bx.grow {A B : Heap} (g : Grow A B) {i : Nat} {c : List Value} {e : TypeId} (h : Bx A i c e) : Bx B i c e:=⟨Nat.lt_of_lt_of_le h.1 g.1,(g.cells h.1).trans h.2⟩
theorem Bx.alloc {A : Heap} {i : Nat} {c : List Value} {e : TypeId} (h : Bx A i c e) (o : AO) : Bx (A.alloc o) i c e:=h.grow ((Grow.refl A).alloc o)
theorem Bx.new (A : Heap) (c : List Value) (e : TypeId) : Bx (A.alloc (.cells ⟨c⟩ e true)) A.next c e:=⟨Nat.lt_succ_self _,cells_alloc _ _ _ _⟩
theorem Bx.newAt {A : Heap} {c : List Value} {e : TypeId} {i : Nat} (h : i=A.next) : Bx (A.alloc (.cells ⟨c⟩ e true)) i c e:=by subst h;exact .new A c e
theorem Bx.set {A : Heap} {i j : Nat} {c : List Value} {e : TypeId} (h : Bx A i c e) (hij : i≠j) (o : AO) : Bx (A.set j o) i c e:=⟨h.1,(cells_set_ne A o hij).trans h.2⟩
theorem Bx.put {A : Heap} {i : Nat} (h : i<A.next) (c : List Value) (e : TypeId) : Bx (A.set i (.cells ⟨c⟩ e true)) i c e:=⟨h,cells_set _ _ _ _ _⟩
section
variable {P : Program} [Gl P] [Orc P] {rnd : Option Nat} {Q : FQ} {K : List FFr} {t : TT} {m : List Nat} {H : Heap} {e : XE} {is : List FI}
theorem V.heap (S : Heap→Prop) (hS : S H) (h : ∀ H',S H'→V P rnd Q K e t m H') : V P rnd Q K e t m H:=h H hS
theorem VI.heap (S : Heap→Prop) (hS : S H) (h : ∀ H',S H'→VI P rnd Q K m is t H') : VI P rnd Q K m is t H:=h H hS
end
theorem cells_alloc_at (H : Heap) (c : Array Value) (el : TypeId) (rw : Bool) {i : Nat} (h : H.next≤i) (h' : i≤H.next) : (H.alloc (.cells c el rw)).cellsAt i=some (c,el,rw):=by
 obtain rfl : i=H.next:=by omega
 exact cells_alloc H c el rw
theorem cells_set_at (H : Heap) (c : Array Value) (el : TypeId) (rw : Bool) {i j : Nat} (h : j≤i) (h' : i≤j) : (H.set j (.cells c el rw)).cellsAt i=some (c,el,rw):=by
 obtain rfl : i=j:=by omega
 exact cells_set H i c el rw
theorem mm_max {k : IntKind} {a b : Int} : xmm true [.int k a,.int k b]=some (.int k (if b > a then b else a)):=rfl
theorem mm_min {k : IntKind} {a b : Int} : xmm false [.int k a,.int k b]=some (.int k (if b<a then b else a)):=rfl
def gsV : Value→Bool→Option (Value×Heap)→Heap→Option (Value×Heap)
 | .bool b,w,o,H=>if b=w then o else some (undef,H)
 | .tuple ⟨[]⟩,_,_,H=>some (undef,H)
 | _,_,_,_=>none
def din (P : Program) : List FI→TT→Heap→Option (TT×Heap)
 | [],t,H=>some (t,H)
 | .go f d::is,t,H=>match dop P f t H with
  | some (v,H1)=>din P is (st v d t) H1
  | none=>none
 | .gd p w f d::is,t,H=>match gsV (gt p t) w (dop P f t H) H with
  | some (v,H1)=>din P is (st v d t) H1
  | none=>none
 | .un f::is,t,H=>match f with
  | .store n a x=>match dop P (.store n a x) t H with
   | some (_,H1)=>din P is t H1
   | none=>none
  | .mapUpdate kt a k x=>match dop P (.mapUpdate kt a k x) t H with
   | some (_,H1)=>din P is t H1
   | none=>none
  | .nilCheck x=>match dop P (.nilCheck x) t H with
   | some (_,H1)=>din P is t H1
   | none=>none
  | .clear es z x=>match dop P (.clear es z x) t H with
   | some (_,H1)=>din P is t H1
   | none=>none
  | _=>none
 | .gu ..::_,_,_=>none
theorem gsV_cases {x v : Value} {w : Bool} {o : Option (Value×Heap)} {H H1 : Heap} (h : gsV x w o H=some (v,H1)) : (x=.bool w∧o=some (v,H1))∨(x=.bool (!w)∧v=undef∧H1=H)∨(x=undef∧v=undef∧H1=H):=by
 unfold gsV at h
 split at h
 ·rename_i b w' o' H'
  split at h
  ·rename_i e;subst e;exact .inl ⟨rfl,h⟩
  ·rename_i e
   cases h
   refine .inr (.inl ⟨?_,rfl,rfl⟩)
   cases b<;>cases w<;>simp_all
 ·cases h;exact .inr (.inr ⟨rfl,rfl,rfl⟩)
 ·cases h
section
variable {P : Program} [Gl P] [Orc P] {rnd : Option Nat} {Q : FQ} {K : List FFr} {m : List Nat}
theorem VI.din {is' : List FI} : ∀ {is1 : List FI} {t t1 : TT} {H H1 : Heap},Xe.din P is1 t H=some (t1,H1)→VI P rnd Q K m is' t1 H1→VI P rnd Q K m (is1++is') t H
 | [],t,t1,H,H1,h,k=>by simp only[Xe.din] at h;cases h;exact k
 | .go f d::is,t,t1,H,H1,h,k=>by
  simp only[Xe.din] at h
  split at h
  ·rename_i v H2 hd;exact VI.go hd (VI.din h k)
  ·cases h
 | .gd p w f d::is,t,t1,H,H1,h,k=>by
  simp only[Xe.din] at h
  split at h
  ·rename_i v H2 hd
   rcases gsV_cases hd with⟨h1,h2⟩|⟨h1,rfl,rfl⟩|⟨h1,rfl,rfl⟩
   ·exact VI.gdT h1 (.of h2) (VI.din h k)
   ·exact VI.gdF h1 (VI.din h k)
   ·exact VI.gdN h1 (VI.din h k)
  ·cases h
 | .un f::is,t,t1,H,H1,h,k=>by
  simp only[Xe.din] at h
  split at h
  ·split at h
   ·rename_i v H2 hd;exact VI.un hd (by simp[badOp]) (VI.din h k)
   ·cases h
  ·split at h
   ·rename_i v H2 hd;exact VI.un hd (by simp[badOp]) (VI.din h k)
   ·cases h
  ·split at h
   ·rename_i v H2 hd;exact VI.un hd (by simp[badOp]) (VI.din h k)
   ·cases h
  ·split at h
   ·rename_i v H2 hd;exact VI.un hd (by simp[badOp]) (VI.din h k)
   ·cases h
  ·cases h
 | .gu p w f::is,t,t1,H,H1,h,k=>by simp[Xe.din] at h
theorem VI.steps' (n : Nat) {is : List FI} {t t1 : TT} {H H1 : Heap} (h : Xe.din P (is.take n) t H=some (t1,H1)) (k : VI P rnd Q K m (is.drop n) t1 H1) : VI P rnd Q K m is t H:=by
 rw[← List.take_append_drop n is]
 exact .din h k
theorem V.line' {is : List FI} {t t1 : TT} {H H1 : Heap} (h : Xe.din P is t H=some (t1,H1)) (k : V P rnd Q K .normal t1 m H1) : V P rnd Q (.seq (.run is)::K) .normal t m H:=by
 refine .run ?_
 rw[← List.append_nil is]
 exact .din h (.done k)
theorem VI.line' {is : List FI} {t t1 : TT} {H H1 : Heap} (h : Xe.din P is t H=some (t1,H1)) (k : V P rnd Q K .normal t1 m H1) : VI P rnd Q K m is t H:=by
 rw[← List.append_nil is]
 exact .din h (.done k)
end
def dinA (P : Program) : List FI→TT→Heap→List Heap→Option (TT×List Heap×Heap)
 | [],t,H,pre=>some (t,pre,H)
 | .go f d::is,t,H,pre=>match dop P f t H with
  | some (v,H1)=>dinA P is (st v d t) H1 (pre++[H])
  | none=>none
 | .gd p w f d::is,t,H,pre=>match gsV (gt p t) w (dop P f t H) H with
  | some (v,H1)=>dinA P is (st v d t) H1 (pre++[H])
  | none=>none
 | .un f::is,t,H,pre=>match dop P f t H with
  | some (_,H1)=>dinA P is t H1 (pre++[H])
  | none=>none
 | .gu ..::_,_,_,_=>none
section
variable {P : Program} [Gl P] [Orc P] {rnd : Option Nat} {Q : FQ} {K : List FFr} {m : List Nat} {R : TT→List Heap→Prop}
theorem VD.gdN {is : List FI} {p d : Pth} {w : Bool} {f : FOp} {t : TT} {H : Heap} {pre : List Heap} (hp : gt p t=undef) (k : VD P is (st undef d t) H (pre++[H]) R) : VD P (.gd p w f d::is) t H pre R:=by
 intro ops l tm hl ht
 obtain⟨j,l',rfl,hj,hl'⟩:=list_cons hl
 obtain⟨o,ho,j0,g,i,hg,hjg,rfl,hd,rfl,hf⟩:=compFI_gd hj
 obtain⟨T,Gs,t',⟨n1,k1⟩,k2,k3⟩:=k ops l' (put tm o.dst undef) hl' (by rw[hd];exact ht.st undef i)
 refine⟨T,H::Gs,t',⟨n1,fun N hN=>?_⟩,k2,by simpa using k3⟩
 have hw : xwanted ops tm o=some false:=by
  unfold xwanted
  rw[hg]
  simp only[hjg,Option.bind_some]
  cases hx : tm[g]? with
  | none=>rfl
  | some y=>
   rw[ht.gt,Array.getD_eq_getD_getElem?,hx] at hp
   have : y=undef:=hp
   subst this
   rfl
 simp only[xsteps,ho,hw,k1 N (by omega)]
theorem VD.re {N : Nat} {is : List FI} {t : TT} {H : Heap} {pre : List Heap} (l : List (Nat×Value)) (hF : Full N t) (hA : Kn l t) (h : ∀ t',Full N t'→Kn l t'→VD P is t' H pre R) : VD P is t H pre R:=h t hF hA
theorem VD.heap {is : List FI} {t : TT} {H : Heap} {pre : List Heap} (S : Heap→Prop) (hS : S H) (h : ∀ H',S H'→VD P is t H' pre R) : VD P is t H pre R:=h H hS
theorem VD.callAT {is : List FI} {p d : Pth} {w : Bool} {fa : FA} {args : List FA} {t : TT} {H : Heap} {v : Value} {pre : List Heap} {g : FuncId} {a b l : List Value} (hp : gt p t=.bool w) (hf : dA t fa=.func (.func g) ⟨a⟩ ⟨b⟩) (hs : Gives P g l H v) (hl : a++args.map (dA t)++b=l) (k : ∀ H',Grow H H'→VD P is (st v d t) H' (pre++[H]) R) : VD P (.gd p w (.call fa args) d::is) t H pre R:=by
 subst hl
 refine .callT hp hf ?_
 rw[arr_app,arr_app]
 exact hs.mono (fun v' H' ⟨e,g⟩=>by subst e;exact k H' g)
theorem VD.din : ∀ {is : List FI} {t T : TT} {H H1 : Heap} {pre Gs : List Heap},dinA P is t H pre=some (T,Gs,H1)→R T (Gs++[H1])→VD P is t H pre R
 | [],t,T,H,H1,pre,Gs,h,k=>by simp only[dinA] at h;cases h;exact .nil k
 | .go f d::is,t,T,H,H1,pre,Gs,h,k=>by
  simp only[dinA] at h
  split at h
  ·rename_i v H2 hd;exact .go hd (VD.din h k)
  ·cases h
 | .gd p w f d::is,t,T,H,H1,pre,Gs,h,k=>by
  simp only[dinA] at h
  split at h
  ·rename_i v H2 hd
   rcases gsV_cases hd with⟨h1,h2⟩|⟨h1,rfl,rfl⟩|⟨h1,rfl,rfl⟩
   ·exact .gdT h1 (.of h2) (VD.din h k)
   ·exact .gdF h1 (VD.din h k)
   ·exact .gdN h1 (VD.din h k)
  ·cases h
 | .un f::is,t,T,H,H1,pre,Gs,h,k=>by
  simp only[dinA] at h
  split at h
  ·rename_i v H2 hd;exact .un hd (VD.din h k)
  ·cases h
 | .gu p w f::is,t,T,H,H1,pre,Gs,h,k=>by simp[dinA] at h
theorem VD.dins : ∀ (n : Nat) {is : List FI} {t T : TT} {H H1 : Heap} {pre Gs : List Heap},dinA P (is.take n) t H pre=some (T,Gs,H1)→VD P (is.drop n) T H1 Gs R→VD P is t H pre R
 | 0,is,t,T,H,H1,pre,Gs,h,k=>by
  simp only[List.take_zero,dinA] at h
  cases h
  simpa using k
 | n+1,[],t,T,H,H1,pre,Gs,h,k=>by
  simp only[List.take_nil,dinA] at h
  cases h
  simpa using k
 | n+1,.go f d::is,t,T,H,H1,pre,Gs,h,k=>by
  simp only[List.take_succ_cons,dinA] at h
  split at h
  ·rename_i v H2 hd;exact .go hd (VD.dins n h k)
  ·cases h
 | n+1,.gd p w f d::is,t,T,H,H1,pre,Gs,h,k=>by
  simp only[List.take_succ_cons,dinA] at h
  split at h
  ·rename_i v H2 hd
   rcases gsV_cases hd with⟨h1,h2⟩|⟨h1,rfl,rfl⟩|⟨h1,rfl,rfl⟩
   ·exact .gdT h1 (.of h2) (VD.dins n h k)
   ·exact .gdF h1 (VD.dins n h k)
   ·exact .gdN h1 (VD.dins n h k)
  ·cases h
 | n+1,.un f::is,t,T,H,H1,pre,Gs,h,k=>by
  simp only[List.take_succ_cons,dinA] at h
  split at h
  ·rename_i v H2 hd;exact .un hd (VD.dins n h k)
  ·cases h
 | n+1,.gu p w f::is,t,T,H,H1,pre,Gs,h,k=>by simp[dinA] at h
theorem V.lineD' {is : List FI} {cs : List FC} {n : Nat} {t t1 : TT} {H H1 : Heap} {Gs : List Heap} (h : dinA P is t H []=some (t1,Gs,H1)) (h1 : monoG (Gs++[H1])) (h2 : dcAll P t1 (Gs++[H1]) cs) (h3 : (Gs++[H1])[n]?=some H1) (k : V P rnd Q K .normal t1 m H1) : V P rnd Q (.seq (.draw n is cs)::K) .normal t m H:=
 .draw (.din h ⟨h1,h2,H1,h3,k⟩)
theorem VD.lineD' {is : List FI} {cs : List FC} {n : Nat} {t t1 : TT} {H H1 : Heap} {pre Gs : List Heap} (h : dinA P is t H pre=some (t1,Gs,H1)) (h1 : monoG (Gs++[H1])) (h2 : dcAll P t1 (Gs++[H1]) cs) (h3 : (Gs++[H1])[n]?=some H1) (k : V P rnd Q K .normal t1 m H1) : VD P is t H pre (DEnd P rnd Q K m n cs):=
 .din h ⟨h1,h2,H1,h3,k⟩
end
section
variable {P : Program} {is : List FI} {d p : Pth} {t T : TT} {H H1 : Heap} {f : FOp} {w : Bool} {v : Value} {o : Option (Value×Heap)} {n : Nat} {a x k : FA} {kt : TypeId} {pre : List Heap}
def disK (P : Program) (is : List FI) (d : Pth) (t : TT) : Option (Value×Heap)→Option (TT×Heap)
 | some (v,H1)=>din P is (st v d t) H1
 | none=>none
def disU (P : Program) (is : List FI) (t : TT) : Option (Value×Heap)→Option (TT×Heap)
 | some (_,H1)=>din P is t H1
 | none=>none
theorem gs_tt : gsV (.bool true) true o H=o:=rfl
theorem gs_ff : gsV (.bool false) false o H=o:=rfl
theorem gs_tf : gsV (.bool true) false o H=some (undef,H):=rfl
theorem gs_ft : gsV (.bool false) true o H=some (undef,H):=rfl
theorem gs_un : gsV undef w o H=some (undef,H):=rfl
theorem disK_some : disK P is d t (some (v,H1))=din P is (st v d t) H1:=rfl
theorem disU_some : disU P is t (some (v,H1))=din P is t H1:=rfl
theorem dis_nil : din P [] t H=some (t,H):=rfl
theorem dis_go : din P (.go f d::is) t H=disK P is d t (dop P f t H):=by
 simp only[din]
 cases dop P f t H<;>rfl
theorem dis_gd : din P (.gd p w f d::is) t H=disK P is d t (gsV (gt p t) w (dop P f t H) H):=by
 simp only[din]
 cases gsV (gt p t) w (dop P f t H) H<;>rfl
theorem dis_st : din P (.un (.store n a x)::is) t H=disU P is t (dop P (.store n a x) t H):=by
 simp only[din]
 cases dop P (.store n a x) t H<;>rfl
theorem dis_mu : din P (.un (.mapUpdate kt a k x)::is) t H=disU P is t (dop P (.mapUpdate kt a k x) t H):=by
 simp only[din]
 cases dop P (.mapUpdate kt a k x) t H<;>rfl
theorem dis_nc : din P (.un (.nilCheck x)::is) t H=disU P is t (dop P (.nilCheck x) t H):=by
 simp only[din]
 cases dop P (.nilCheck x) t H<;>rfl
theorem dis_cl {es : Nat} {z : List Value} : din P (.un (.clear es z x)::is) t H=disU P is t (dop P (.clear es z x) t H):=by
 simp only[din]
 cases dop P (.clear es z x) t H<;>rfl
def disAK (P : Program) (is : List FI) (d : Pth) (t : TT) (pre : List Heap) : Option (Value×Heap)→Option (TT×List Heap×Heap)
 | some (v,H1)=>dinA P is (st v d t) H1 pre
 | none=>none
def disAU (P : Program) (is : List FI) (t : TT) (pre : List Heap) : Option (Value×Heap)→Option (TT×List Heap×Heap)
 | some (_,H1)=>dinA P is t H1 pre
 | none=>none
theorem disAK_some : disAK P is d t pre (some (v,H1))=dinA P is (st v d t) H1 pre:=rfl
theorem disAU_some : disAU P is t pre (some (v,H1))=dinA P is t H1 pre:=rfl
theorem disA_nil : dinA P [] t H pre=some (t,pre,H):=rfl
theorem disA_go : dinA P (.go f d::is) t H pre=disAK P is d t (pre++[H]) (dop P f t H):=by
 simp only[dinA]
 cases dop P f t H<;>rfl
theorem disA_gd : dinA P (.gd p w f d::is) t H pre=disAK P is d t (pre++[H]) (gsV (gt p t) w (dop P f t H) H):=by
 simp only[dinA]
 cases gsV (gt p t) w (dop P f t H) H<;>rfl
theorem disA_un : dinA P (.un f::is) t H pre=disAU P is t (pre++[H]) (dop P f t H):=by
 simp only[dinA]
 cases dop P f t H<;>rfl
end
theorem D2 : type_of% (And.intro D1<|And.intro @gs_tt<|And.intro @gs_ff<|And.intro @gs_tf<|And.intro @gs_ft<|And.intro @gs_un<|And.intro @disK_some<|And.intro @disU_some<|And.intro @dis_nil<|And.intro @dis_go<|And.intro @dis_gd<|And.intro @dis_st<|And.intro @dis_mu<|And.intro @dis_nc<|And.intro @dis_cl<| And.intro @disAK_some<|And.intro @disAU_some<|And.intro @disA_nil<|And.intro @disA_go<|And.intro @disA_un<|And.intro @disA_gd<|And.intro @List.nil_append.{0} @List.cons_append.{0}):=
 And.intro D1<|And.intro @gs_tt<|And.intro @gs_ff<|And.intro @gs_tf<|And.intro @gs_ft<|And.intro @gs_un<|And.intro @disK_some<|And.intro @disU_some<|And.intro @dis_nil<|And.intro @dis_go<|And.intro @dis_gd<|And.intro @dis_st<|And.intro @dis_mu<|And.intro @dis_nc<|And.intro @dis_cl<| And.intro @disAK_some<|And.intro @disAU_some<|And.intro @disA_nil<|And.intro @disA_go<|And.intro @disA_un<|And.intro @disA_gd<|And.intro @List.nil_append.{0} @List.cons_append.{0}
end Go.Xe
