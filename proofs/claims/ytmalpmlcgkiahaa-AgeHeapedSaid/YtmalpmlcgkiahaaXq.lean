/- An executable reading of the model's code over an abstract heap (part 17): the same by lists alone, for the kernel: what this comes to, the reading comes to. Conditions: none. -/
import Derived.Test.YtmalpmlcgkiahaaXp
namespace Go.Xe
open Go

def lgetD : List Value → Nat → Value → Value
  | [], _, d => d
  | x :: _, 0, _ => x
  | _ :: xs, n + 1, d => lgetD xs n d
def lget? : List Value → Nat → Option Value
  | [], _ => none
  | x :: _, 0 => some x
  | _ :: xs, n + 1 => lget? xs n
def lset? : List Value → Nat → Value → Option (List Value)
  | [], _, _ => none
  | _ :: xs, 0, v => some (v :: xs)
  | x :: xs, n + 1, v => match lset? xs n v with
    | some ys => some (x :: ys)
    | none => none
/-- vs written from place o on. -/
def splice : List Value → Nat → List Value → Option (List Value)
  | c, 0, [] => some c
  | _ :: c, 0, v :: vs => match splice c 0 vs with
    | some ys => some (v :: ys)
    | none => none
  | x :: c, o + 1, vs => match splice c o vs with
    | some ys => some (x :: ys)
    | none => none
  | [], _, _ => none

theorem lget?_eq : ∀ (l : List Value) (n : Nat), lget? l n = l[n]?
  | [], n => by simp [lget?]
  | x :: l, 0 => by simp [lget?]
  | x :: l, n + 1 => by simp [lget?, lget?_eq l n]
theorem lgetD_eq : ∀ (l : List Value) (n : Nat) (d : Value), lgetD l n d = (l[n]?).getD d
  | [], n, d => by simp [lgetD]
  | x :: l, 0, d => by simp [lgetD]
  | x :: l, n + 1, d => by simp [lgetD, lgetD_eq l n d]
theorem lgetD_arr (a : Array Value) (n : Nat) (d : Value) : lgetD a.toList n d = a.getD n d := by
  rw [lgetD_eq, Array.getD_eq_getD_getElem?, Array.getElem?_toList]
theorem lget?_arr (a : Array Value) (n : Nat) : lget? a.toList n = a[n]? := by rw [lget?_eq, Array.getElem?_toList]
theorem lset?_eq : ∀ {l : List Value} {n : Nat} {v : Value} {r : List Value}, lset? l n v = some r → l.set n v = r
  | [], n, v, r, h => by simp [lset?] at h
  | x :: l, 0, v, r, h => by simp [lset?] at h; subst h; rfl
  | x :: l, n + 1, v, r, h => by
    simp only [lset?] at h
    split at h
    · rename_i ys hy
      cases h
      simp [lset?_eq hy]
    · cases h
theorem lset?_arr {a : Array Value} {n : Nat} {v : Value} {r : List Value} (h : lset? a.toList n v = some r) : a.setIfInBounds n v = ⟨r⟩ := by
  apply Array.toList_inj.1
  rw [Array.toList_setIfInBounds, lset?_eq h]

theorem setCells_cons : ∀ (vs : List Value) (o : Nat) (x : Value) (c : List Value), setCells vs (o + 1) ⟨x :: c⟩ = ⟨x :: (setCells vs o ⟨c⟩).toList⟩
  | [], o, x, c => rfl
  | v :: vs, o, x, c => by
    simp only [setCells]
    have e1 : (⟨x :: c⟩ : Array Value).setIfInBounds (o + 1) v = ⟨x :: (c.set o v)⟩ := by apply Array.toList_inj.1; simp
    have e2 : (⟨c⟩ : Array Value).setIfInBounds o v = ⟨c.set o v⟩ := by apply Array.toList_inj.1; simp
    rw [e1, e2, setCells_cons vs (o + 1)]

theorem splice_eq : ∀ {c : List Value} {o : Nat} {vs r : List Value}, splice c o vs = some r → o + vs.length ≤ c.length ∧ setCells vs o ⟨c⟩ = ⟨r⟩
  | c, 0, [], r, h => by simp [splice] at h; subst h; exact ⟨by simp, rfl⟩
  | [], 0, v :: vs, r, h => by simp [splice] at h
  | x :: c, 0, v :: vs, r, h => by
    simp only [splice] at h
    split at h
    · rename_i ys hy
      cases h
      obtain ⟨h1, h2⟩ := splice_eq hy
      refine ⟨by simp only [List.length_cons]; omega, ?_⟩
      have e1 : (⟨x :: c⟩ : Array Value).setIfInBounds 0 v = ⟨v :: c⟩ := by apply Array.toList_inj.1; simp
      simp only [setCells, e1]
      rw [setCells_cons, h2]
    · cases h
  | x :: c, o + 1, vs, r, h => by
    simp only [splice] at h
    split at h
    · rename_i ys hy
      cases h
      obtain ⟨h1, h2⟩ := splice_eq hy
      refine ⟨by simp only [List.length_cons]; omega, ?_⟩
      rw [setCells_cons, h2]
    · cases h
  | [], o + 1, vs, r, h => by simp [splice] at h

theorem zip_setCells (off : Nat) : ∀ (l : List Value) (n : Nat) (a : Array Value), (l.zipIdx n).foldl (fun cs (x : Value × Nat) => cs.setIfInBounds (off + x.2) x.1) a = setCells l (off + n) a
  | [], n, a => rfl
  | v :: l, n, a => by
    simp only [List.zipIdx_cons, List.foldl_cons, setCells]
    rw [zip_setCells off l (n + 1)]
    rfl

/-- Force a value's head and its numbers. -/
def forceN {α : Type} (n : Nat) (k : Nat → α) : α := match n with
  | 0 => k 0
  | m + 1 => k (m + 1)
def forceI {α : Type} (n : Int) (k : Int → α) : α := match n with
  | .ofNat m => forceN m fun m => k (.ofNat m)
  | .negSucc m => forceN m fun m => k (.negSucc m)
def forceA {α : Type} (a : Addr) (k : Addr → α) : α := match a with
  | ⟨b, o, s⟩ => forceN b fun b => forceN o fun o => k ⟨b, o, s⟩
def forceV {α : Type} (v : Value) (k : Value → α) : α := match v with
  | .bool b => match b with
    | true => k (.bool true)
    | false => k (.bool false)
  | .int kd n => forceI n fun n => k (.int kd n)
  | .pointer a => match a with
    | some a => forceA a fun a => k (.pointer (some a))
    | none => k (.pointer none)
  | .slice a n c => match a with
    | some a => forceA a fun a => forceN n fun n => forceN c fun c => k (.slice (some a) n c)
    | none => k (.slice none n c)
  | .map r => match r with
    | some r => forceN r fun r => k (.map (some r))
    | none => k (.map none)
  | v => k v

theorem forceN_eq {α : Type} (n : Nat) (k : Nat → α) : forceN n k = k n := by cases n <;> rfl
theorem forceI_eq {α : Type} (n : Int) (k : Int → α) : forceI n k = k n := by cases n <;> simp [forceI, forceN_eq]
theorem forceA_eq {α : Type} (a : Addr) (k : Addr → α) : forceA a k = k a := by cases a; simp [forceA, forceN_eq]
theorem forceV_eq {α : Type} (v : Value) (k : Value → α) : forceV v k = k v := by
  cases v with
  | bool b => cases b <;> rfl
  | int kd n => simp [forceV, forceI_eq]
  | pointer a => cases a <;> simp [forceV, forceA_eq]
  | slice a n c => cases a <;> simp [forceV, forceA_eq, forceN_eq]
  | map r => cases r <;> simp [forceV, forceN_eq]
  | _ => rfl

def putF (t : List Value) (dst : Option Tmp) (v : Value) : Option (List Value) :=
  match dst with
  | some d => lset? t d v
  | none => some t

theorem putF_eq {a : Array Value} {dst : Option Tmp} {v : Value} {r : List Value} (h : putF a.toList dst v = some r) : put a dst v = ⟨r⟩ := by
  cases dst with
  | none => simp only [putF] at h; cases h; rfl
  | some d => exact lset?_arr h

def fillF (place : Nat → Option (Nat × Nat)) : List Value → List (Nat × Value) → Option (List Value)
  | cells, [] => some cells
  | cells, (i, v) :: rest => match place i with
    | none => none
    | some (off, size) =>
      if v.cells.toList.length = size then match splice cells off v.cells.toList with
        | some cells' => fillF place cells' rest
        | none => none
      else none

theorem fillF_eq (place : Nat → Option (Nat × Nat)) : ∀ {l : List (Nat × Value)} {c r : List Value}, fillF place c l = some r → Instr.fill place ⟨c⟩ l = some ⟨r⟩
  | [], c, r, h => by simp only [fillF] at h; cases h; rfl
  | (i, v) :: l, c, r, h => by
    simp only [fillF] at h
    split at h
    · cases h
    · rename_i off size hp
      split at h
      · rename_i hs
        split at h
        · rename_i c' hc
          obtain ⟨h1, h2⟩ := splice_eq hc
          simp only [Instr.fill, hp]
          have hsz : v.cells.size = size := by simpa using hs
          have hle : ¬ ((decide (v.cells.size ≠ size) || decide (off + v.cells.size > (⟨c⟩ : Array Value).size)) = true) := by
            simp only [Bool.or_eq_true, decide_eq_true_eq]
            simp only [Array.length_toList] at h1
            simp only [List.size_toArray]
            omega
          rw [if_neg hle]
          rw [← Array.foldl_toList, Array.toList_zipIdx, zip_setCells off _ 0, Nat.add_zero, h2]
          exact fillF_eq place h
        · cases h
      · cases h

def takeF : Nat → List Value → Option (List Value)
  | 0, _ => some []
  | n + 1, x :: xs => match takeF n xs with
    | some ys => some (x :: ys)
    | none => none
  | _ + 1, [] => none
def dropF : Nat → List Value → Option (List Value)
  | 0, l => some l
  | n + 1, _ :: xs => dropF n xs
  | _ + 1, [] => none
def subF (l : List Value) (o n : Nat) : Option (List Value) := match dropF o l with
  | some r => takeF n r
  | none => none
theorem takeF_eq : ∀ {n : Nat} {l r : List Value}, takeF n l = some r → l.take n = r ∧ n ≤ l.length
  | 0, l, r, h => by simp [takeF] at h; subst h; simp
  | n + 1, [], r, h => by simp [takeF] at h
  | n + 1, x :: l, r, h => by
    simp only [takeF] at h
    split at h
    · rename_i ys hy
      cases h
      obtain ⟨h1, h2⟩ := takeF_eq hy
      exact ⟨by simp [h1], by simpa using h2⟩
    · cases h
theorem dropF_eq : ∀ {n : Nat} {l r : List Value}, dropF n l = some r → l.drop n = r ∧ n ≤ l.length
  | 0, l, r, h => by simp [dropF] at h; subst h; simp
  | n + 1, [], r, h => by simp [dropF] at h
  | n + 1, x :: l, r, h => by
    simp only [dropF] at h
    obtain ⟨h1, h2⟩ := dropF_eq h
    exact ⟨by simpa using h1, by simpa using h2⟩
theorem subF_eq {c : Array Value} {o n : Nat} {r : List Value} (h : subF c.toList o n = some r) : c.extract o (o + n) = ⟨r⟩ ∧ o + n ≤ c.size := by
  unfold subF at h
  split at h
  · rename_i q hq
    obtain ⟨h1, h2⟩ := dropF_eq hq
    obtain ⟨h3, h4⟩ := takeF_eq h
    subst h1
    simp only [Array.length_toList, List.length_drop] at h2 h4
    refine ⟨?_, by omega⟩
    apply Array.toList_inj.1
    rw [Array.toList_extract]
    simp only [List.extract_eq_take_drop]
    rw [← h3]
    congr 1; omega
  · cases h

end Go.Xe
