import PyProof.Rows.All
import Wide.All
import OpenK.AllK
import Wide.FinOn
import HandS.ForMost
import HandS.Flow
import HandS.IsInst
import HandS.TupAny
import HandS.Zip
import HandS.Wide
import HandS.Style
import KE.KRevSl
import HandS.More
import PySem.Challenge.RW_cutback_k02_put_in
set_option Elab.async false
set_option linter.all false
set_option maxRecDepth 100000
/-! a small language of data and lists, its evaluation, and its soundness over the hand layer -/
namespace Mi
open PySem PySem.Spec PyProof.Rows L2

inductive D where
  | non | bl (b : Bool) | int (i : Int) | str (x : Str) | tup (xs : List D) | loc (n : Nat) | fz (xs : List D)
inductive SO where
  | lst (xs : List D)

/-- a locked list, or one of the written part -/
def SqZ (K : PySem.W.Frag) (H : Hp) (a : Addr) (vs : List V) : Prop :=
  (∃ o, H a = some (.frz o (.lst vs))) ∨
    ∃ (o : Obj) (its : Array Value) (n : Nat), K.lookup a = some o ∧ o.cls = .type "list" ∧ o.dict = none ∧ o.data = .seq its n ∧ its.size ≤ sizeLine ∧ Vals vs its.toList
theorem SqZ.seq {K : PySem.W.Frag} {H : Hp} {a : Addr} {vs : List V} (h : SqZ K H a vs) : SqL K H a vs := by
  rcases h with h | h
  · exact .inl (.inr h)
  · exact .inr h

mutual
def RD (K : PySem.W.Frag) (A : List Addr) (H : Hp) : D → V → Prop
  | .non, v => v = .non
  | .bl b, v => v = .bl b
  | .int i, v => v = .int i
  | .str x, v => v = .str x
  | .tup xs, v => ∃ a vs, v = .ref a ∧ SqT K H a vs ∧ RDs K A H xs vs
  | .loc n, v => ∃ a, v = .ref a ∧ A[n]? = some a
  | .fz xs, v => ∃ a vs, v = .ref a ∧ SqZ K H a vs ∧ RDs K A H xs vs
def RDs (K : PySem.W.Frag) (A : List Addr) (H : Hp) : List D → List V → Prop
  | [], vs => vs = []
  | x :: xs, vs => ∃ v r, vs = v :: r ∧ RD K A H x v ∧ RDs K A H xs r
end

def ObR (K : PySem.W.Frag) (A : List Addr) (H : Hp) : SO → Addr → Prop
  | .lst xs, a => ∃ vs, H a = some (.lst vs) ∧ RDs K A H xs vs

structure Rl (K : PySem.W.Frag) (A : List Addr) (H : Hp) (m : List SO) : Prop where
  len : A.length = m.length
  nd : A.Nodup
  ob : ∀ (n : Nat) (o : SO) (a : Addr), m[n]? = some o → A[n]? = some a → ObR K A H o a

/-- from (A, H) on to (A', H') -/
structure Ext (A : List Addr) (H : Hp) (A' : List Addr) (H' : Hp) : Prop where
  pre : ∃ B, A' = A ++ B
  keep : ∀ b o, H b = some o → b ∉ A → H' b = some o
  new : ∀ b, b ∈ A' → b ∉ A → H b = none
  tups : ∀ b xs, H b = some (.tup xs) → H' b = some (.tup xs)
  frzs : ∀ b o u, H b = some (.frz o u) → H' b = some (.frz o u)

theorem Ext.refl (A : List Addr) (H : Hp) : Ext A H A H := ⟨⟨[], by simp⟩, fun _ _ h _ => h, fun _ h n => absurd h n, fun _ _ h => h, fun _ _ _ h => h⟩
theorem Ext.trans {A A1 A2 : List Addr} {H H1 H2 : Hp} (a : Ext A H A1 H1) (b : Ext A1 H1 A2 H2) : Ext A H A2 H2 where
  pre := by
    obtain ⟨B, rfl⟩ := a.pre
    obtain ⟨C, rfl⟩ := b.pre
    exact ⟨B ++ C, by simp⟩
  keep := fun x o h n => by
    have h1 := a.keep x o h n
    refine b.keep x o h1 fun m => ?_
    have := a.new x m n
    rw [h] at this
    cases this
  new := fun x m n => by
    by_cases m1 : x ∈ A1
    · exact a.new x m1 n
    · have h1 := b.new x m m1
      cases q : H x with
      | none => rfl
      | some o => rw [a.keep x o q n] at h1; cases h1
  tups := fun x xs h => b.tups x xs (a.tups x xs h)
  frzs := fun x o u h => b.frzs x o u (a.frzs x o u h)
theorem Ext.get {A A' : List Addr} {H H' : Hp} (e : Ext A H A' H') {n : Nat} {a : Addr} (h : A[n]? = some a) : A'[n]? = some a := by
  obtain ⟨B, rfl⟩ := e.pre
  rw [List.getElem?_append_left]
  · exact h
  · exact (List.getElem?_eq_some_iff.mp h).1
theorem Ext.sqT {K : PySem.W.Frag} {A A' : List Addr} {H H' : Hp} (e : Ext A H A' H') {a : Addr} {vs : List V} (h : SqT K H a vs) : SqT K H' a vs := by
  rcases h with (h | ⟨o, h⟩) | h
  · exact .inl (.inl (e.tups _ _ h))
  · exact .inl (.inr ⟨o, e.frzs _ _ _ h⟩)
  · exact .inr h
theorem Ext.sqZ {K : PySem.W.Frag} {A A' : List Addr} {H H' : Hp} (e : Ext A H A' H') {a : Addr} {vs : List V} (h : SqZ K H a vs) : SqZ K H' a vs := by
  rcases h with ⟨o, h⟩ | h
  · exact .inl ⟨o, e.frzs _ _ _ h⟩
  · exact .inr h

mutual
theorem RD.mono {K : PySem.W.Frag} {A A' : List Addr} {H H' : Hp} (e : Ext A H A' H') : ∀ {d : D} {v : V}, RD K A H d v → RD K A' H' d v
  | .non, _, h => h
  | .bl _, _, h => h
  | .int _, _, h => h
  | .str _, _, h => h
  | .tup xs, v, h => by
    obtain ⟨a, vs, rfl, h1, h2⟩ := h
    exact ⟨a, vs, rfl, e.sqT h1, RDs.mono e h2⟩
  | .loc n, v, h => by
    obtain ⟨a, rfl, h1⟩ := h
    exact ⟨a, rfl, e.get h1⟩
  | .fz xs, v, h => by
    obtain ⟨a, vs, rfl, h1, h2⟩ := h
    exact ⟨a, vs, rfl, e.sqZ h1, RDs.mono e h2⟩
theorem RDs.mono {K : PySem.W.Frag} {A A' : List Addr} {H H' : Hp} (e : Ext A H A' H') : ∀ {xs : List D} {vs : List V}, RDs K A H xs vs → RDs K A' H' xs vs
  | [], _, h => h
  | x :: xs, vs, h => by
    obtain ⟨v, r, rfl, h1, h2⟩ := h
    exact ⟨v, r, rfl, RD.mono e h1, RDs.mono e h2⟩
end

theorem RDs.length {K : PySem.W.Frag} {A : List Addr} {H : Hp} : ∀ {xs : List D} {vs : List V}, RDs K A H xs vs → vs.length = xs.length
  | [], _, h => by cases h; rfl
  | x :: xs, vs, h => by
    obtain ⟨v, r, rfl, _, h2⟩ := h
    rw [List.length_cons, List.length_cons, RDs.length h2]
theorem RDs.get {K : PySem.W.Frag} {A : List Addr} {H : Hp} : ∀ {xs : List D} {vs : List V} {n : Nat} {d : D}, RDs K A H xs vs → xs[n]? = some d → ∃ v, vs[n]? = some v ∧ RD K A H d v
  | [], _, n, d, _, q => by simp at q
  | x :: xs, vs, n, d, h, q => by
    obtain ⟨v, r, rfl, h1, h2⟩ := h
    cases n with
    | zero => simp at q; subst q; exact ⟨v, rfl, h1⟩
    | succ n => simp at q; obtain ⟨w, e1, e2⟩ := RDs.get h2 q; exact ⟨w, by simpa using e1, e2⟩
theorem RDs.append {K : PySem.W.Frag} {A : List Addr} {H : Hp} : ∀ {xs ys : List D} {vs ws : List V}, RDs K A H xs vs → RDs K A H ys ws → RDs K A H (xs ++ ys) (vs ++ ws)
  | [], _, _, _, h, q => by cases h; exact q
  | x :: xs, ys, vs, ws, h, q => by
    obtain ⟨v, r, rfl, h1, h2⟩ := h
    exact ⟨v, r ++ ws, rfl, h1, RDs.append h2 q⟩
theorem RDs.take {K : PySem.W.Frag} {A : List Addr} {H : Hp} : ∀ {xs : List D} {vs : List V} (n : Nat), RDs K A H xs vs → RDs K A H (xs.take n) (vs.take n)
  | [], _, n, h => by cases h; simp [RDs]
  | x :: xs, vs, 0, h => by simp [RDs]
  | x :: xs, vs, n + 1, h => by
    obtain ⟨v, r, rfl, h1, h2⟩ := h
    exact ⟨v, r.take n, rfl, h1, RDs.take n h2⟩
theorem RDs.drop {K : PySem.W.Frag} {A : List Addr} {H : Hp} : ∀ {xs : List D} {vs : List V} (n : Nat), RDs K A H xs vs → RDs K A H (xs.drop n) (vs.drop n)
  | [], _, n, h => by cases h; simp [RDs]
  | x :: xs, vs, 0, h => h
  | x :: xs, vs, n + 1, h => by
    obtain ⟨v, r, rfl, h1, h2⟩ := h
    exact RDs.drop n h2
theorem RDs.set {K : PySem.W.Frag} {A : List Addr} {H : Hp} {d : D} {w : V} (q : RD K A H d w) : ∀ {xs : List D} {vs : List V} (n : Nat), RDs K A H xs vs → RDs K A H (xs.set n d) (vs.set n w)
  | [], _, n, h => by cases h; simp [RDs]
  | x :: xs, vs, 0, h => by
    obtain ⟨v, r, rfl, h1, h2⟩ := h
    exact ⟨w, r, rfl, q, h2⟩
  | x :: xs, vs, n + 1, h => by
    obtain ⟨v, r, rfl, h1, h2⟩ := h
    exact ⟨v, r.set n w, rfl, h1, RDs.set q n h2⟩
theorem RDs.reverse {K : PySem.W.Frag} {A : List Addr} {H : Hp} : ∀ {xs : List D} {vs : List V}, RDs K A H xs vs → RDs K A H xs.reverse vs.reverse
  | [], _, h => by cases h; simp [RDs]
  | x :: xs, vs, h => by
    obtain ⟨v, r, rfl, h1, h2⟩ := h
    rw [List.reverse_cons, List.reverse_cons]
    exact RDs.append (RDs.reverse h2) ⟨v, [], rfl, h1, rfl⟩
theorem RDs.one {K : PySem.W.Frag} {A : List Addr} {H : Hp} {d : D} {v : V} (h : RD K A H d v) : RDs K A H [d] [v] := ⟨v, [], rfl, h, rfl⟩
theorem RDs.dropLast {K : PySem.W.Frag} {A : List Addr} {H : Hp} {xs : List D} {vs : List V} (h : RDs K A H xs vs) : RDs K A H xs.dropLast vs.dropLast := by
  rw [List.dropLast_eq_take, List.dropLast_eq_take, h.length]
  exact h.take _

section
variable {K : PySem.W.Frag} {A : List Addr} {H : Hp} {m : List SO} {p a : Addr} {o : HO}
theorem Rl.at_ (R : Rl K A H m) {n : Nat} {a : Addr} (h : A[n]? = some a) : ∃ o, m[n]? = some o ∧ ObR K A H o a := by
  have hl := (List.getElem?_eq_some_iff.mp h).1
  rw [R.len] at hl
  exact ⟨m[n], List.getElem?_eq_getElem hl, R.ob n _ a (List.getElem?_eq_getElem hl) h⟩
theorem Rl.mem (R : Rl K A H m) {a : Addr} (h : a ∈ A) : ∃ vs, H a = some (.lst vs) := by
  obtain ⟨n, hn⟩ := List.getElem?_of_mem h
  obtain ⟨o, _, q⟩ := R.at_ hn
  cases o with
  | lst xs => obtain ⟨vs, e, _⟩ := q; exact ⟨vs, e⟩
theorem Ext.fresh (R : Rl K A H m) (hp : H p = none) : Ext A H A (upd H p o) where
  pre := ⟨[], by simp⟩
  keep := fun b u h _ => by rw [upd_ne (ne_of_none h hp)]; exact h
  new := fun b h n => absurd h n
  tups := fun b xs h => by rw [upd_ne (ne_of_none h hp)]; exact h
  frzs := fun b u xs h => by rw [upd_ne (ne_of_none h hp)]; exact h
theorem Rl.fresh_ne (R : Rl K A H m) (hp : H p = none) : p ∉ A := fun h => by
  obtain ⟨vs, e⟩ := R.mem h
  rw [hp] at e
  cases e
theorem ObR.mono {A' : List Addr} {H' : Hp} {o : SO} (e : Ext A H A' H') (hk : H' a = H a) (h : ObR K A H o a) : ObR K A' H' o a := by
  cases o with
  | lst xs => obtain ⟨vs, e1, e2⟩ := h; exact ⟨vs, by rw [hk]; exact e1, e2.mono e⟩
/-- a new thing that the store does not hold (a tuple) -/
theorem Rl.tupled (R : Rl K A H m) (hp : H p = none) : Rl K A (upd H p o) m where
  len := R.len
  nd := R.nd
  ob := fun n u a h1 h2 => (R.ob n u a h1 h2).mono (Ext.fresh R hp) (upd_ne fun e => by
    subst e
    exact R.fresh_ne hp (List.mem_of_getElem? h2))
/-- a new list -/
theorem Ext.alloc (R : Rl K A H m) (hp : H p = none) : Ext A H (A ++ [p]) (upd H p o) where
  pre := ⟨[p], rfl⟩
  keep := fun b u h _ => by rw [upd_ne (ne_of_none h hp)]; exact h
  new := fun b h n => by
    rcases List.mem_append.mp h with h | h
    · exact absurd h n
    · rw [List.mem_singleton.mp h]; exact hp
  tups := fun b xs h => by rw [upd_ne (ne_of_none h hp)]; exact h
  frzs := fun b u xs h => by rw [upd_ne (ne_of_none h hp)]; exact h
theorem Rl.alloc (R : Rl K A H m) (hp : H p = none) {xs : List D} {vs : List V} (h : RDs K A H xs vs) : Rl K (A ++ [p]) (upd H p (.lst vs)) (m ++ [.lst xs]) where
  len := by simp [R.len]
  nd := List.nodup_append.mpr ⟨R.nd, by simp, fun a ha b hb => by
    rw [List.mem_singleton.mp hb]
    intro e
    subst e
    exact R.fresh_ne hp ha⟩
  ob := fun n u a h1 h2 => by
    by_cases hn : n < m.length
    · rw [List.getElem?_append_left hn] at h1
      rw [List.getElem?_append_left (by rw [R.len]; exact hn)] at h2
      exact (R.ob n u a h1 h2).mono (Ext.alloc R hp) (upd_ne fun e => by
        subst e
        exact R.fresh_ne hp (List.mem_of_getElem? h2))
    · rw [List.getElem?_append_right (by omega)] at h1
      rw [List.getElem?_append_right (by rw [R.len]; omega)] at h2
      rw [R.len] at h2
      cases hk : n - m.length with
      | zero =>
        rw [hk] at h1 h2
        simp at h1 h2
        subst h1 h2
        exact ⟨vs, upd_same, h.mono (Ext.alloc R hp)⟩
      | succ j => rw [hk] at h1; simp at h1
/-- a list of the store is changed -/
theorem Ext.write (R : Rl K A H m) (ha : a ∈ A) (vs : List V) : Ext A H A (upd H a (.lst vs)) where
  pre := ⟨[], by simp⟩
  keep := fun b u h n => by rw [upd_ne (show b ≠ a from fun e => n (by rw [e]; exact ha))]; exact h
  new := fun b h n => absurd h n
  tups := fun b xs h => by
    obtain ⟨ws, e⟩ := R.mem ha
    rw [upd_ne (fun z => by subst z; rw [e] at h; cases h)]; exact h
  frzs := fun b u xs h => by
    obtain ⟨ws, e⟩ := R.mem ha
    rw [upd_ne (fun z => by subst z; rw [e] at h; cases h)]; exact h
theorem nodup_get {A : List Addr} (nd : A.Nodup) {n k : Nat} {a : Addr} (h1 : A[n]? = some a) (h2 : A[k]? = some a) : n = k := by
  obtain ⟨l1, e1⟩ := List.getElem?_eq_some_iff.mp h1
  obtain ⟨l2, e2⟩ := List.getElem?_eq_some_iff.mp h2
  exact (List.getElem_inj nd).mp (e1.trans e2.symm)
theorem Rl.write (R : Rl K A H m) {n : Nat} (ha : A[n]? = some a) {xs : List D} {vs : List V} (h : RDs K A H xs vs) : Rl K A (upd H a (.lst vs)) (m.set n (.lst xs)) where
  len := by simp [R.len]
  nd := R.nd
  ob := fun k u b h1 h2 => by
    have E := Ext.write R (List.mem_of_getElem? ha) vs
    by_cases hk : k = n
    · subst hk
      rw [ha] at h2
      cases h2
      have hl := (List.getElem?_eq_some_iff.mp ha).1
      rw [List.getElem?_set_self (by rw [← R.len]; exact hl)] at h1
      cases h1
      exact ⟨vs, upd_same, h.mono E⟩
    · rw [List.getElem?_set_ne (Ne.symm hk)] at h1
      exact (R.ob k u b h1 h2).mono E (upd_ne fun e => by
        subst e
        exact hk (nodup_get R.nd h2 ha))
end
end Mi
namespace Mi
open PySem PySem.Spec PyProof.Rows L2

abbrev M (α : Type) := List SO → Option (α × List SO)
def M.ret {α : Type} (a : α) : M α := fun m => some (a, m)
def M.bnd {α β : Type} (x : M α) (f : α → M β) : M β := fun m => match x m with
  | some (a, m') => f a m'
  | none => none
def M.no {α : Type} : M α := fun _ => none
def M.opt {α : Type} (o : Option α) : M α := fun m => match o with
  | some a => some (a, m)
  | none => none

abbrev Rho := List (Option D)

/-! ### data -/
mutual
def pd0 : D → Option PyData
  | .non => some .none
  | .bl b => some (.bool b)
  | .int i => some (.int i)
  | .str x => some (.str x)
  | .tup xs => (pds0 xs).map .tuple
  | .fz xs => (pds0 xs).map .list
  | .loc _ => none
def pds0 : List D → Option (List PyData)
  | [] => some []
  | x :: xs => match pd0 x, pds0 xs with
    | some a, some b => some (a :: b)
    | _, _ => none
end
def pd (m : List SO) : D → Option PyData
  | .loc n => match m[n]? with
    | some (.lst xs) => (pds0 xs).map .list
    | none => none
  | d => pd0 d

def truth (m : List SO) : D → Option Bool
  | .non => some false
  | .bl b => some b
  | .int i => some (i != 0)
  | .str x => if x.length ≤ sizeLine then some ((x.length : Int) != 0) else none
  | .tup xs => some (!xs.isEmpty)
  | .fz xs => some (!xs.isEmpty)
  | .loc n => match m[n]? with
    | some (.lst xs) => some (!xs.isEmpty)
    | none => none
def truthM (d : D) : M Bool := fun m => match truth m d with
  | some b => some (b, m)
  | none => none

/-- a new list -/
def newL (xs : List D) : M D := fun m => if xs.length ≤ sizeLine then some (.loc m.length, m ++ [.lst xs]) else none
def newT (xs : List D) : M D := fun m => if xs.length ≤ sizeLine then some (.tup xs, m) else none
def getL (m : List SO) (n : Nat) : Option (List D) := match m[n]? with
  | some (.lst xs) => some xs
  | none => none
def setL (n : Nat) (xs : List D) : M D := fun m => some (.non, m.set n (.lst xs))
def cut {α : Type} (xs : List α) (lo hi : Option Int) : List α := (xs.drop (HT.sIx xs.length 0 lo)).take (HT.sIx xs.length xs.length hi - HT.sIx xs.length 0 lo)
/-- what a sequence holds -/
def seqOf (m : List SO) : D → Option (List D)
  | .tup xs => some xs
  | .fz xs => some xs
  | .loc n => getL m n
  | _ => none

inductive Bop where | add | sub | mul | fdiv | mod | pow
inductive Cop where | eq | ne | lt | le | gt | ge | isN | notN | in_ | notIn

def binI : Bop → Int → Int → Option Int
  | .add, i, j => some (i + j)
  | .sub, i, j => some (i - j)
  | .mul, i, j => if (-(2 ^ 64) < i ∧ i < 2 ^ 64) ∨ (-(2 ^ 64) < j ∧ j < 2 ^ 64) then some (i * j) else none
  | .fdiv, i, j => if 0 < j ∧ j < 1073741824 then some (i / j) else none
  | .mod, i, j => if 0 < j then some (i % j) else none
  | .pow, i, j => if 0 ≤ j ∧ j ≤ 1000000 ∧ i.natAbs < 2 ^ 64 then some (i ^ j.toNat) else none
def binD (o : Bop) (x y : D) : M D := fun m => match o, x, y with
  | o, .int i, .int j => match binI o i j with
    | some k => some (.int k, m)
    | none => none
  | .add, .str a, .str b => if a.length + b.length ≤ sizeLine then some (.str (a ++ b), m) else none
  | .add, .tup xs, .tup ys => if xs.length + ys.length ≤ sizeLine then some (.tup (xs ++ ys), m) else none
  | .add, .loc a, .loc b => match getL m a, getL m b with
    | some xs, some ys => if xs.length + ys.length ≤ sizeLine then newL (xs ++ ys) m else none
    | _, _ => none
  | _, _, _ => none

def flatD : D → Bool
  | .non => true | .bl _ => true | .int _ => true | .str _ => true
  | _ => false
def eqF : D → D → Bool
  | .non, .non => true
  | .bl a, .bl b => a == b
  | .bl a, .int b => (if a then 1 else 0) == b
  | .int a, .bl b => a == (if b then 1 else 0)
  | .int a, .int b => a == b
  | .str a, .str b => a == b
  | _, _ => false
def inD (x : D) (xs : List D) : Bool := xs.any fun y => eqF y x

def eqD (k : Nat) (m : List SO) (x y : D) : Option Bool := match pd m x, pd m y with
  | some a, some b => if a.canLay0 = true ∧ b.canLay0 = true ∧ min a.depth b.depth ≤ 16 * k + 200 then some (PyData.eqv a b) else none
  | _, _ => none
def cmpI : Cop → Int → Int → Option Bool
  | .lt, i, j => some (decide (i < j))
  | .le, i, j => some (decide (i ≤ j))
  | .gt, i, j => some (decide (j < i))
  | .ge, i, j => some (decide (j ≤ i))
  | _, _, _ => none
def cmpS : Cop → Str → Str → Option Bool
  | .lt, i, j => some (decide (i.cps.toList < j.cps.toList))
  | .le, i, j => some (!decide (j.cps.toList < i.cps.toList))
  | .gt, i, j => some (decide (j.cps.toList < i.cps.toList))
  | .ge, i, j => some (!decide (i.cps.toList < j.cps.toList))
  | _, _, _ => none
def isNon : D → Bool
  | .non => true
  | _ => false
def cmpD (k : Nat) (m : List SO) (o : Cop) (x y : D) : Option Bool := match o with
  | .eq => eqD k m x y
  | .ne => (eqD k m x y).map (!·)
  | .isN => if isNon y = true then some (isNon x) else none
  | .notN => if isNon y = true then some (!isNon x) else none
  | .in_ => match seqOf m y with
    | some ys => if flatD x = true ∧ ys.all flatD = true then some (inD x ys) else none
    | none => none
  | .notIn => match seqOf m y with
    | some ys => if flatD x = true ∧ ys.all flatD = true then some (!inD x ys) else none
    | none => none
  | o => match x, y with
    | .int i, .int j => cmpI o i j
    | .str i, .str j => cmpS o i j
    | _, _ => none
def cmpM (k : Nat) (o : Cop) (x y : D) : M Bool := fun m => match cmpD k m o x y with
  | some b => some (b, m)
  | none => none

def idxD (x y : D) : M D := fun m => match y with
  | .int i => match x with
    | .str z => if z.length ≤ sizeLine then (match atI z.cps.toList i with
      | some c => some (.str ⟨#[c]⟩, m)
      | none => none) else none
    | x => match seqOf m x with
      | some xs => (match atI xs i with
        | some d => some (d, m)
        | none => none)
      | none => none
  | _ => none
/-- o[lo:hi] -/
def slcD (lo hi : Option Int) (x : D) : M D := fun m => match x with
  | .str z => if z.length ≤ sizeLine then some (.str (cutS z lo hi), m) else none
  | .tup xs => some (.tup (cut xs lo hi), m)
  | .fz xs => some (.loc m.length, m ++ [.lst (cut xs lo hi)])
  | .loc n => match getL m n with
    | some xs => some (.loc m.length, m ++ [.lst (cut xs lo hi)])
    | none => none
  | _ => none

/-- a part of a slice -/
def ptO : List D → Option (Option Int)
  | [] => some none
  | [.int i] => some (some i)
  | _ => none
inductive Blt where | len | int | tuple | list | min
def bltD (b : Blt) (xs : List D) : M D := fun m => match b, xs with
  | .len, [.str x] => if x.length ≤ sizeLine then some (.int x.length, m) else none
  | .len, [x] => match seqOf m x with
    | some ys => some (.int ys.length, m)
    | none => none
  | .int, [.int i] => some (.int i, m)
  | .int, [.bl b] => some (.int (if b then 1 else 0), m)
  | .tuple, [.tup xs] => some (.tup xs, m)
  | .tuple, [x] => match seqOf m x with
    | some ys => some (.tup ys, m)
    | none => none
  | .list, [x] => match seqOf m x with
    | some ys => some (.loc m.length, m ++ [.lst ys])
    | none => none
  | .min, [.int i, .int j] => some (.int (if j < i then j else i), m)
  | _, _ => none

inductive Mth where | append | pop | extend | join
def strsOf : List D → Option (List Str)
  | [] => some []
  | .str x :: xs => (strsOf xs).map (x :: ·)
  | _ => none
def methD (f : Mth) (x : D) (ys : List D) : M D := fun m => match f, x, ys with
  | .append, .loc n, [y] => match getL m n with
    | some xs => if xs.length < sizeLine then some (.non, m.set n (.lst (xs ++ [y]))) else none
    | none => none
  | .pop, .loc n, [] => match getL m n with
    | some xs => (match xs[xs.length - 1]? with
      | some y => some (y, m.set n (.lst xs.dropLast))
      | none => none)
    | none => none
  | .extend, .loc n, [.tup ys] => match getL m n with
    | some xs => if xs.length + ys.length ≤ sizeLine then some (.non, m.set n (.lst (xs ++ ys))) else none
    | none => none
  | .extend, .loc n, [.loc j] => match getL m n, getL m j with
    | some xs, some ys => if xs.length + ys.length ≤ sizeLine then some (.non, m.set n (.lst (xs ++ ys))) else none
    | _, _ => none
  | .join, .str a, [y] => match seqOf m y with
    | some ys => (match strsOf ys with
      | some zs => if (zs.map (·.length)).sum + zs.length * a.length ≤ 16777216 then some (.str (Txt.join a zs), m) else none
      | none => none)
    | none => none
  | _, _, _ => none

def isiD : D → String → Option Bool
  | .int _, "int" => some true
  | .bl _, "int" => some true
  | .bl _, "bool" => some true
  | .str _, "str" => some true
  | .tup _, "tuple" => some true
  | .loc _, "list" => some true
  | .fz _, "list" => some true
  | .non, _ => some false
  | .int _, _ => some false
  | .bl _, _ => some false
  | .str _, _ => some false
  | .tup _, _ => some false
  | .loc _, _ => some false
  | .fz _, _ => some false

/-! ### expressions -/
inductive Tg where
  | nm (i : Nat) | tp (is : List Nat)
inductive Itk where | one | rng1 | rng2 | zip | rev
inductive Ex where
  | nil | cons (e es : Ex)
  | var (i : Nat) | cst (d : D) | glb (x : Str) (d : D)
  | bin (o : Bop) (a b : Ex) | neg (a : Ex)
  | cmp (o : Cop) (a b : Ex) | chain (o o' : Cop) (a b c : Ex)
  | and (a b : Ex) | or (a b : Ex) | not (a : Ex) | ifx (c a b : Ex)
  | tup (es : Ex) | lst (es : Ex)
  | idx (a i : Ex) | slc (a lo hi : Ex) | rvs (a : Ex)
  | call (f : Str) (es : Ex) | blt (b : Blt) (es : Ex) | meth (f : Mth) (o es : Ex)
  | isi (a : Ex) (t : String)
  | comp (own : List (Str × Nat)) (g : Tg) (ik : Itk) (args cond elt : Ex)
  | gget (x : Str) (kvs : List (Str × D)) (e : Ex) | gin (neg : Bool) (x : Str) (kvs : List (Str × D)) (e : Ex)

structure Den where
  v : M D
  t : M Bool
  l : M (List D)
def den (v : M D) : Den := ⟨v, v.bnd truthM, M.no⟩
def denB (t : M Bool) : Den := ⟨t.bnd fun b => .ret (.bl b), t, M.no⟩

/-- what a for walks: the items, and the list that must stand still -/
def itemsD (ik : Itk) (xs : List D) : M (List D × Option (Nat × List D)) := fun m => match ik, xs with
  | .one, [.loc n] => match getL m n with
    | some ys => some ((ys, some (n, ys)), m)
    | none => none
  | .one, [.tup ys] => some ((ys, none), m)
  | .one, [.fz ys] => some ((ys, none), m)
  | .rng1, [.int j] => if -(2 ^ 62) ≤ j ∧ j < 2 ^ 62 then some (((List.range j.toNat).map fun (i : Nat) => D.int i, none), m) else none
  | .rng2, [.int i, .int j] => if -(2 ^ 62) ≤ i ∧ i < 2 ^ 62 ∧ -(2 ^ 62) ≤ j ∧ j < 2 ^ 62 then some (((List.range (j - i).toNat).map fun (k : Nat) => D.int (i + k), none), m) else none
  | .zip, [.tup a, .tup b] => some (((a.zip b).map fun p => D.tup [p.1, p.2], none), m)
  | .rev, [.loc n] => match getL m n with
    | some ys => some ((ys.reverse, some (n, ys)), m)
    | none => none
  | _, _ => none
/-- the walked list still stands -/
def Still (g : Option (Nat × List D)) (m : List SO) : Prop := match g with
  | none => True
  | some p => m[p.1]? = some (.lst p.2)
def setsR : Rho → List Nat → List D → Option Rho
  | r, [], [] => some r
  | r, i :: is, d :: ds => setsR (r.set i (some d)) is ds
  | _, _, _ => none
def tgt (g : Tg) (d : D) (r : Rho) (m : List SO) : Option Rho := match g with
  | .nm i => some (r.set i (some d))
  | .tp is => match d with
    | .tup xs => setsR r is xs
    | _ => none
def wipeR (r : Rho) : List Nat → Rho
  | [] => r
  | v :: vs => (wipeR r vs).set v none
open Classical in
/-- a comprehension's turns, the new list at n -/
noncomputable def compL (f : D → M (Option D)) (g : Option (Nat × List D)) (n : Nat) : List D → M Unit
  | [] => fun m => if Still g m then some ((), m) else none
  | x :: r => fun m => if Still g m then (match f x m with
    | some (none, m') => compL f g n r m'
    | some (some d, m') => match getL m' n with
      | some acc => if acc.length < sizeLine then compL f g n r (m'.set n (.lst (acc ++ [d]))) else none
      | none => none
    | none => none) else none

noncomputable def ev (k : Nat) (cf : Str → List D → M D) : Ex → Rho → Den
  | .nil, _ => ⟨M.no, M.no, .ret []⟩
  | .cons e es, r => ⟨M.no, M.no, (ev k cf e r).v.bnd fun d => (ev k cf es r).l.bnd fun ds => .ret (d :: ds)⟩
  | .var i, r => den (fun m => match r[i]? with
    | some (some d) => some (d, m)
    | _ => none)
  | .cst d, _ => den (.ret d)
  | .glb _ d, _ => den (.ret d)
  | .bin o a b, r => den ((ev k cf a r).v.bnd fun x => (ev k cf b r).v.bnd fun y => binD o x y)
  | .neg a, r => den ((ev k cf a r).v.bnd fun x m => match x with
    | .int i => some (.int (-i), m)
    | _ => none)
  | .cmp o a b, r => denB ((ev k cf a r).v.bnd fun x => (ev k cf b r).v.bnd fun y => cmpM k o x y)
  | .chain o o' a b c, r => denB ((ev k cf a r).v.bnd fun x => (ev k cf b r).v.bnd fun y => (cmpM k o x y).bnd fun t => if t = true then (ev k cf c r).v.bnd fun z => cmpM k o' y z else .ret false)
  | .and a b, r => ⟨(ev k cf a r).v.bnd fun x => (truthM x).bnd fun t => if t = true then (ev k cf b r).v else .ret x,
      (ev k cf a r).t.bnd fun t => if t = true then (ev k cf b r).t else .ret false, M.no⟩
  | .or a b, r => ⟨(ev k cf a r).v.bnd fun x => (truthM x).bnd fun t => if t = true then .ret x else (ev k cf b r).v,
      (ev k cf a r).t.bnd fun t => if t = true then .ret true else (ev k cf b r).t, M.no⟩
  | .not a, r => ⟨(ev k cf a r).v.bnd fun x => (truthM x).bnd fun t => .ret (.bl (!t)), (ev k cf a r).t.bnd fun t => .ret (!t), M.no⟩
  | .ifx c a b, r => ⟨(ev k cf c r).t.bnd fun t => if t = true then (ev k cf a r).v else (ev k cf b r).v, M.no, M.no⟩
  | .tup es, r => den ((ev k cf es r).l.bnd newT)
  | .lst es, r => den ((ev k cf es r).l.bnd newL)
  | .idx a i, r => den ((ev k cf a r).v.bnd fun x => (ev k cf i r).v.bnd fun y => idxD x y)
  | .slc a lo hi, r => den ((ev k cf a r).v.bnd fun x => (ev k cf lo r).l.bnd fun l => (ev k cf hi r).l.bnd fun h m => match ptO l, ptO h with
    | some i, some j => slcD i j x m
    | _, _ => none)
  | .rvs a, r => den ((ev k cf a r).v.bnd fun x m => match x with
    | .loc n => match getL m n with
      | some xs => some (.loc m.length, m ++ [.lst xs.reverse])
      | none => none
    | .tup xs => some (.tup xs.reverse, m)
    | _ => none)
  | .call f es, r => den ((ev k cf es r).l.bnd fun ds => cf f ds)
  | .blt b es, r => den ((ev k cf es r).l.bnd fun ds => bltD b ds)
  | .meth f o es, r => den ((ev k cf o r).v.bnd fun x => (ev k cf es r).l.bnd fun ds => methD f x ds)
  | .isi a t, r => den ((ev k cf a r).v.bnd fun x m => match isiD x t with
    | some b => some (.bl b, m)
    | none => none)
  | .comp own g ik args cond elt, r => den ((ev k cf args r).l.bnd fun ds => (itemsD ik ds).bnd fun it m =>
      match compL (fun x m => match tgt g x (wipeR r (own.map (·.2))) m with
          | none => none
          | some r1 => match cond with
            | .nil => ((ev k cf elt r1).v.bnd fun d => .ret (some d)) m
            | c => ((ev k cf c r1).t.bnd fun t => if t = true then (ev k cf elt r1).v.bnd fun d => .ret (some d) else .ret none) m)
        it.2 m.length it.1 (m ++ [.lst []]) with
      | some (_, m') => some (.loc m.length, m')
      | none => none)
  | .gget _ kvs e, r => den ((ev k cf e r).v.bnd fun x m => match x with
    | .str z => match kvs.lookup z with
      | some d => some (d, m)
      | none => none
    | _ => none)
  | .gin neg _ kvs e, r => denB ((ev k cf e r).v.bnd fun x m => match x with
    | .str z => some ((kvs.lookup z).isSome != neg, m)
    | _ => none)
end Mi
namespace Mi
open PySem PySem.Spec PyProof.Rows L2

inductive Out where
  | nx | rt (d : D) | bk | ct
inductive Pt where
  | lit (x : Str) | cap (i : Nat) | wild
inductive Sm where
  | pass | never | brk | cont | retN
  | seq (a b : Sm) | set (i : Nat) (e : Ex) | unp (is : List Nat) (e : Ex) | setIx (o i e : Ex)
  | aug (i : Nat) (o : Bop) (e : Ex) | ret (e : Ex) | expr (e : Ex)
  | ifs (c : Ex) (a b : Sm) | whl (c : Ex) (a : Sm) | for_ (g : Tg) (ik : Itk) (args : Ex) (b : Sm)
  | mtch (e : Ex) (cs : Sm) | case (p : Option (List Pt)) (gd : Ex) (body rest : Sm)

abbrev MS := Rho → M (Out × Rho)
structure Dst where
  x : MS
  c : D → MS
def dst (x : MS) : Dst := ⟨x, fun _ _ => M.no⟩

open Classical in
noncomputable def forL (f : D → MS) (g : Option (Nat × List D)) : List D → MS
  | [], r => fun m => if Still g m then some ((.nx, r), m) else none
  | x :: l, r => fun m => if Still g m then (match f x r m with
    | some ((.nx, r'), m') => forL f g l r' m'
    | some ((.ct, r'), m') => forL f g l r' m'
    | some ((.bk, r'), m') => some ((.nx, r'), m')
    | some ((.rt d, r'), m') => some ((.rt d, r'), m')
    | none => none) else none

def whN (c : Rho → M Bool) (f : MS) : Nat → MS
  | 0, _ => M.no
  | n + 1, r => (c r).bnd fun t => if t = true then (fun m => match f r m with
    | some ((.nx, r'), m') => whN c f n r' m'
    | some ((.ct, r'), m') => whN c f n r' m'
    | some ((.bk, r'), m') => some ((.nx, r'), m')
    | some ((.rt d, r'), m') => some ((.rt d, r'), m')
    | none => none) else .ret (.nx, r)
theorem whN_mono {c : Rho → M Bool} {f : MS} : ∀ {n j : Nat} {r : Rho} {m : List SO} {x}, whN c f n r m = some x → n ≤ j → whN c f j r m = some x
  | 0, _, _, _, _, h, _ => by cases h
  | n + 1, 0, _, _, _, _, hj => absurd hj (by omega)
  | n + 1, j + 1, r, m, x, h, hj => by
    have ih : ∀ {r m x}, whN c f n r m = some x → whN c f j r m = some x := fun h => whN_mono h (by omega)
    simp only [whN, M.bnd] at h ⊢
    cases hc : c r m with
    | none => rw [hc] at h; cases h
    | some p =>
      obtain ⟨t, m1⟩ := p
      rw [hc] at h
      simp only at h ⊢
      cases t with
      | false => simpa using h
      | true =>
        simp only [if_true] at h ⊢
        cases hf : f r m1 with
        | none => rw [hf] at h; cases h
        | some q =>
          obtain ⟨⟨o, r'⟩, m2⟩ := q
          rw [hf] at h
          cases o with
          | nx => exact ih h
          | ct => exact ih h
          | bk => exact h
          | rt d => exact h
open Classical in
noncomputable def whC (c : Rho → M Bool) (f : MS) : MS := fun r m =>
  if h : ∃ n x, whN c f n r m = some x then some (Classical.choose (Classical.choose_spec h)) else none
theorem whC_of {c : Rho → M Bool} {f : MS} {n : Nat} {r : Rho} {m : List SO} {x} (h : whN c f n r m = some x) : whC c f r m = some x := by
  have hx : ∃ n x, whN c f n r m = some x := ⟨n, x, h⟩
  unfold whC
  rw [dif_pos hx]
  have e := Classical.choose_spec (Classical.choose_spec hx)
  have e1 := whN_mono e (Nat.le_max_left _ n)
  have e2 := whN_mono h (Nat.le_max_right (Classical.choose hx) n)
  rw [e1] at e2
  exact e2
theorem whC_to {c : Rho → M Bool} {f : MS} {r : Rho} {m : List SO} {x} (h : whC c f r m = some x) : ∃ n, whN c f n r m = some x := by
  unfold whC at h
  split at h
  · rename_i hx
    cases h
    exact ⟨_, Classical.choose_spec (Classical.choose_spec hx)⟩
  · cases h

/-- a row of patterns against a tuple's items -/
def ptsD : List Pt → List D → Rho → Option (Option Rho)
  | [], [], r => some (some r)
  | .wild :: ps, _ :: xs, r => ptsD ps xs r
  | .cap i :: ps, x :: xs, r => ptsD ps xs (r.set i (some x))
  | .lit w :: ps, x :: xs, r => match x with
    | .str z => if z == w then ptsD ps xs r else some none
    | .non => some none
    | .bl _ => some none
    | .int _ => some none
    | _ => none
  | _, _, _ => none

noncomputable def ex (k : Nat) (cf : Str → List D → M D) : Sm → Dst
  | .pass => ⟨fun r => .ret (.nx, r), fun _ r => .ret (.nx, r)⟩
  | .never => dst fun _ => M.no
  | .brk => dst fun r => .ret (.bk, r)
  | .cont => dst fun r => .ret (.ct, r)
  | .retN => dst fun r => .ret (.rt .non, r)
  | .seq a b => dst fun r m => match (ex k cf a).x r m with
    | some ((.nx, r'), m') => (ex k cf b).x r' m'
    | o => o
  | .set i e => dst fun r => (ev k cf e r).v.bnd fun d => .ret (.nx, r.set i (some d))
  | .unp is e => dst fun r => (ev k cf e r).v.bnd fun d m => match tgt (.tp is) d r m with
    | some r' => some ((.nx, r'), m)
    | none => none
  | .setIx o i e => dst fun r => (ev k cf e r).v.bnd fun d => (ev k cf o r).v.bnd fun x => (ev k cf i r).v.bnd fun y m => match x, y with
    | .loc n, .int j => match getL m n with
      | some xs => (match ixN xs.length j with
        | some q => some ((.nx, r), m.set n (.lst (xs.set q d)))
        | none => none)
      | none => none
    | _, _ => none
  | .aug i o e => dst fun r m => match r[i]? with
    | some (some (.int x)) => ((ev k cf e r).v.bnd fun d m => match d with
      | .int y => (match o with
        | .add => some ((.nx, r.set i (some (.int (x + y)))), m)
        | .sub => some ((.nx, r.set i (some (.int (x - y)))), m)
        | _ => none)
      | _ => none) m
    | _ => none
  | .ret e => dst fun r => (ev k cf e r).v.bnd fun d => .ret (.rt d, r)
  | .expr e => dst fun r => (ev k cf e r).v.bnd fun _ => .ret (.nx, r)
  | .ifs c a b => dst fun r => (ev k cf c r).t.bnd fun t => if t = true then (ex k cf a).x r else (ex k cf b).x r
  | .whl c a => dst (whC (fun r => (ev k cf c r).t) (ex k cf a).x)
  | .for_ g ik args b => dst fun r => (ev k cf args r).l.bnd fun ds => (itemsD ik ds).bnd fun it =>
      forL (fun d r m => match tgt g d r m with
        | some r' => (ex k cf b).x r' m
        | none => none) it.2 it.1 r
  | .mtch e cs => dst fun r => (ev k cf e r).v.bnd fun d => (ex k cf cs).c d r
  | .case p gd body rest => ⟨fun _ => M.no, fun d r m => match p with
    | none => (ex k cf body).x r m
    | some ps => match d with
      | .tup xs => if xs.length = ps.length then (match ptsD ps xs r with
          | none => none
          | some none => (ex k cf rest).c d r m
          | some (some r') => match gd with
            | .nil => (ex k cf body).x r' m
            | g => match (ev k cf g r').t m with
              | some (true, m') => (ex k cf body).x r' m'
              | some (false, m') => (ex k cf rest).c d r' m'
              | none => none)
        else (ex k cf rest).c d r m
      | _ => none⟩

/-! ### defs -/
mutual
def ltD (n : Nat) : D → Bool
  | .tup xs => ltDs n xs
  | .fz xs => ltDs n xs
  | .loc j => decide (j < n)
  | _ => true
def ltDs (n : Nat) : List D → Bool
  | [] => true
  | x :: xs => ltD n x && ltDs n xs
end
def Kept (m m' : List SO) : Prop := m.length ≤ m'.length ∧ ∀ i, i < m.length → m'[i]? = m[i]? ∨ ∃ xs, m'[i]? = some (.lst xs) ∧ ltDs m.length xs = true
open Classical in
noncomputable def gc (m : List SO) (d : D) (m' : List SO) : D × List SO :=
  if Kept m m' then
    (if ltD m.length d = true then (d, m'.take m.length) else match d with
      | .loc j => match m'[j]? with
        | some (.lst xs) => if ltDs m.length xs = true then (.loc m.length, m'.take m.length ++ [.lst xs]) else (d, m')
        | none => (d, m')
      | _ => (d, m'))
  else (d, m')
structure Fn where
  ps : List Str
  N : List Str
  body : Sm
noncomputable def run (tb : Str → Option Fn) : Nat → Str → List D → M D
  | 0, _, _ => M.no
  | k + 1, f, ds => fun m => match tb f with
    | none => none
    | some fn => if ds.length = fn.ps.length then (match (ex k (run tb k) fn.body).x (ds.map some ++ List.replicate (fn.N.length - ds.length) none) m with
      | some ((.nx, _), m') => some (gc m .non m')
      | some ((.rt d, _), m') => some (gc m d m')
      | _ => none) else none
end Mi
namespace Mi
open PySem PySem.Spec PyProof.Rows L2

structure RSt (K : PySem.W.Frag) (A : List Addr) (H : Hp) (r : Rho) (σ : L2.St) : Prop where
  len : σ.length = r.length
  at_ : ∀ (i : Nat) (d : D), r[i]? = some (some d) → ∃ v, σ[i]? = some (some v) ∧ RD K A H d v
section
variable {K : PySem.W.Frag} {A A' : List Addr} {H H' : Hp} {r : Rho} {σ : L2.St} {m m' : List SO}
theorem RSt.mono (e : Ext A H A' H') (h : RSt K A H r σ) : RSt K A' H' r σ := ⟨h.len, fun i d q => by
  obtain ⟨v, h1, h2⟩ := h.at_ i d q
  exact ⟨v, h1, h2.mono e⟩⟩
theorem RSt.set (h : RSt K A H r σ) {i : Nat} {d : D} {v : V} (q : RD K A H d v) : RSt K A H (r.set i (some d)) (σ.set i (some v)) where
  len := by rw [List.length_set, List.length_set, h.len]
  at_ := fun j e hj => by
    by_cases hij : j = i
    · subst hij
      have hl : j < r.length := by
        have := (List.getElem?_eq_some_iff.mp hj).1
        rwa [List.length_set] at this
      rw [List.getElem?_set_self hl] at hj
      cases hj
      exact ⟨v, List.getElem?_set_self (by rw [h.len]; exact hl), q⟩
    · rw [List.getElem?_set_ne (Ne.symm hij)] at hj
      obtain ⟨w, h1, h2⟩ := h.at_ j e hj
      exact ⟨w, by rw [List.getElem?_set_ne (Ne.symm hij)]; exact h1, h2⟩
theorem RSt.unset (h : RSt K A H r σ) (i : Nat) : RSt K A H (r.set i none) (σ.set i none) where
  len := by rw [List.length_set, List.length_set, h.len]
  at_ := fun j e hj => by
    by_cases hij : j = i
    · subst hij
      by_cases hl : j < r.length
      · rw [List.getElem?_set_self hl] at hj
        cases hj
      · rw [List.getElem?_eq_none (by rw [List.length_set]; omega)] at hj
        cases hj
    · rw [List.getElem?_set_ne (Ne.symm hij)] at hj
      obtain ⟨w, h1, h2⟩ := h.at_ j e hj
      exact ⟨w, by rw [List.getElem?_set_ne (Ne.symm hij)]; exact h1, h2⟩
theorem RSt.wipe (h : RSt K A H r σ) : ∀ vs : List Nat, RSt K A H (wipeR r vs) (L2.wipe σ vs)
  | [] => h
  | v :: vs => (RSt.wipe h vs).unset v

/-- what is still to be done, and what is wanted behind it -/
def Pend (K : PySem.W.Frag) {α : Type} (σ : L2.St) (H : Hp) (xs : List (D × V)) (c : Rho → M α) (Fin : List Addr → Hp → Rho → α → Prop) : Prop :=
  ∃ A m r a m', Rl K A H m ∧ RSt K A H r σ ∧ (∀ p ∈ xs, RD K A H p.1 p.2) ∧ c r m = some (a, m') ∧ ∀ A' H', Ext A H A' H' → Rl K A' H' m' → Fin A' H' r a
def finV (K : PySem.W.Frag) (Q : VK) : List Addr → Hp → Rho → D → Prop := fun A H _ d => ∀ v, RD K A H d v → Q v H
def finT (Q : Bool → Hp → Prop) : List Addr → Hp → Rho → Bool → Prop := fun _ H _ b => Q b H
def finL (K : PySem.W.Frag) (Q : List V → Hp → Prop) : List Addr → Hp → Rho → List D → Prop := fun A H _ ds => ∀ vs, RDs K A H ds vs → Q vs H
def finX (K : PySem.W.Frag) (E : Ends) : List Addr → Hp → Rho → Out × Rho → Prop := fun A H _ p => match p.1 with
  | .nx => ∀ σ, RSt K A H p.2 σ → E.nx σ H
  | .bk => ∀ σ, RSt K A H p.2 σ → E.bk σ H
  | .ct => ∀ σ, RSt K A H p.2 σ → E.ct σ H
  | .rt d => ∀ v, RD K A H d v → E.rt v H
def tV (K : PySem.W.Frag) (c : Rho → M D) : TE := fun σ H Q => Pend K σ H [] c (finV K Q)
def tT (K : PySem.W.Frag) (c : Rho → M Bool) : TT := fun σ H Q => Pend K σ H [] c (finT Q)
def tL (K : PySem.W.Frag) (c : Rho → M (List D)) : TA := fun σ H Q => Pend K σ H [] c (finL K Q)
def tX (K : PySem.W.Frag) (c : MS) : TS := fun E σ H => Pend K σ H [] c (finX K E)

theorem bnd_some {α β : Type} {x : M α} {f : α → M β} {m m' : List SO} {b : β} (h : (x.bnd f) m = some (b, m')) : ∃ a m1, x m = some (a, m1) ∧ f a m1 = some (b, m') := by
  unfold M.bnd at h
  split at h
  · exact ⟨_, _, by assumption, h⟩
  · cases h

variable {α β : Type} {Fin : List Addr → Hp → Rho → β → Prop} {xs : List (D × V)}
theorem Pend.v {f : Rho → M D} {g : D → Rho → M β} (h : Pend K σ H xs (fun r => (f r).bnd fun d => g d r) Fin) :
    tV K f σ H fun v H1 => ∃ d, Pend K σ H1 ((d, v) :: xs) (g d) Fin := by
  obtain ⟨A, m, r, b, m', R, S, hx, hc, q⟩ := h
  obtain ⟨d, m1, h1, h2⟩ := bnd_some hc
  exact ⟨A, m, r, d, m1, R, S, (fun _ z => nomatch z), h1, fun A1 H1 e1 R1 v hv => ⟨d, A1, m1, r, b, m', R1, S.mono e1, fun p hp => by
    rcases List.mem_cons.mp hp with rfl | hp
    · exact hv
    · exact (hx p hp).mono e1, h2, fun A2 H2 e2 R2 => q A2 H2 (e1.trans e2) R2⟩⟩
theorem Pend.t {f : Rho → M Bool} {g : Bool → Rho → M β} (h : Pend K σ H xs (fun r => (f r).bnd fun d => g d r) Fin) :
    tT K f σ H fun b H1 => Pend K σ H1 xs (g b) Fin := by
  obtain ⟨A, m, r, b, m', R, S, hx, hc, q⟩ := h
  obtain ⟨d, m1, h1, h2⟩ := bnd_some hc
  exact ⟨A, m, r, d, m1, R, S, (fun _ z => nomatch z), h1, fun A1 H1 e1 R1 => ⟨A1, m1, r, b, m', R1, S.mono e1, fun p hp => (hx p hp).mono e1, h2, fun A2 H2 e2 R2 => q A2 H2 (e1.trans e2) R2⟩⟩
/-- a list of values at hand -/
def PendL (K : PySem.W.Frag) {α : Type} (σ : L2.St) (H : Hp) (xs : List (D × V)) (ds : List D) (vs : List V) (c : Rho → M α) (Fin : List Addr → Hp → Rho → α → Prop) : Prop :=
  ∃ A m r a m', Rl K A H m ∧ RSt K A H r σ ∧ (∀ p ∈ xs, RD K A H p.1 p.2) ∧ RDs K A H ds vs ∧ c r m = some (a, m') ∧ ∀ A' H', Ext A H A' H' → Rl K A' H' m' → Fin A' H' r a
theorem Pend.l {f : Rho → M (List D)} {g : List D → Rho → M β} (h : Pend K σ H xs (fun r => (f r).bnd fun d => g d r) Fin) :
    tL K f σ H fun vs H1 => ∃ ds, PendL K σ H1 xs ds vs (g ds) Fin := by
  obtain ⟨A, m, r, b, m', R, S, hx, hc, q⟩ := h
  obtain ⟨d, m1, h1, h2⟩ := bnd_some hc
  exact ⟨A, m, r, d, m1, R, S, (fun _ z => nomatch z), h1, fun A1 H1 e1 R1 v hv => ⟨d, A1, m1, r, b, m', R1, S.mono e1, fun p hp => (hx p hp).mono e1, hv, h2, fun A2 H2 e2 R2 => q A2 H2 (e1.trans e2) R2⟩⟩
theorem Pend.l2 {f : Rho → M (List D)} {g : List D → Rho → M β} {es : List D} {ws : List V} (h : PendL K σ H xs es ws (fun r => (f r).bnd fun d => g d r) Fin) :
    tL K f σ H fun vs H1 => ∃ A m r b m' ds, Rl K A H1 m ∧ RSt K A H1 r σ ∧ (∀ p ∈ xs, RD K A H1 p.1 p.2) ∧ RDs K A H1 es ws ∧ RDs K A H1 ds vs ∧ g ds r m = some (b, m') ∧ ∀ A' H', Ext A H1 A' H' → Rl K A' H' m' → Fin A' H' r b := by
  obtain ⟨A, m, r, b, m', R, S, hx, hd, hc, q⟩ := h
  obtain ⟨d, m1, h1, h2⟩ := bnd_some hc
  exact ⟨A, m, r, d, m1, R, S, (fun _ z => nomatch z), h1, fun A1 H1 e1 R1 v hv => ⟨A1, m1, r, b, m', d, R1, S.mono e1, fun p hp => (hx p hp).mono e1, hd.mono e1, hv, h2, fun A2 H2 e2 R2 => q A2 H2 (e1.trans e2) R2⟩⟩
theorem Pend.fin {b : β} (h : Pend K σ H xs (fun _ => M.ret b) Fin) : ∃ A m r, Rl K A H m ∧ RSt K A H r σ ∧ (∀ p ∈ xs, RD K A H p.1 p.2) ∧ Fin A H r b := by
  obtain ⟨A, m, r, b, m', R, S, hx, hc, q⟩ := h
  cases hc
  exact ⟨A, m, r, R, S, hx, q A H (Ext.refl A H) R⟩
theorem Pend.drop {f : Rho → M D} {Q : VK} (h : Pend K σ H xs f (finV K Q)) : tV K f σ H Q := by
  obtain ⟨A, m, r, b, m', R, S, hx, hc, q⟩ := h
  exact ⟨A, m, r, b, m', R, S, (fun _ z => nomatch z), hc, q⟩
theorem Pend.dropT {f : Rho → M Bool} {Q : Bool → Hp → Prop} (h : Pend K σ H xs f (finT Q)) : tT K f σ H Q := by
  obtain ⟨A, m, r, b, m', R, S, hx, hc, q⟩ := h
  exact ⟨A, m, r, b, m', R, S, (fun _ z => nomatch z), hc, q⟩
end

section
variable {X : Cx} {e : Expr} {es : List Expr}
theorem PE.imp {t t' : TE} (h : PE X e t) (w : ∀ σ H Q, t' σ H Q → t σ H Q) : PE X e t' := ⟨fun pins s σ H Q I q => h.run pins s σ H Q I (w σ H Q q)⟩
theorem PT.imp {t t' : TT} (h : PT X e t) (w : ∀ σ H Q, t' σ H Q → t σ H Q) : PT X e t' := ⟨fun pins s σ H Q I q => h.run pins s σ H Q I (w σ H Q q)⟩
theorem PA.imp {t t' : TA} (h : PA X es t) (w : ∀ σ H Q, t' σ H Q → t σ H Q) : PA X es t' := ⟨fun p pins s σ H Q I q => h.run p pins s σ H Q I (w σ H Q q)⟩
theorem PS.imp {st : Stmt} {t t' : TS} (h : PS X st t) (w : ∀ E σ H, t' E σ H → t E σ H) : PS X st t' := ⟨fun pins s σ H E I q => h.run pins s σ H E I (w E σ H q)⟩
theorem PSs.imp {st : List Stmt} {t t' : TS} (h : PSs X st t) (w : ∀ E σ H, t' E σ H → t E σ H) : PSs X st t' := ⟨fun pins s σ H E I q => h.run pins s σ H E I (w E σ H q)⟩
end

/-! ### operators -/
/-- two values at hand, an operation on them, what is wanted -/
def r2 (K : PySem.W.Frag) (f : D → D → M D) : R2 := fun v w H Q => ∃ A m x y d m', Rl K A H m ∧ RD K A H x v ∧ RD K A H y w ∧ f x y m = some (d, m') ∧ ∀ A' H', Ext A H A' H' → Rl K A' H' m' → ∀ u, RD K A' H' d u → Q u H'
def r2B (K : PySem.W.Frag) (f : D → D → M Bool) : R2 := fun v w H Q => ∃ A m x y b m', Rl K A H m ∧ RD K A H x v ∧ RD K A H y w ∧ f x y m = some (b, m') ∧ ∀ A' H', Ext A H A' H' → Rl K A' H' m' → Q (.bl b) H'
def bopOf : Bop → Operator
  | .add => .Add | .sub => .Sub | .mul => .Mult | .fdiv => .FloorDiv | .mod => .Mod | .pow => .Pow
def copOf : Cop → CmpOp
  | .eq => .Eq | .ne => .NotEq | .lt => .Lt | .le => .LtE | .gt => .Gt | .ge => .GtE | .isN => .Is | .notN => .IsNot | .in_ => .In | .notIn => .NotIn
variable {X : Cx}

theorem tup_ne {K : PySem.W.Frag} {A : List Addr} {H : Hp} {m : List SO} (R : Rl K A H m) {a : Addr} {vs : List V} {n : Nat} (h1 : H a = some (.tup vs)) (h2 : A[n]? = some a) : False := by
  obtain ⟨ws, e⟩ := R.mem (List.mem_of_getElem? h2)
  rw [h1] at e
  cases e
theorem getL_at {K : PySem.W.Frag} {A : List Addr} {H : Hp} {m : List SO} (R : Rl K A H m) {n : Nat} {xs : List D} {a : Addr} (h : getL m n = some xs) (ha : A[n]? = some a) : ∃ vs, H a = some (.lst vs) ∧ RDs K A H xs vs := by
  obtain ⟨o, e, q⟩ := R.at_ ha
  unfold getL at h
  rw [e] at h
  cases o with
  | lst ys => cases h; exact q
theorem getL_set {m : List SO} {n : Nat} {xs : List D} (h : getL m n = some xs) : m[n]? = some (.lst xs) := by
  unfold getL at h
  split at h
  · cases h; assumption
  · cases h

theorem rd_int {K : PySem.W.Frag} {A : List Addr} {H : Hp} {i : Int} {v : V} (h : RD K A H (.int i) v) : v = .int i := h

theorem op_bin (o : Bop) : OpR X (binaryOp (bopOf o)) (r2 X.K (binD o)) := by
  intro pins s σ H v w u1 u2 Q I ru rw_ h
  obtain ⟨A, m, x, y, d, m', R, hx, hy, hb, q⟩ := h
  have int_case : ∀ i j, x = .int i → y = .int j → wpAny (model X.prog X.w) X.A (binaryOp (bopOf o) u1 u2) (EP X pins σ Q) X.xe s := by
    intro i j e1 e2
    subst e1 e2
    have e1 : v = .int i := hx
    have e2 : w = .int j := hy
    subst e1 e2
    have hk : ∃ k, binI o i j = some k ∧ d = .int k ∧ m' = m := by
      unfold binD at hb
      cases hq : binI o i j with
      | none => cases o <;> simp [hq] at hb
      | some k =>
        refine ⟨k, rfl, ?_⟩
        cases o <;> (simp [hq] at hb; exact ⟨hb.1.symm, hb.2.symm⟩)
    obtain ⟨k, hk, rfl, rfl⟩ := hk
    have fin : Q (.int k) H := q A H (Ext.refl A H) R _ rfl
    cases o with
    | add => cases hk; exact op_add pins s σ H _ _ _ _ Q I ru rw_ ⟨i, j, rfl, rfl, fin⟩
    | sub => cases hk; exact op_sub pins s σ H _ _ _ _ Q I ru rw_ ⟨i, j, rfl, rfl, fin⟩
    | mul =>
      simp only [binI] at hk
      split at hk
      · cases hk; exact op_mul pins s σ H _ _ _ _ Q I ru rw_ ⟨i, j, rfl, rfl, by assumption, fin⟩
      · cases hk
    | fdiv =>
      simp only [binI] at hk
      split at hk
      · cases hk; exact op_fdiv pins s σ H _ _ _ _ Q I ru rw_ ⟨i, j, rfl, rfl, by assumption, fin⟩
      · cases hk
    | mod =>
      simp only [binI] at hk
      split at hk
      · cases hk; exact op_mod pins s σ H _ _ _ _ Q I ru rw_ ⟨i, j, rfl, rfl, by assumption, fin⟩
      · cases hk
    | pow =>
      simp only [binI] at hk
      split at hk
      · cases hk; exact op_pow pins s σ H _ _ _ _ Q I ru rw_ ⟨i, j, rfl, rfl, by assumption, fin⟩
      · cases hk
  unfold binD at hb
  split at hb
  · exact int_case _ _ rfl rfl
  · split at hb
    · rename_i a b hl
      cases hb
      have e1 : v = .str a := hx
      have e2 : w = .str b := hy
      subst e1 e2
      exact op_add_str pins s σ H _ _ _ _ Q I ru rw_ ⟨a, b, rfl, rfl, hl, q A H (Ext.refl A H) R _ rfl⟩
    · cases hb
  · split at hb
    · rename_i xs ys hl
      cases hb
      obtain ⟨a, vs, rfl, h1, h2⟩ := hx
      obtain ⟨b, ws, rfl, h3, h4⟩ := hy
      have l1 := h2.length
      have l2 := h4.length
      refine op_catA pins s σ H _ _ _ _ Q I ru rw_ ⟨a, b, vs, ws, rfl, rfl, h1, h3, by omega, fun e => ?_, fun _ e => ?_, fun _ _ p hp => ?_⟩
      · refine q A H (Ext.refl A H) R _ ⟨b, ws, rfl, h3, ?_⟩
        have := h2.append h4
        rw [e] at this
        exact this
      · refine q A H (Ext.refl A H) R _ ⟨a, vs, rfl, h1, ?_⟩
        have := h2.append h4
        rw [e, List.append_nil] at this
        exact this
      · have E := Ext.fresh (o := .tup (vs ++ ws)) R hp
        exact q A _ E (R.tupled hp) _ ⟨p, _, rfl, SqT.of upd_same, (h2.append h4).mono E⟩
    · cases hb
  · split at hb
    · rename_i na nb xs ys g1 g2
      split at hb
      · rename_i hl
        obtain ⟨a, rfl, h1⟩ := hx
        obtain ⟨b, rfl, h2⟩ := hy
        obtain ⟨vs, k1, k2⟩ := getL_at R g1 h1
        obtain ⟨ws, k3, k4⟩ := getL_at R g2 h2
        have l1 := k2.length
        have l2 := k4.length
        refine op_cat pins s σ H _ _ _ _ Q I ru rw_ ⟨a, b, vs, ws, rfl, rfl, k1, k3, by omega, fun p hp => ?_⟩
        unfold newL at hb
        split at hb
        · cases hb
          exact q _ _ (Ext.alloc R hp) (R.alloc hp (k2.append k4)) _ ⟨p, rfl, by rw [← R.len, List.getElem?_append_right (Nat.le_refl _), Nat.sub_self]; rfl⟩
        · cases hb
      · cases hb
    · cases hb
  · cases hb
end Mi
namespace Mi
open PySem PySem.Spec PyProof.Rows L2
section
variable {K : PySem.W.Frag} {A : List Addr} {H : Hp} {m : List SO}

theorem isEmpty_len {α β : Type} {xs : List α} {ys : List β} (h : xs.length = ys.length) : xs.isEmpty = ys.isEmpty := by
  cases xs <;> cases ys <;> simp_all
theorem seqOf_at (R : Rl K A H m) {x : D} {v : V} {xs : List D} (h : seqOf m x = some xs) (hx : RD K A H x v) : ∃ a vs, v = .ref a ∧ RDs K A H xs vs ∧ (SqL K H a vs ∨ SqT K H a vs) := by
  cases x with
  | tup ys => cases h; obtain ⟨a, vs, rfl, h1, h2⟩ := hx; exact ⟨a, vs, rfl, h2, .inr h1⟩
  | fz ys => cases h; obtain ⟨a, vs, rfl, h1, h2⟩ := hx; exact ⟨a, vs, rfl, h2, .inl h1.seq⟩
  | loc n =>
    obtain ⟨a, rfl, h1⟩ := hx
    obtain ⟨vs, k1, k2⟩ := getL_at R h h1
    exact ⟨a, vs, rfl, k2, .inl (SqL.of k1)⟩
  | non => cases h
  | bl b => cases h
  | int i => cases h
  | str z => cases h
theorem truth_ok (R : Rl K A H m) {x : D} {v : V} {b : Bool} (h : truth m x = some b) (hx : RD K A H x v) : TruV K v H b := by
  cases x with
  | non => cases hx; cases h; exact rfl
  | bl c => cases hx; cases h; exact rfl
  | int i => cases hx; cases h; exact rfl
  | str z =>
    cases hx
    simp only [truth] at h
    split at h
    · cases h; exact ⟨by assumption, rfl⟩
    · cases h
  | tup ys => obtain ⟨a, vs, rfl, h1, h2⟩ := hx; cases h; exact .inr (.inl ⟨vs, h1, by rw [isEmpty_len h2.length]⟩)
  | fz ys => obtain ⟨a, vs, rfl, h1, h2⟩ := hx; cases h; exact .inl ⟨vs, h1.seq, by rw [isEmpty_len h2.length]⟩
  | loc n =>
    obtain ⟨a, rfl, h1⟩ := hx
    simp only [truth] at h
    split at h
    · rename_i ys hm
      cases h
      obtain ⟨vs, k1, k2⟩ := getL_at (xs := ys) R (by unfold getL; rw [hm]) h1
      exact .inl ⟨vs, SqL.of k1, by rw [isEmpty_len k2.length]⟩
    · cases h

mutual
theorem pd0_dp : ∀ {x : D} {v : V} {p : PyData}, pd0 x = some p → RD K A H x v → Dp K H v p
  | .non, _, _, h, hx => by cases hx; cases h; exact .non
  | .bl b, _, _, h, hx => by cases hx; cases h; exact .bl b
  | .int i, _, _, h, hx => by cases hx; cases h; exact .int i
  | .str z, _, _, h, hx => by cases hx; cases h; exact .str z
  | .tup xs, _, _, h, hx => by
    obtain ⟨a, vs, rfl, h1, h2⟩ := hx
    simp only [pd0, Option.map_eq_some_iff] at h
    obtain ⟨ds, hd, rfl⟩ := h
    exact .tup h1 (pds0_dp hd h2)
  | .fz xs, _, _, h, hx => by
    obtain ⟨a, vs, rfl, h1, h2⟩ := hx
    simp only [pd0, Option.map_eq_some_iff] at h
    obtain ⟨ds, hd, rfl⟩ := h
    exact .lst h1.seq (pds0_dp hd h2)
  | .loc n, _, _, h, _ => by cases h
theorem pds0_dp : ∀ {xs : List D} {vs : List V} {ps : List PyData}, pds0 xs = some ps → RDs K A H xs vs → DpAll K H vs ps
  | [], _, _, h, hx => by cases hx; cases h; exact .nil
  | x :: xs, _, _, h, hx => by
    obtain ⟨v, r, rfl, h1, h2⟩ := hx
    simp only [pds0] at h
    split at h
    · rename_i a b ha hb
      cases h
      exact .cons (pd0_dp ha h1) (pds0_dp hb h2)
    · cases h
end
theorem pd_dp (R : Rl K A H m) {x : D} {v : V} {p : PyData} (h : pd m x = some p) (hx : RD K A H x v) : Dp K H v p := by
  cases x with
  | loc n =>
    obtain ⟨a, rfl, h1⟩ := hx
    simp only [pd] at h
    split at h
    · rename_i ys hm
      simp only [Option.map_eq_some_iff] at h
      obtain ⟨ds, hd, rfl⟩ := h
      obtain ⟨vs, k1, k2⟩ := getL_at (xs := ys) R (by unfold getL; rw [hm]) h1
      exact .lst (SqL.of k1) (pds0_dp hd k2)
    · cases h
  | non => exact pd0_dp h hx
  | bl b => exact pd0_dp h hx
  | int i => exact pd0_dp h hx
  | str z => exact pd0_dp h hx
  | tup xs => exact pd0_dp h hx
  | fz xs => exact pd0_dp h hx
theorem flat_ok {x : D} {v : V} (h : flatD x = true) (hx : RD K A H x v) : flatV v = true := by
  cases x <;> first | (cases hx; rfl) | (exact absurd h Bool.false_ne_true)
theorem eqF_ok {x y : D} {v w : V} (h : flatD x = true) (h' : flatD y = true) (hx : RD K A H x v) (hy : RD K A H y w) : eqV v w = eqF x y := by
  cases x <;> cases y <;> first | (cases hx; cases hy; rfl) | (exact absurd h Bool.false_ne_true) | (exact absurd h' Bool.false_ne_true)
theorem flats_ok : ∀ {xs : List D} {vs : List V}, xs.all flatD = true → RDs K A H xs vs → vs.all flatV = true
  | [], _, _, h => by cases h; rfl
  | x :: xs, _, h, hx => by
    obtain ⟨v, r, rfl, h1, h2⟩ := hx
    rw [List.all_cons, Bool.and_eq_true] at h ⊢
    exact ⟨flat_ok h.1 h1, flats_ok h.2 h2⟩
theorem inD_ok {x : D} {v : V} (hf : flatD x = true) (hx : RD K A H x v) : ∀ {xs : List D} {vs : List V}, xs.all flatD = true → RDs K A H xs vs → inV v vs = inD x xs
  | [], _, _, h => by cases h; rfl
  | y :: xs, _, h, hy => by
    obtain ⟨w, r, rfl, h1, h2⟩ := hy
    rw [List.all_cons, Bool.and_eq_true] at h
    show (eqV w v || inV v r) = (eqF y x || inD x xs)
    rw [eqF_ok h.1 hf h1 hx, inD_ok hf hx h.2 h2]
end
section
variable {X : Cx}
theorem isNon_ok {K : PySem.W.Frag} {A : List Addr} {H : Hp} {x : D} {v : V} (hx : RD K A H x v) : decide (v = .non) = isNon x := by
  cases x with
  | non => cases hx; rfl
  | bl b => cases hx; rfl
  | int i => cases hx; rfl
  | str z => cases hx; rfl
  | tup xs => obtain ⟨a, vs, rfl, _⟩ := hx; rfl
  | fz xs => obtain ⟨a, vs, rfl, _⟩ := hx; rfl
  | loc n => obtain ⟨a, rfl, _⟩ := hx; rfl

theorem op_cmp {k : Nat} (hr : Room k X.A) (o : Cop) : OpR X (compareOp (copOf o)) (r2B X.K (cmpM k o)) := by
  intro pins s σ H v w u1 u2 Q I ru rw_ h
  obtain ⟨A, m, x, y, b, m', R, hx, hy, hb, q⟩ := h
  unfold cmpM at hb
  split at hb
  · rename_i c hc
    cases hb
    have fin : Q (.bl b) H := q A H (Ext.refl A H) R
    have eqv_case : ∀ c, eqD k m x y = some c → ∃ p p' as bs, Reads s.heap u1 p as ∧ Reads s.heap u2 p' bs ∧ p.canLay0 = true ∧ p'.canLay0 = true ∧ X.A.units + min p.depth p'.depth < cLine ∧ PyData.eqv p p' = c := by
      intro c hc
      unfold eqD at hc
      split at hc
      · rename_i p p' hp hp'
        split at hc
        · rename_i hh
          cases hc
          obtain ⟨as, r1⟩ := Dp.reads I p v u1 (pd_dp R hp hx) ru
          obtain ⟨bs, r2⟩ := Dp.reads I p' w u2 (pd_dp R hp' hy) rw_
          have := hr.un
          exact ⟨p, p', as, bs, r1, r2, hh.1, hh.2.1, by omega, rfl⟩
        · cases hc
      · cases hc
    have in_case : ∀ neg : Bool, (∃ ys, seqOf m y = some ys ∧ flatD x = true ∧ ys.all flatD = true ∧ (if neg then !inD x ys else inD x ys) = b) → rIn X.K neg v w H Q := by
      intro neg ⟨ys, h1, h2, h3, h4⟩
      obtain ⟨a, vs, rfl, h5, h6⟩ := seqOf_at R h1 hy
      refine ⟨a, vs, rfl, h6, flat_ok h2 hx, flats_ok h3 h5, ?_⟩
      rw [inD_ok h2 hx h3 h5, h4]
      exact fin
    cases o with
    | eq =>
      obtain ⟨p, p', as, bs, r1, r2, k1, k2, k3, e⟩ := eqv_case _ hc
      exact SeqAt.compareEq_reads r1 r2 k1 k2 k3 ⟨.bl _, H, I, rfl, by rw [e]; exact fin⟩
    | ne =>
      simp only [cmpD, Option.map_eq_some_iff] at hc
      obtain ⟨c, hc, rfl⟩ := hc
      obtain ⟨p, p', as, bs, r1, r2, k1, k2, k3, e⟩ := eqv_case _ hc
      exact SeqAt.compareNe_reads r1 r2 k1 k2 k3 ⟨.bl _, H, I, rfl, by rw [e]; exact fin⟩
    | isN =>
      simp only [cmpD] at hc
      split at hc
      · rename_i hy'
        cases hc
        refine op_isN pins s σ H v w u1 u2 Q I ru rw_ ⟨?_, ?_⟩
        · have := isNon_ok hy; rw [hy'] at this; exact of_decide_eq_true this
        · rw [isNon_ok hx]; exact fin
      · cases hc
    | notN =>
      simp only [cmpD] at hc
      split at hc
      · rename_i hy'
        cases hc
        refine op_notN pins s σ H v w u1 u2 Q I ru rw_ ⟨?_, ?_⟩
        · have := isNon_ok hy; rw [hy'] at this; exact of_decide_eq_true this
        · rw [isNon_ok hx]; exact fin
      · cases hc
    | in_ =>
      simp only [cmpD] at hc
      split at hc
      · rename_i ys hs
        split at hc
        · rename_i hh
          exact op_in_seq pins s σ H v w u1 u2 Q I ru rw_ (in_case false ⟨ys, hs, hh.1, hh.2, by simpa using hc⟩)
        · cases hc
      · cases hc
    | notIn =>
      simp only [cmpD] at hc
      split at hc
      · rename_i ys hs
        split at hc
        · rename_i hh
          exact op_notIn_seq pins s σ H v w u1 u2 Q I ru rw_ (in_case true ⟨ys, hs, hh.1, hh.2, by simpa using hc⟩)
        · cases hc
      · cases hc
    | lt =>
      simp only [cmpD] at hc
      split at hc
      · cases hx; cases hy; cases hc; exact op_lt pins s σ H _ _ u1 u2 Q I ru rw_ ⟨_, _, rfl, rfl, fin⟩
      · cases hx; cases hy; cases hc; exact op_lt_str pins s σ H _ _ u1 u2 Q I ru rw_ ⟨_, _, rfl, rfl, fin⟩
      · cases hc
    | le =>
      simp only [cmpD] at hc
      split at hc
      · cases hx; cases hy; cases hc; exact op_le pins s σ H _ _ u1 u2 Q I ru rw_ ⟨_, _, rfl, rfl, fin⟩
      · cases hx; cases hy; cases hc; exact op_le_str pins s σ H _ _ u1 u2 Q I ru rw_ ⟨_, _, rfl, rfl, fin⟩
      · cases hc
    | gt =>
      simp only [cmpD] at hc
      split at hc
      · cases hx; cases hy; cases hc; exact op_gt pins s σ H _ _ u1 u2 Q I ru rw_ ⟨_, _, rfl, rfl, fin⟩
      · cases hx; cases hy; cases hc; exact op_gt_str pins s σ H _ _ u1 u2 Q I ru rw_ ⟨_, _, rfl, rfl, fin⟩
      · cases hc
    | ge =>
      simp only [cmpD] at hc
      split at hc
      · cases hx; cases hy; cases hc; exact op_ge pins s σ H _ _ u1 u2 Q I ru rw_ ⟨_, _, rfl, rfl, fin⟩
      · cases hx; cases hy; cases hc; exact op_ge_str pins s σ H _ _ u1 u2 Q I ru rw_ ⟨_, _, rfl, rfl, fin⟩
      · cases hc
  · cases hb

/-! ### items, slices -/
theorem atI_ok {K : PySem.W.Frag} {A : List Addr} {H : Hp} {xs : List D} {vs : List V} {i : Int} {d : D} (h : atI xs i = some d) (hx : RDs K A H xs vs) : ∃ v, atI vs i = some v ∧ RD K A H d v := by
  unfold atI at h ⊢
  rw [hx.length]
  cases e : ixN xs.length i with
  | none => rw [e] at h; cases h
  | some j =>
    rw [e] at h
    exact hx.get h
theorem ix_D : IxR X (r2 X.K idxD) := by
  intro value slice pins s σ H v w u1 u2 Q I ru rw_ h hs
  obtain ⟨A, m, x, y, d, m', R, hx, hy, hb, q⟩ := h
  unfold idxD at hb
  split at hb
  · rename_i i
    cases hy
    split at hb
    · rename_i z
      cases hx
      split at hb
      · rename_i hz
        split at hb
        · rename_i c hc
          cases hb
          exact ix_str value slice pins s σ H _ _ u1 u2 Q I ru rw_ ⟨z, i, c, rfl, rfl, hz, hc, q A H (Ext.refl A H) R _ rfl⟩ hs
        · cases hb
      · cases hb
    · split at hb
      · rename_i xs hxs
        split at hb
        · rename_i d' hd
          cases hb
          obtain ⟨a, vs, rfl, h5, h6⟩ := seqOf_at R hxs hx
          obtain ⟨e, he, hr⟩ := atI_ok hd h5
          have fin := q A H (Ext.refl A H) R e hr
          rcases h6 with h6 | h6
          · exact ix_list value slice pins s σ H _ _ u1 u2 Q I ru rw_ ⟨a, vs, i, e, rfl, rfl, h6, he, fin⟩ hs
          · exact ix_tup value slice pins s σ H _ _ u1 u2 Q I ru rw_ ⟨a, vs, i, e, rfl, rfl, h6, he, fin⟩ hs
        · cases hb
      · cases hb
  · cases hb
theorem cut_ok {K : PySem.W.Frag} {A : List Addr} {H : Hp} {xs : List D} {vs : List V} (lo hi : Option Int) (hx : RDs K A H xs vs) : RDs K A H (cut xs lo hi) (cutV vs lo hi) := by
  unfold cut cutV
  rw [hx.length]
  exact (hx.drop _).take _
def r1 (K : PySem.W.Frag) (f : D → M D) : V → Hp → VK → Prop := fun v H Q => ∃ A m x d m', Rl K A H m ∧ RD K A H x v ∧ f x m = some (d, m') ∧ ∀ A' H', Ext A H A' H' → Rl K A' H' m' → ∀ u, RD K A' H' d u → Q u H'
theorem alloc_fin {K : PySem.W.Frag} {A : List Addr} {H : Hp} {m : List SO} {xs : List D} {vs : List V} {Q : VK} (R : Rl K A H m) (hx : RDs K A H xs vs)
    (q : ∀ A' H', Ext A H A' H' → Rl K A' H' (m ++ [.lst xs]) → ∀ u, RD K A' H' (.loc m.length) u → Q u H') {p : Addr} (hp : H p = none) : Q (.ref p) (upd H p (.lst vs)) :=
  q _ _ (Ext.alloc R hp) (R.alloc hp hx) _ ⟨p, rfl, by rw [← R.len, List.getElem?_append_right (Nat.le_refl _), Nat.sub_self]; rfl⟩
theorem tup_fin {K : PySem.W.Frag} {A : List Addr} {H : Hp} {m : List SO} {xs : List D} {vs : List V} {Q : VK} (R : Rl K A H m) (hx : RDs K A H xs vs)
    (q : ∀ A' H', Ext A H A' H' → Rl K A' H' m → ∀ u, RD K A' H' (.tup xs) u → Q u H') {p : Addr} (hp : H p = none) : Q (.ref p) (upd H p (.tup vs)) :=
  q A _ (Ext.fresh R hp) (R.tupled hp) _ ⟨p, vs, rfl, SqT.of upd_same, hx.mono (Ext.fresh R hp)⟩
theorem sl_D : SlR X (fun v lo hi H Q => r1 X.K (slcD lo hi) v H Q) := by
  intro pins s σ H v u vl vu lo hi sl Q I ru hs pl pu h
  obtain ⟨A, m, x, d, m', R, hx, hb, q⟩ := h
  unfold slcD at hb
  split at hb
  · rename_i z
    cases hx
    split at hb
    · rename_i hz
      cases hb
      exact sl_str pins s σ H _ u vl vu lo hi sl Q I ru hs pl pu ⟨z, rfl, hz, q A H (Ext.refl A H) R _ rfl⟩
    · cases hb
  · cases hb
    obtain ⟨a, vs, rfl, h1, h2⟩ := hx
    refine sl_tupA pins s σ H _ u vl vu lo hi sl Q I ru hs pl pu ⟨a, vs, rfl, h1, fun hw => ?_, fun _ p hp => ?_⟩
    · refine q A H (Ext.refl A H) R _ ⟨a, vs, rfl, h1, ?_⟩
      have := cut_ok lo hi h2
      have e : cutV vs lo hi = vs := by
        unfold cutV
        rw [hw.1, hw.2, List.drop_zero, Nat.sub_zero, List.take_length]
      rw [e] at this
      exact this
    · exact tup_fin R (cut_ok lo hi h2) q hp
  · cases hb
    obtain ⟨a, vs, rfl, h1, h2⟩ := hx
    exact sl_list pins s σ H _ u vl vu lo hi sl Q I ru hs pl pu ⟨a, vs, rfl, h1.seq, fun p hp => alloc_fin R (cut_ok lo hi h2) q hp⟩
  · split at hb
    · rename_i n xs hg
      cases hb
      obtain ⟨a, rfl, h1⟩ := hx
      obtain ⟨vs, k1, k2⟩ := getL_at R hg h1
      exact sl_list pins s σ H _ u vl vu lo hi sl Q I ru hs pl pu ⟨a, vs, rfl, SqL.of k1, fun p hp => alloc_fin R (cut_ok lo hi k2) q hp⟩
    · cases hb
  · cases hb
end
end Mi
namespace Mi
open PySem PySem.Spec PyProof.Rows L2
variable {X : Cx}

/-! ### built-ins, methods -/
def rC (K : PySem.W.Frag) (f : List D → M D) : List V → Hp → VK → Prop := fun vs H Q => ∃ A m ds d m', Rl K A H m ∧ RDs K A H ds vs ∧ f ds m = some (d, m') ∧ ∀ A' H', Ext A H A' H' → Rl K A' H' m' → ∀ u, RD K A' H' d u → Q u H'
theorem rds1 {K : PySem.W.Frag} {A : List Addr} {H : Hp} {x : D} {vs : List V} (h : RDs K A H [x] vs) : ∃ v, vs = [v] ∧ RD K A H x v := by
  obtain ⟨v, r, rfl, h1, h2⟩ := h
  cases h2
  exact ⟨v, rfl, h1⟩
theorem rds2 {K : PySem.W.Frag} {A : List Addr} {H : Hp} {x y : D} {vs : List V} (h : RDs K A H [x, y] vs) : ∃ v w, vs = [v, w] ∧ RD K A H x v ∧ RD K A H y w := by
  obtain ⟨v, r, rfl, h1, h2⟩ := h
  obtain ⟨w, rfl, h3⟩ := rds1 h2
  exact ⟨v, w, rfl, h1, h3⟩
def bltV : Blt → Value
  | .len => .builtin "len" | .int => .type "int" | .tuple => .type "tuple" | .list => .type "list" | .min => .builtin "min"
def bltN : Blt → Str
  | .len => "len" | .int => "int" | .tuple => "tuple" | .list => "list" | .min => "min"
theorem seq_len {K : PySem.W.Frag} {A : List Addr} {H : Hp} {m : List SO} (R : Rl K A H m) {x : D} {v : V} {xs : List D} (h : seqOf m x = some xs) (hx : RD K A H x v) : ∃ a vs, v = .ref a ∧ vs.length = xs.length ∧ (SqL K H a vs ∨ SqT K H a vs) := by
  obtain ⟨a, vs, e, h1, h2⟩ := seqOf_at R h hx
  exact ⟨a, vs, e, h1.length, h2⟩
theorem call_blt (hc : X.calm = true) (b : Blt) : CallR X (bltV b) (rC X.K (bltD b)) := by
  intro pins s σ H vs us Q I r h
  obtain ⟨A, m, ds, d, m', R, hx, hb, q⟩ := h
  unfold bltD at hb
  split at hb
  · split at hb
    · cases hb
      obtain ⟨v, rfl, h1⟩ := rds1 hx
      cases h1
      exact call_len pins s σ H _ us Q I r ⟨_, _, rfl, ⟨by assumption, rfl⟩, q A H (Ext.refl A H) R _ rfl⟩
    · cases hb
  · split at hb
    · rename_i ys hs
      cases hb
      obtain ⟨v, rfl, h1⟩ := rds1 hx
      obtain ⟨a, ws, rfl, e, h2⟩ := seq_len R hs h1
      exact call_len_seq pins s σ H _ us Q I r ⟨a, ws, rfl, h2, by rw [e]; exact q A H (Ext.refl A H) R _ rfl⟩
    · cases hb
  · cases hb
    obtain ⟨v, rfl, h1⟩ := rds1 hx
    cases h1
    exact call_int1 pins s σ H _ us Q I r (.inl ⟨_, rfl, q A H (Ext.refl A H) R _ rfl⟩)
  · cases hb
    obtain ⟨v, rfl, h1⟩ := rds1 hx
    cases h1
    exact call_int1 pins s σ H _ us Q I r (.inr ⟨_, rfl, q A H (Ext.refl A H) R _ rfl⟩)
  · cases hb
    obtain ⟨v, rfl, a, ws, rfl, h1, h2⟩ := rds1 hx
    exact call_tuple_of pins s σ H _ us Q I r ⟨a, ws, rfl, .inr ⟨h1, q A H (Ext.refl A H) R _ ⟨a, ws, rfl, h1, h2⟩⟩⟩
  · split at hb
    · rename_i ys hs
      cases hb
      obtain ⟨v, rfl, h1⟩ := rds1 hx
      obtain ⟨a, ws, rfl, k1, k2⟩ := seqOf_at R hs h1
      rcases k2 with k2 | k2
      · exact call_tuple_of pins s σ H _ us Q I r ⟨a, ws, rfl, .inl ⟨k2, fun p hp => tup_fin R k1 q hp⟩⟩
      · exact call_tuple_of pins s σ H _ us Q I r ⟨a, ws, rfl, .inr ⟨k2, q A H (Ext.refl A H) R _ ⟨a, ws, rfl, k2, k1⟩⟩⟩
    · cases hb
  · split at hb
    · rename_i ys hs
      cases hb
      obtain ⟨v, rfl, h1⟩ := rds1 hx
      obtain ⟨a, ws, rfl, k1, k2⟩ := seqOf_at R hs h1
      exact call_list_of pins s σ H _ us Q I r ⟨a, ws, rfl, k2, fun p hp => alloc_fin R k1 q hp⟩
    · cases hb
  · cases hb
    obtain ⟨v, w, rfl, h1, h2⟩ := rds2 hx
    cases h1
    cases h2
    exact call_min2 hc pins s σ H _ us Q I r ⟨_, _, rfl, q A H (Ext.refl A H) R _ rfl⟩
  · cases hb

def rMt (K : PySem.W.Frag) (f : D → List D → M D) : V → List V → Hp → VK → Prop := fun v vs H Q => ∃ A m x ds d m', Rl K A H m ∧ RD K A H x v ∧ RDs K A H ds vs ∧ f x ds m = some (d, m') ∧ ∀ A' H', Ext A H A' H' → Rl K A' H' m' → ∀ u, RD K A' H' d u → Q u H'
theorem inv_append {x : D} {ds : List D} {m m' : List SO} {d : D} (h : methD .append x ds m = some (d, m')) : ∃ n y xs, x = .loc n ∧ ds = [y] ∧ getL m n = some xs ∧ xs.length < sizeLine ∧ d = .non ∧ m' = m.set n (.lst (xs ++ [y])) := by
  cases x with
  | loc n =>
    cases ds with
    | nil => cases h
    | cons y r =>
      cases r with
      | cons _ _ => cases h
      | nil =>
        simp only [methD] at h
        split at h
        · split at h
          · cases h; exact ⟨n, y, _, rfl, rfl, by assumption, by assumption, rfl, rfl⟩
          · cases h
        · cases h
  | _ => cases h
theorem inv_pop {x : D} {ds : List D} {m m' : List SO} {d : D} (h : methD .pop x ds m = some (d, m')) : ∃ n xs, x = .loc n ∧ ds = [] ∧ getL m n = some xs ∧ xs[xs.length - 1]? = some d ∧ m' = m.set n (.lst xs.dropLast) := by
  cases x with
  | loc n =>
    cases ds with
    | cons y r => cases h
    | nil =>
      simp only [methD] at h
      split at h
      · split at h
        · cases h; exact ⟨n, _, rfl, rfl, by assumption, by assumption, rfl⟩
        · cases h
      · cases h
  | _ => cases ds <;> cases h
theorem inv_extend {x : D} {ds : List D} {m m' : List SO} {d : D} (h : methD .extend x ds m = some (d, m')) : ∃ n xs ys, x = .loc n ∧ (ds = [.tup ys] ∨ ∃ j, ds = [.loc j] ∧ getL m j = some ys) ∧ getL m n = some xs ∧ xs.length + ys.length ≤ sizeLine ∧ d = .non ∧ m' = m.set n (.lst (xs ++ ys)) := by
  cases x with
  | loc n =>
    cases ds with
    | nil => cases h
    | cons y r =>
      cases r with
      | cons _ _ => cases y <;> cases h
      | nil =>
        cases y with
        | tup ys =>
          simp only [methD] at h
          split at h
          · split at h
            · cases h; exact ⟨n, _, ys, rfl, .inl rfl, by assumption, by assumption, rfl, rfl⟩
            · cases h
          · cases h
        | loc j =>
          simp only [methD] at h
          split at h
          · split at h
            · cases h; exact ⟨n, _, _, rfl, .inr ⟨j, rfl, by assumption⟩, by assumption, by assumption, rfl, rfl⟩
            · cases h
          · cases h
        | _ => cases h
  | _ => cases ds with
    | nil => cases h
    | cons y r => cases r <;> cases y <;> cases h
theorem inv_join {x : D} {ds : List D} {m m' : List SO} {d : D} (h : methD .join x ds m = some (d, m')) : ∃ a y ys zs, x = .str a ∧ ds = [y] ∧ seqOf m y = some ys ∧ strsOf ys = some zs ∧ (zs.map (·.length)).sum + zs.length * a.length ≤ 16777216 ∧ d = .str (Txt.join a zs) ∧ m' = m := by
  cases x with
  | str a =>
    cases ds with
    | nil => cases h
    | cons y r =>
      cases r with
      | cons _ _ => cases h
      | nil =>
        simp only [methD] at h
        split at h
        · split at h
          · split at h
            · cases h; exact ⟨a, y, _, _, rfl, rfl, by assumption, by assumption, by assumption, rfl, rfl⟩
            · cases h
          · cases h
        · cases h
  | _ => cases ds with
    | nil => cases h
    | cons y r => cases r <;> cases h
theorem mt_D_append : MtR X "list.append" (rMt X.K (methD .append)) := by
  intro pins s σ H v vs u us Q I r1 r2 h
  obtain ⟨A, m, x, ds, d, m', R, hx, hds, hb, q⟩ := h
  obtain ⟨n, y, xs, rfl, rfl, hg, hz, rfl, rfl⟩ := inv_append hb
  obtain ⟨a, rfl, h1⟩ := hx
  obtain ⟨w, rfl, h2⟩ := rds1 hds
  obtain ⟨ws, k1, k2⟩ := getL_at R hg h1
  exact mt_append pins s σ H _ _ u us Q I r1 r2 ⟨a, ws, w, rfl, rfl, k1, by rw [k2.length]; exact hz,
    q A _ (Ext.write R (List.mem_of_getElem? h1) _) (R.write h1 (k2.append (RDs.one h2))) _ rfl⟩
theorem mt_D_pop : MtR X "list.pop" (rMt X.K (methD .pop)) := by
  intro pins s σ H v vs u us Q I r1 r2 h
  obtain ⟨A, m, x, ds, d, m', R, hx, hds, hb, q⟩ := h
  obtain ⟨n, xs, rfl, rfl, hg, hy, rfl⟩ := inv_pop hb
  obtain ⟨a, rfl, h1⟩ := hx
  cases hds
  obtain ⟨ws, k1, k2⟩ := getL_at R hg h1
  obtain ⟨w, h3, h4⟩ := k2.get hy
  refine mt_pop pins s σ H _ _ u us Q I r1 r2 ⟨a, ws, w, rfl, rfl, k1, by rw [k2.length]; exact h3, ?_⟩
  have E := Ext.write R (List.mem_of_getElem? h1) ws.dropLast
  exact q A _ E (R.write h1 k2.dropLast) _ (h4.mono E)

/-- a list is lengthened by a tuple -/
theorem extend_tup {l b : Addr} {xs ys : Array Value} {n k : Nat} {dd : Option Addr} {sl : Array (Option Value)} (h0 : (!xs.isEmpty && Builtin.List.listTooLong (xs.size + ys.size)) = false) (h1 : xs.size ≤ sizeLine) (h2 : xs.size + ys.size ≤ sizeLine + 1) :
    Meets (Builtin.«list.extend» ⟨[.ref l, .ref b], []⟩) (fun _ R s => s.heap.get? l = some ⟨.type "list", none, .seq xs n, #[]⟩ ∧ s.heap.get? b = some ⟨.type "tuple", dd, .seq ys k, sl⟩ ∧ R (.ok (.ret Value.none)) { s with heap := s.heap.update l (Obj.mapSeq fun x => x ++ ys), toks := s.toks }) := by
  refine .of_wp fun _ _ _ _ ⟨_, _, _, _, _⟩ ⟨hl, hb, h⟩ => ?_
  have g0 : ¬(!xs.isEmpty && Builtin.List.listTooLong (xs.size + ys.size)) = true := by rw [h0]; exact Bool.false_ne_true
  have g2 : (xs ++ ys).size ≤ sizeLine + 1 := by rw [Array.size_append]; exact h2
  have f1 := AutoSeq1.idx_int; have f2 := AutoSeq1.sub_tuple_tuple; have f3 := AutoSeq1.sub_list_list; have f4 := AutoSeq1.sub_tuple_list; have f5 := AutoSeq1.sub_list_tuple
  wp_walk using (wpAny_updateSeq hl rfl (hz := h1) (_hz' := g2)), wpAny_loadPart' hl, wpAny_loadPart' hb
  exact ⟨_, rfl, h⟩
def rExtendT (K : PySem.W.Frag) : V → List V → Hp → VK → Prop := fun x vs H Q => ∃ l b xs zs, x = .ref l ∧ vs = [.ref b] ∧ H l = some (.lst xs) ∧ SqT K H b zs ∧ xs.length + zs.length ≤ sizeLine ∧ Q .non (upd H l (.lst (xs ++ zs)))
theorem mt_extendT : MtM X "list.extend" (rExtendT X.K) := by
  intro pins s σ H x vs v us Q I rx rv ⟨l, b, xs, zs, e1, e2, hl, hb, hz, q⟩
  subst e1 e2
  cases rx
  obtain ⟨_, rfl, rb⟩ := rv.one
  cases rb
  obtain ⟨_, its, n, r1, _, gl⟩ := I.lstM hl
  obtain ⟨jts, r2, ⟨⟨cls, dd, data, sl⟩, gb, hc, k, hd⟩, _⟩ := I.tuple hb
  simp only at hc hd
  subst hc hd
  have n1 := r1.length
  have n2 := r2.length
  have s1 : its.toArray.size = its.length := List.size_toArray
  have s2 : jts.toArray.size = jts.length := List.size_toArray
  have few : its.toArray.size + jts.toArray.size ≤ sizeLine := by omega
  exact call_meets F.slot_list_extend ⟨_, gl, rfl⟩ F.entry_list_extend (F.args_list_extend_2 _ _) (extend_tup (by rw [notLongL few, Bool.and_false]) (by omega) (by omega)) ⟨gl, gb, .non, _, I.lset (its' := its ++ jts) hl gl (by simp) (r1.append r2) (by rw [List.length_append]; exact hz), rfl, q⟩
theorem mt_D_extend : MtR X "list.extend" (rMt X.K (methD .extend)) := by
  intro pins s σ H v vs u us Q I r1 r2 h
  obtain ⟨A, m, x, ds, d, m', R, hx, hds, hb, q⟩ := h
  obtain ⟨n, xs, ys, rfl, hd, hg, hz, rfl, rfl⟩ := inv_extend hb
  obtain ⟨a, rfl, h1⟩ := hx
  obtain ⟨ws, k1, k2⟩ := getL_at R hg h1
  have l1 := k2.length
  rcases hd with rfl | ⟨j, rfl, hj⟩
  · obtain ⟨w, rfl, b, zs, rfl, h2, h3⟩ := rds1 hds
    have l2 := h3.length
    exact mt_extendT pins s σ H _ _ u us Q I r1 r2 ⟨a, b, ws, zs, rfl, rfl, k1, h2, by omega,
      q A _ (Ext.write R (List.mem_of_getElem? h1) _) (R.write h1 (k2.append h3)) _ rfl⟩
  · obtain ⟨w, rfl, b, rfl, h2⟩ := rds1 hds
    obtain ⟨zs, k3, k4⟩ := getL_at R hj h2
    have l2 := k4.length
    exact mt_extend pins s σ H _ _ u us Q I r1 r2 ⟨a, b, ws, zs, rfl, rfl, k1, k3, by omega,
      q A _ (Ext.write R (List.mem_of_getElem? h1) _) (R.write h1 (k2.append k4)) _ rfl⟩
theorem strs_ok {K : PySem.W.Frag} {A : List Addr} {H : Hp} : ∀ {xs : List D} {zs : List Str} {vs : List V}, strsOf xs = some zs → RDs K A H xs vs → vs = zs.map V.str
  | [], zs, vs, h, hx => by cases h; cases hx; rfl
  | .str x :: xs, zs, vs, h, hx => by
    simp only [strsOf, Option.map_eq_some_iff] at h
    obtain ⟨ws, h1, rfl⟩ := h
    obtain ⟨v, r, rfl, h2, h3⟩ := hx
    cases h2
    rw [strs_ok h1 h3]
    rfl
  | .non :: _, _, _, h, _ => by cases h
  | .bl _ :: _, _, _, h, _ => by cases h
  | .int _ :: _, _, _, h, _ => by cases h
  | .tup _ :: _, _, _, h, _ => by cases h
  | .loc _ :: _, _, _, h, _ => by cases h
  | .fz _ :: _, _, _, h, _ => by cases h
theorem mt_D_join : MtR X "str.join" (rMt X.K (methD .join)) := by
  intro pins s σ H v vs u us Q I r1 r2 h
  obtain ⟨A, m, x, ds, d, m', R, hx, hds, hb, q⟩ := h
  obtain ⟨a, y, ys, zs, rfl, rfl, hs, hz, hl, rfl, rfl⟩ := inv_join hb
  cases hx
  obtain ⟨w, rfl, h1⟩ := rds1 hds
  obtain ⟨b, ws, rfl, h2, h3⟩ := seqOf_at R hs h1
  have e := strs_ok hz h2
  subst e
  exact mt_join pins s σ H _ _ u us Q I r1 r2 ⟨a, b, zs, rfl, rfl, h3, hl, q A H (Ext.refl A H) R _ rfl⟩

/-! ### isinstance -/
def tyD : D → String
  | .non => "NoneType" | .bl _ => "bool" | .int _ => "int" | .str _ => "str" | .tup _ => "tuple" | .loc _ => "list" | .fz _ => "list"
theorem isi_ok {K : PySem.W.Frag} {A : List Addr} {H : Hp} {m : List SO} (R : Rl K A H m) {x : D} {v : V} (hx : RD K A H x v) : TyX K H v (.type (tyD x)) := by
  cases x with
  | non => cases hx; exact .base .non
  | bl b => cases hx; exact .base (.bl b)
  | int i => cases hx; exact .base (.int i)
  | str z => cases hx; exact .base (.str z)
  | tup xs =>
    obtain ⟨a, vs, rfl, h1, h2⟩ := hx
    rcases h1 with (h1 | ⟨o, h1⟩) | ⟨o, its, n, h1, h3, _⟩
    · exact .base (.tup h1)
    · exact .fTuple h1
    · exact .kTuple h1 h3
  | fz xs =>
    obtain ⟨a, vs, rfl, h1, h2⟩ := hx
    rcases h1 with ⟨o, h1⟩ | ⟨o, its, n, h1, h3, _⟩
    · exact .base (.frz h1)
    · exact .kList h1 h3
  | loc n =>
    obtain ⟨a, rfl, h1⟩ := hx
    obtain ⟨ws, k1⟩ := R.mem (List.mem_of_getElem? h1)
    exact .base (.lst k1)
def tyN (t : String) : Bool := ["int", "bool", "str", "tuple", "list"].contains t
theorem isi_kit {x : D} {t : String} {b : Bool} (ht : tyN t = true) (h : isiD x t = some b) : kitB (tyD x) t = some b := by
  have ht' : t = "int" ∨ t = "bool" ∨ t = "str" ∨ t = "tuple" ∨ t = "list" := by
    simpa [tyN] using ht
  cases x <;> rcases ht' with rfl | rfl | rfl | rfl | rfl <;> (cases h; simp only [tyD]; decide +kernel)
end Mi
/-! t[::-1], t a tuple -/
namespace Mi
open PySem PySem.Spec PyProof.Rows L2 HT
section
variable {pg : Program} {wo : World} {Ar : Around} {Er : Value → Shared → Prop} {sh : Shared}
theorem places_rev (n : Nat) : Builtin.Slice.slicePlaces ((n : Int) - 1) (-1) (-1) = n := by
  unfold Builtin.Slice.slicePlaces; rw [if_neg (by decide)]
  by_cases hn : 0 < n
  · rw [if_pos (by omega), show (- -1 : Int) = 1 by decide, Int.ediv_one]; omega
  · rw [if_neg (by omega)]; omega
theorem applied_rev {z : Addr} {p q r : Value} {n : Nat} {Q : Int × Int × Nat → Shared → Prop} (hz : sh.heap.IsSliceOf z p q r) (hp : IsPart p none) (hq : IsPart q none) (hr : IsPart r (some (-1)))
    (h : Q ((n : Int) - 1, -1, n) sh) : wpAny (model pg wo) Ar (Builtin.Slice.sliceApplied (.ref z) (pure (n : Int))) Q Er sh := by
  obtain ⟨oz, g1, g2, g3⟩ := hz
  unfold Builtin.Slice.sliceApplied Builtin.Slice.sliceFields; refine wpAny_bind (wpAny_bind (wpAny_field g1 g3 (x := p) rfl (wpAny_bind (wpAny_field g1 g3 (x := q) rfl (wpAny_bind (wpAny_field g1 g3 (x := r) rfl (wpAny_pure ?_)))))))
  refine wpAny_bind (slicePart_ hr ?_)
  show wpAny _ _ (if ((-1 : Int) == 0) = true then _ else _) _ _ sh
  rw [if_neg (show ¬ ((-1 : Int) == 0) = true by decide)]
  refine wpAny_bind (slicePart_ hp (wpAny_bind (slicePart_ hq (wpAny_bind (wpAny_pure (show wpAny _ _ (pure ((n : Int) - 1, (-1 : Int), Builtin.Slice.slicePlaces ((n : Int) - 1) (-1) (-1))) _ _ sh from ?_))))))
  rw [places_rev]; exact wpAny_pure h
theorem fm_congr {α β : Type} {f g : α → Option β} : ∀ {l : List α}, (∀ x ∈ l, f x = g x) → l.filterMap f = l.filterMap g
  | [], _ => rfl
  | x :: l, h => by
    rw [List.filterMap_cons, List.filterMap_cons, h x List.mem_cons_self, fm_congr fun y hy => h y (List.mem_cons_of_mem _ hy)]
theorem pick_rev (xs : Array Value) : ((List.range xs.size).filterMap fun (m : Nat) => xs[(((xs.size : Int) - 1) + (m : Int) * -1).toNat]?).toArray = xs.toList.reverse.toArray := by
  have e : ((List.range xs.size).filterMap fun (m : Nat) => xs[(((xs.size : Int) - 1) + (m : Int) * -1).toNat]?) = ((List.range xs.size).map fun k => xs.size - 1 - k).filterMap (xs[·]?) := by
    rw [List.filterMap_map]
    apply fm_congr
    intro m hm
    have := List.mem_range.mp hm
    have e : (((xs.size : Int) - 1) + (m : Int) * -1).toNat = xs.size - 1 - m := by omega
    show xs[_]? = xs[_]?
    rw [e]
  rw [e, PySem.W.krv_range, List.filterMap_reverse, PySem.W.krv_all]
theorem tuple_rev {t z : Addr} {its : Array Value} {p q r : Value} {Q : Value → Shared → Prop} (ht : IsTup sh.heap t its) (hz : sh.heap.IsSliceOf z p q r) (hp : IsPart p none) (hq : IsPart q none) (hr : IsPart r (some (-1))) (hl : its.size ≤ sizeLine)
    (h : Q (.ref sh.heap.objs.size) { sh with heap := sh.heap.push { cls := .type "tuple", data := .seq its.toList.reverse.toArray } }) : wpAny (model pg wo) Ar (getItem (.ref t) (.ref z)) Q Er sh := by
  have fits : sizeOk (.seq its.toList.reverse.toArray) := by show its.toList.reverse.toArray.size ≤ sizeLine; simpa using hl
  have isSl : sh.TypeIs (.ref z) "slice" := let ⟨oz, g1, g2, _⟩ := hz; ⟨oz, g1, g2⟩
  unfold getItem; (try with_reducible refine wpAny_holding ?_); (first | refine wpAny_bind (wpAny_pure ?_) | skip)
  refine wpAny_bind (wpAny_sequenceKey ht.typeIs (by decide) (wpAny_bind (wpAny_callSpecial?_slot (name := Str.ofString "__getitem__") ht.typeIs slot_tuple_getitem (wpAny_call_entry slot_tuple_getitem ht.typeIs entry_tuple_getitem (show wpAny _ _ (Builtin.Tuple.tupleItemsOf (.ref t) >>= _) _ _ sh from ?_) (args_tuple_getitem _ _)))))
  refine wpAny_bind (tupleItemsOf_ ht (wpAny_bind (wpAny_typeOf isSl ?_)))
  rw [if_pos (by decide)]
  refine wpAny_bind (applied_rev hz hp hq hr (show wpAny _ _ (if (((its.size : Int) - 1) == 0 && (-1 : Int) == 1 && its.size == its.size) = true then _ else _) _ _ sh from ?_))
  rw [if_neg (by simp), pick_rev]
  first | exact wpAny_bind (m := Builtin.Tuple.tupleExact _) (wpAny_newObj_type (wpAny_pure ⟨_, rfl, wpAny_pure h⟩) fits) | exact wpAny_bind (m := Builtin.Tuple.tupleExact _) (wpAny_newObj_type (wpAny_bind (wpAny_pure (wpAny_pure ⟨_, rfl, wpAny_pure h⟩))) fits) | exact wpAny_bind (wpAny_bind (m := Builtin.Tuple.tupleExact _) (wpAny_newObj_type (wpAny_pure (wpAny_pure ⟨_, rfl, wpAny_pure h⟩)) fits)) | exact wpAny_bind (wpAny_bind (m := Builtin.Tuple.tupleExact _) (wpAny_newObj_type (wpAny_pure ⟨_, rfl, wpAny_pure h⟩) fits))
end
variable {X : Cx}
def tRevT (K : PySem.W.Frag) (te : TE) : TE := fun σ H Q => te σ H fun x H1 => ∃ a xs, x = .ref a ∧ SqT K H1 a xs ∧ ∀ p, H1 p = none → Q (.ref p) (upd H1 p (.tup xs.reverse))
theorem pe_revT {e : Expr} {te : TE} {k : Nat} {p1 p2 p3 pos : Pos} (he : PE X e te) : PE X (.Subscript e (.Slice none none (some (.UnaryOp .USub (.Constant (.int 1) k p1) p2)) p3) pos) (tRevT X.K te) := by
  have pm : PO X (some (.UnaryOp .USub (.Constant (.int 1) k p1) p2)) (tPart (tUn (rU fun i => .int (-i)) (tC (.int 1)))) := po_some (pe_un un_neg pe_int)
  refine ⟨fun pins s σ H Q I h => Subscript_ (thn (he.run pins s σ H _ I h) fun v s1 ⟨x, H1, I1, r1, q1⟩ => ?_)⟩
  obtain ⟨a, xs, rfl, hx, q⟩ := q1
  cases r1
  refine wpAny_Slice (thn (po_none.run pins s1 σ H1 (fun o H2 => o = none ∧ H2 = H1) I1 ⟨rfl, rfl⟩) fun va s2 ⟨oa, Ha, I2, pa, ea, fa⟩ => ?_)
  subst ea fa
  refine thn (po_none.run pins s2 σ Ha (fun o H3 => o = none ∧ H3 = Ha) I2 ⟨rfl, rfl⟩) fun vb s3 ⟨ob, Hb, I3, pb, eb, fb⟩ => ?_
  subst eb fb
  refine thn (pm.run pins s3 σ Hb (fun o H4 => o = some (-1) ∧ H4 = Hb) I3 ⟨1, rfl, -1, rfl, rfl, rfl⟩) fun vc s4 ⟨oc, Hc, I4, pc, ec, fc⟩ => ?_
  subst ec fc
  have J : L2.Inv X pins σ Hc { s4 with heap := s4.heap.push { cls := .type "slice", data := .fields #[va, vb, vc] } } := I4.kept (t' := s4.toks) fun _ _ => Heap.get?_push_of_some _
  obtain ⟨its, rv, ht, hz⟩ := J.tuple hx
  refine (show wpAny (model X.prog X.w) X.A (subscriptTail e (.Slice none none (some (.UnaryOp .USub (.Constant (.int 1) k p1) p2)) p3) (.ref a) (.ref s4.heap.objs.size)) (EP X pins σ Q) X.xe { s4 with heap := s4.heap.push { cls := .type "slice", data := .fields #[va, vb, vc] } } from ?_)
  refine tail_any (ops := [.ref a, .ref s4.heap.objs.size]) ht.typeIs slot_tuple_getitem.lookup (tuple_rev ht (Heap.IsSliceOf.new _ va vb vc) pa pb pc (by rw [List.size_toArray, ← rv.length]; exact hz) ?_) (by with_unfolding_all rfl)
  have L := J.laid (t' := s4.toks) (o := .tup xs.reverse) (h' := (s4.heap.push { cls := .type "slice", data := .fields #[va, vb, vc] }).push { cls := .type "tuple", data := .seq its.reverse.toArray }) (fun _ _ => Heap.get?_push_of_some _) (Nat.le_refl _) ⟨by rw [List.length_reverse]; exact hz, _, rv.reverse, IsTup.new _ _⟩
  exact ⟨.ref _, _, L, rfl, q _ (J.hok.fresh (Nat.le_refl _))⟩
end Mi
namespace Mi
open PySem PySem.Spec PyProof.Rows L2

mutual
def eqbD : D → D → Bool
  | .non, .non => true
  | .bl a, .bl b => a == b
  | .int a, .int b => a == b
  | .str a, .str b => a == b
  | .tup a, .tup b => eqbDs a b
  | _, _ => false
def eqbDs : List D → List D → Bool
  | [], [] => true
  | x :: xs, y :: ys => eqbD x y && eqbDs xs ys
  | _, _ => false
end
mutual
theorem eqbD_eq : ∀ {x y : D}, eqbD x y = true → x = y
  | .non, y, h => by cases y <;> first | rfl | (exact absurd h Bool.false_ne_true)
  | .bl a, y, h => by cases y <;> first | (exact congrArg D.bl (eq_of_beq h)) | (exact absurd h Bool.false_ne_true)
  | .int a, y, h => by cases y <;> first | (exact congrArg D.int (eq_of_beq h)) | (exact absurd h Bool.false_ne_true)
  | .str a, y, h => by cases y <;> first | (exact congrArg D.str (eq_of_beq h)) | (exact absurd h Bool.false_ne_true)
  | .tup a, y, h => by cases y <;> first | (exact congrArg D.tup (eqbDs_eq h)) | (exact absurd h Bool.false_ne_true)
  | .loc a, y, h => by cases y <;> exact absurd h Bool.false_ne_true
  | .fz a, y, h => by cases y <;> exact absurd h Bool.false_ne_true
theorem eqbDs_eq : ∀ {x y : List D}, eqbDs x y = true → x = y
  | [], y, h => by cases y <;> first | rfl | (exact absurd h Bool.false_ne_true)
  | a :: as, [], h => absurd h Bool.false_ne_true
  | a :: as, b :: bs, h => by
    have h' : (eqbD a b && eqbDs as bs) = true := h
    rw [Bool.and_eq_true] at h'
    rw [eqbD_eq h'.1, eqbDs_eq h'.2]
end
def eqbK : List (Str × D) → List (Str × D) → Bool
  | [], [] => true
  | (a, x) :: xs, (b, y) :: ys => a == b && eqbD x y && eqbK xs ys
  | _, _ => false
theorem eqbK_eq : ∀ {x y : List (Str × D)}, eqbK x y = true → x = y
  | [], [], _ => rfl
  | [], _ :: _, h => absurd h Bool.false_ne_true
  | _ :: _, [], h => absurd h Bool.false_ne_true
  | (a, x) :: xs, (b, y) :: ys, h => by
    have h' : (a == b && eqbD x y && eqbK xs ys) = true := h
    rw [Bool.and_eq_true, Bool.and_eq_true] at h'
    rw [eq_of_beq h'.1.1, eqbD_eq h'.1.2, eqbK_eq h'.2]

/-- what a text leans on -/
structure Sx where
  blt : List Str
  gl : List (Str × D)
  gd : List (Str × List (Str × D))
  fns : List Str

/-- what is wanted of a def by its run -/
def spD (K : PySem.W.Frag) (cf : List D → M D) : Sp := fun vs H Q _ => ∃ A m ds d m', Rl K A H m ∧ RDs K A H ds vs ∧ cf ds m = some (d, m') ∧ ∀ A' H', Ext A H A' H' → Rl K A' H' m' → ∀ u, RD K A' H' d u → Q u H'
/-- a dict of the written part -/
def WDict (K : PySem.W.Frag) (w : World) (a : Addr) (kvs : List (Str × D)) : Prop :=
  ∃ es n, KDict K w a es n ∧ ∀ z : Str, match kvs.lookup z with
    | some d => ∃ u v, PySem.W.nsIn K a z = some (some u) ∧ RelV v u ∧ ∀ A H, RD K A H d v
    | none => PySem.W.nsIn K a z = some none

structure XOk (S : Sx) (k : Nat) (cf : Str → List D → M D) (N : List Str) (cl : Bool) (ns : List (Str × NameKind)) (X : Cx) : Prop where
  eN : X.N = N
  nd : N.Nodup
  names : X.env.scope.names = ns
  kind : X.env.scope.kind = .function
  calm : X.calm = true
  room : Room k X.A
  never : X.xe = fun _ _ => False
  cells : cl = true → ∀ x, X.fn x = true
  blt : ∀ x ∈ S.blt, X.mg x = none
  gl : ∀ p ∈ S.gl, ∃ u v, X.mg p.1 = some u ∧ RelV v u ∧ ∀ A H, RD X.K A H p.2 v
  gd : ∀ p ∈ S.gd, ∃ a, X.mg p.1 = some (.ref a) ∧ WDict X.K X.w a p.2
  fn : ∀ f ∈ S.fns, ∃ a fd ps, X.mg f = some (.ref a) ∧ PySem.W.keepIn X.K (.ref a) = true ∧ Binds X.K fd ps [] ∧ FnOk X.prog X.w X.K X.mg X.base CX0 k a fd ps (spD X.K (cf f))

def visB (ns : List (Str × NameKind)) (x : Str) : Bool := match ns.lookup x with
  | some .local => true | some .cell => true | some .free => true
  | _ => false
def gloB (ns : List (Str × NameKind)) (x : Str) : Bool := match ns.lookup x with
  | some .globalImplicit => true
  | _ => false
def stoB (cl : Bool) (ns : List (Str × NameKind)) (x : Str) : Bool := match ns.lookup x with
  | some .local => true
  | some .cell => cl
  | _ => false
def noDb (x : Str) : Bool := !(x == ("__debug__" : Str)) && !(x == ("__classdict__" : Str))
def relN (ns sc : List (Str × NameKind)) : List (Str × NameKind) := sc.map fun (n, k) => if (k == NameKind.free && ns.lookup n == some .cell) then (n, .cell) else (n, k)

def notStar : Expr → Bool | .Starred _ _ => false | _ => true
def notSet : Expr → Bool | .Set _ _ _ => false | _ => true
def notComp : Expr → Bool | .ListComp _ _ _ _ => false | .SetComp _ _ _ _ => false | .DictComp _ _ _ _ _ => false | _ => true
def notCall : Expr → Bool | .Call _ _ _ _ => false | _ => true
def notTest : Expr → Bool | .UnaryOp .Not _ _ => false | .BoolOp _ _ _ => false | .IfExp _ _ _ _ => false | .Compare _ _ _ _ => false | _ => true
def notSlice : Expr → Bool | .Slice _ _ _ _ => false | _ => true
theorem star_cons {env : Env} {e : Expr} {es : List Expr} (h : notStar e = true) : starEach (e :: es) env = (false, eval e env) :: starEach es env := by
  cases e <;> first | rfl | (exact absurd h Bool.false_ne_true)
theorem star_flat {env : Env} : ∀ {es : List Expr}, es.all notStar = true → ∀ p ∈ starEach es env, p.1 = false
  | [], _, p, hp => by cases hp
  | e :: es, h, p, hp => by
    rw [List.all_cons, Bool.and_eq_true] at h
    rw [star_cons h.1] at hp
    rcases List.mem_cons.mp hp with rfl | hp
    · rfl
    · exact star_flat h.2 p hp
theorem back_flat {pos : Pos} {es : List Expr} {env : Env} (h : es.all notStar = true) : ∀ p ∈ backTo pos (starEach es env), p.1 = false := fun p hp => by
  obtain ⟨q, hq, rfl⟩ := List.mem_map.mp hp
  exact star_flat h q hq
theorem any_false {α : Type} {l : List (Bool × α)} (h : ∀ p ∈ l, p.1 = false) : l.any (·.1) = false := by
  rw [List.any_eq_false]
  intro p hp
  rw [h p hp]
  decide
theorem back_any {pos : Pos} {es : List Expr} {env : Env} (h : es.all notStar = true) : (backTo pos (starEach es env)).any (·.1) = false := any_false (back_flat h)
theorem fold_set {env : Env} {e : Expr} (h : notSet e = true) : ∀ x, foldedSetIterable e env x = pure x := by
  intro x
  cases e <;> first | rfl | (exact absurd h Bool.false_ne_true)
theorem swaps_no {env : Env} {e : Expr} {t : Option Expr} {n : Nat} (h : notComp e = true) : swapsWith e t n env = pure false := by
  cases e <;> first | rfl | (exact absurd h Bool.false_ne_true)
theorem abase {env : Env} {e : Expr} {nm : Str} (h : notCall e = true) : attributeBase e nm env (eval e env) = eval e env := by
  cases e <;> first | rfl | (exact absurd h Bool.false_ne_true)
theorem test_plain {env : Env} {e : Expr} (h : notTest e = true) : ∀ whole, isTrue e env whole = (do let v ← whole; standAt e.pos; holding [v] (truthy v)) := by
  intro w
  cases e <;> first | rfl | (exact absurd h Bool.false_ne_true) | (rename_i op _ _; cases op <;> first | rfl | (exact absurd h Bool.false_ne_true))
theorem plainIx {e : Expr} (h : notSlice e = true) : PlainIx e := by
  intro o i
  cases e <;> first | rfl | (exact absurd h Bool.false_ne_true)

section
variable {S : Sx} {k : Nat} {cf : Str → List D → M D} {N : List Str} {cl : Bool} {ns : List (Str × NameKind)} {X : Cx} (O : XOk S k cf N cl ns X)
include O
theorem XOk.vis {x : Str} (h : visB ns x = true) : Vis X.env.scope x := by
  unfold visB at h
  unfold Vis
  rw [O.names]
  split at h <;> simp_all
theorem XOk.glo {x : Str} (h : gloB ns x = true) : Gl X x := by
  unfold gloB at h
  show X.env.scope.names.lookup x = some .globalImplicit
  rw [O.names]
  split at h <;> simp_all
theorem XOk.loc {x : Str} (h : stoB cl ns x = true) : L2.Loc X.env.scope x ∧ (X.fn x = true ∨ X.env.scope.names.lookup x = some .local) := by
  unfold stoB at h
  unfold L2.Loc
  rw [O.names]
  split at h
  · rename_i e; exact ⟨.inl e, .inr e⟩
  · rename_i e; exact ⟨.inr e, .inl (O.cells h x)⟩
  · cases h
end
theorem noDb_1 {x : Str} (h : noDb x = true) : (x == ("__debug__" : Str)) = false ∧ (x == ("__classdict__" : Str)) = false := by
  unfold noDb at h
  simpa using h
end Mi
namespace Mi
open PySem PySem.Spec PyProof.Rows L2

def slots : Tg → List Nat
  | .nm i => [i]
  | .tp is => is
structure Ck where
  e : Expr → Bool
  a : List Expr → Bool
def ckE (f : Expr → Bool) : Ck := ⟨f, fun _ => false⟩
def mthN : Mth → Str
  | .append => "append" | .pop => "pop" | .extend => "extend" | .join => "join"

def chkT (N : List Str) (cl : Bool) (ns : List (Str × NameKind)) : Tg → Expr → Bool
  | .nm i, .Name x _ => N[i]? == some x && stoB cl ns x
  | .tp is, .Tuple es _ _ => go is es
  | _, _ => false
where go : List Nat → List Expr → Bool
  | [], [] => true
  | i :: is, .Name x _ :: es => N[i]? == some x && stoB cl ns x && go is es
  | _, _ => false
def chkI (S : Sx) (ns : List (Str × NameKind)) (ca : List Expr → Bool) (tg : Expr) : Itk → Expr → Bool
  | .one, e => ca [e] && notSet e
  | .rng1, .Call (.Name x _) [a] [] _ => x == ("range" : Str) && S.blt.contains "range" && gloB ns "range" && ca [a]
  | .rng2, .Call (.Name x _) [a, b] [] _ => x == ("range" : Str) && S.blt.contains "range" && gloB ns "range" && ca [a, b]
  | .zip, .Call (.Name x _) [a, b] [] _ => x == ("zip" : Str) && S.blt.contains "zip" && gloB ns "zip" && ca [a, b] && (match tg with | .Tuple _ _ _ => true | _ => false)
  | .rev, .Call (.Name x _) [a] [] _ => x == ("reversed" : Str) && S.blt.contains "reversed" && gloB ns "reversed" && ca [a]
  | _, _ => false

def chk (S : Sx) (N : List Str) : Ex → Bool → List (Str × NameKind) → Ck
  | .nil, _, _ => ⟨fun _ => false, fun es => es.isEmpty⟩
  | .cons c cs, cl, ns => ⟨fun _ => false, fun es => match es with
    | e :: es => notStar e && (chk S N c cl ns).e e && (chk S N cs cl ns).a es
    | [] => false⟩
  | .var i, cl, ns => ckE fun e => match e with
    | .Name x _ => N[i]? == some x && visB ns x && noDb x
    | _ => false
  | .cst d, cl, ns => ckE fun e => match e with
    | .Constant c _ _ => match c, d with
      | .none, .non => true
      | .bool a, .bl b => a == b
      | .int a, .int b => a == b
      | .str a, .str b => a == b
      | _, _ => false
    | _ => false
  | .glb x d, cl, ns => ckE fun e => match e with
    | .Name y _ => y == x && gloB ns x && noDb x && S.gl.any fun p => p.1 == x && eqbD p.2 d
    | _ => false
  | .bin o a b, cl, ns => ckE fun e => match e with
    | .BinOp x op y _ => decide (op = bopOf o) && (chk S N a cl ns).e x && (chk S N b cl ns).e y
    | _ => false
  | .neg a, cl, ns => ckE fun e => match e with
    | .UnaryOp .USub x _ => (chk S N a cl ns).e x
    | _ => false
  | .cmp o a b, cl, ns => ckE fun e => match e with
    | .Compare x [op] [y] _ => decide (op = copOf o) && (chk S N a cl ns).e x && (chk S N b cl ns).e y && notSet y
    | _ => false
  | .chain o o' a b c, cl, ns => ckE fun e => match e with
    | .Compare x [op, op'] [y, z] _ => decide (op = copOf o) && decide (op' = copOf o') && (chk S N a cl ns).e x && (chk S N b cl ns).e y && (chk S N c cl ns).e z && notSet z
    | _ => false
  | .and a b, cl, ns => ckE fun e => match e with
    | .BoolOp .And (x :: y :: rest) p => (chk S N a cl ns).e x && (match rest with
      | [] => (chk S N b cl ns).e y
      | z :: r => (chk S N b cl ns).e (.BoolOp .And (y :: z :: r) p))
    | _ => false
  | .or a b, cl, ns => ckE fun e => match e with
    | .BoolOp .Or (x :: y :: rest) p => (chk S N a cl ns).e x && (match rest with
      | [] => (chk S N b cl ns).e y
      | z :: r => (chk S N b cl ns).e (.BoolOp .Or (y :: z :: r) p))
    | _ => false
  | .not a, cl, ns => ckE fun e => match e with
    | .UnaryOp .Not x _ => (chk S N a cl ns).e x
    | _ => false
  | .ifx c a b, cl, ns => ckE fun e => match e with
    | .IfExp t x y _ => (chk S N c cl ns).e t && (chk S N a cl ns).e x && (chk S N b cl ns).e y
    | _ => false
  | .tup es, cl, ns => ckE fun e => match e with
    | .Tuple xs _ _ => (chk S N es cl ns).a xs
    | _ => false
  | .lst es, cl, ns => ckE fun e => match e with
    | .List xs _ => (chk S N es cl ns).a xs
    | _ => false
  | .idx a i, cl, ns => ckE fun e => match e with
    | .Subscript x y _ => (chk S N a cl ns).e x && (chk S N i cl ns).e y && notSlice y
    | _ => false
  | .slc a lo hi, cl, ns => ckE fun e => match e with
    | .Subscript x (.Slice l h none _) _ => (chk S N a cl ns).e x && (chk S N lo cl ns).a l.toList && (chk S N hi cl ns).a h.toList
    | _ => false
  | .rvs a, cl, ns => ckE fun e => match e with
    | .Subscript x (.Slice none none (some (.UnaryOp .USub (.Constant (.int i) _ _) _)) _) _ => i == 1 && (chk S N a cl ns).e x
    | _ => false
  | .call f es, cl, ns => ckE fun e => match e with
    | .Call (.Name x _) (y :: ys) [] _ => x == f && S.fns.contains f && gloB ns f && noDb f && (chk S N es cl ns).a (y :: ys)
    | _ => false
  | .blt b es, cl, ns => ckE fun e => match e with
    | .Call (.Name x _) (y :: ys) [] _ => x == bltN b && S.blt.contains (bltN b) && gloB ns (bltN b) && (chk S N es cl ns).a (y :: ys)
    | _ => false
  | .meth f o es, cl, ns => ckE fun e => match e with
    | .Call (.Attribute x nm ap) ys [] cp => nm == mthN f && notCall x && ap.endLine == cp.line && (chk S N o cl ns).e x && (chk S N es cl ns).a ys && (match f, ys with
      | .pop, [] => true
      | .append, [_] => true
      | .join, [_] => true
      | .extend, [_] => true
      | _, _ => false)
    | _ => false
  | .isi a t, cl, ns => ckE fun e => match e with
    | .Call (.Name f _) [x, .Name ty _] [] _ => f == ("isinstance" : Str) && S.blt.contains "isinstance" && gloB ns "isinstance" && tyN t && ty == Str.ofString t && S.blt.contains (Str.ofString t) && gloB ns (Str.ofString t) && notStar x && (chk S N a cl ns).e x
    | _ => false
  | .comp own g ik args cond elt, cl, ns => ckE fun e => match e with
    | .ListComp el [⟨tg, iter, ifs, as⟩] scope _ => decide (as = 0) && blkC N { kind := .function, names := ns, isGenerator := false, isCoroutine := false } scope own &&
        chkI S ns (chk S N args cl ns).a tg ik iter && chkT N false (relN ns scope.names) g tg && (slots g).all (fun i => (own.map (·.2)).contains i) && notSet iter && (chk S N elt false (relN ns scope.names)).e el &&
        (match ifs with
          | [] => (match cond with | .nil => true | _ => false)
          | [c] => (match cond with | .nil => false | _ => true) && (chk S N cond false (relN ns scope.names)).e c
          | _ => false)
    | _ => false
  | .gget x kvs i, cl, ns => ckE fun e => match e with
    | .Subscript (.Name y _) z _ => y == x && gloB ns x && noDb x && (S.gd.any fun p => p.1 == x && eqbK p.2 kvs) && (chk S N i cl ns).e z && notSlice z
    | _ => false
  | .gin neg x kvs i, cl, ns => ckE fun e => match e with
    | .Compare z [op] [.Name y _] _ => decide (op = if neg then .NotIn else .In) && y == x && gloB ns x && noDb x && (S.gd.any fun p => p.1 == x && eqbK p.2 kvs) && (chk S N i cl ns).e z
    | _ => false
end Mi
namespace Mi
open PySem PySem.Spec PyProof.Rows L2

section
variable {X : Cx} {e : Expr} {es : List Expr}
theorem pend_no {K : PySem.W.Frag} {α : Type} {σ : L2.St} {H : Hp} {xs : List (D × V)} {F : List Addr → Hp → Rho → α → Prop} (h : Pend K σ H xs (fun _ => M.no) F) : False := by
  obtain ⟨_, _, _, _, _, _, _, _, hc, _⟩ := h
  cases hc
theorem pt_no : PT X e (tT X.K fun _ => M.no) := ⟨fun pins s σ H Q I h => (pend_no h).elim⟩
theorem pa_no : PA X es (tL X.K fun _ => M.no) := ⟨fun p pins s σ H Q I h => (pend_no h).elim⟩
theorem pt_den {f : Rho → M D} (he : notTest e = true) (h : PE X e (tV X.K f)) : PT X e (tT X.K fun r => (f r).bnd truthM) :=
  PT.imp (pt_truth h (test_plain he)) fun σ H Q q => by
    obtain ⟨A, m, r, b, m', R, S, hx, hc, q⟩ := q
    obtain ⟨d, m1, h1, h2⟩ := bnd_some hc
    refine ⟨A, m, r, d, m1, R, S, hx, h1, fun A1 H1 e1 R1 v hv => ?_⟩
    unfold truthM at h2
    split at h2
    · rename_i b' hb
      cases h2
      exact ⟨b, truth_ok R1 hb hv, q A1 H1 e1 R1⟩
    · cases h2
/-- a value and its truth -/
theorem both_den {f : Rho → M D} (he : notTest e = true) (h : PE X e (tV X.K f)) : PE X e (tV X.K fun r => (den (f r)).v) ∧ PT X e (tT X.K fun r => (den (f r)).t) := ⟨h, pt_den he h⟩
theorem pw_of_pt {op : BoolOp} {vs : List Expr} {pos : Pos} {t : TT} (h : PT X (.BoolOp op vs pos) t) : PW X (.BoolOp op vs pos) t :=
  ⟨fun whole pins s σ H Q I q => h.run pins s σ H Q I q⟩
end

section
variable {S : Sx} {k : Nat} {cf : Str → List D → M D} {N : List Str} {cl : Bool} {ns : List (Str × NameKind)} {X : Cx}
/-- one value, an operation on it -/
theorem pend_1 {K : PySem.W.Frag} {σ : L2.St} {H : Hp} {f : Rho → M D} {g : D → M D} {Q : VK} (h : Pend K σ H [] (fun r => (f r).bnd g) (finV K Q)) : tV K f σ H fun v H1 => r1 K g v H1 Q := by
  obtain ⟨A, m, r, b, m', R, S, hx, hc, q⟩ := h
  obtain ⟨d, m1, h1, h2⟩ := bnd_some hc
  exact ⟨A, m, r, d, m1, R, S, hx, h1, fun A1 H1 e1 R1 v hv => ⟨A1, m1, d, b, m', R1, hv, h2, fun A2 H2 e2 R2 => q A2 H2 (e1.trans e2) R2⟩⟩
theorem pend_2 {K : PySem.W.Frag} {σ : L2.St} {H : Hp} {f g : Rho → M D} {o : D → D → M D} {Q : VK} (h : Pend K σ H [] (fun r => (f r).bnd fun x => (g r).bnd fun y => o x y) (finV K Q)) :
    tV K f σ H fun v H1 => tV K g σ H1 fun w H2 => r2 K o v w H2 Q := by
  refine (h.v (g := fun x r => (g r).bnd fun y => o x y)).imp fun A h => ?_
  obtain ⟨m, r, d, m1, R, S, hx, h1, q⟩ := h
  refine ⟨m, r, d, m1, R, S, hx, h1, fun A1 H1 e1 R1 v hv => ?_⟩
  obtain ⟨d', A2, m2, r2', b, m', R2, S2, hx2, hc, q2⟩ := q A1 H1 e1 R1 v hv
  obtain ⟨y, m3, h3, h4⟩ := bnd_some hc
  exact ⟨A2, m2, r2', y, m3, R2, S2, (fun _ z => nomatch z), h3, fun A3 H3 e3 R3 w hw => ⟨A3, m3, d', y, b, m', R3, (hx2 _ (List.mem_cons_self)).mono e3, hw, h4, fun A4 H4 e4 R4 => q2 A4 H4 (e3.trans e4) R4⟩⟩
theorem pend_2B {K : PySem.W.Frag} {σ : L2.St} {H : Hp} {f g : Rho → M D} {o : D → D → M Bool} {Q : Bool → Hp → Prop} (h : Pend K σ H [] (fun r => (f r).bnd fun x => (g r).bnd fun y => o x y) (finT Q)) :
    tV K f σ H fun v H1 => tV K g σ H1 fun w H2 => r2B K o v w H2 fun z H3 => ∃ b, z = .bl b ∧ Q b H3 := by
  refine (h.v (g := fun x r => (g r).bnd fun y => o x y)).imp fun A h => ?_
  obtain ⟨m, r, d, m1, R, S, hx, h1, q⟩ := h
  refine ⟨m, r, d, m1, R, S, hx, h1, fun A1 H1 e1 R1 v hv => ?_⟩
  obtain ⟨d', A2, m2, r2', b, m', R2, S2, hx2, hc, q2⟩ := q A1 H1 e1 R1 v hv
  obtain ⟨y, m3, h3, h4⟩ := bnd_some hc
  exact ⟨A2, m2, r2', y, m3, R2, S2, (fun _ z => nomatch z), h3, fun A3 H3 e3 R3 w hw => ⟨A3, m3, d', y, b, m', R3, (hx2 _ (List.mem_cons_self)).mono e3, hw, h4, fun A4 H4 e4 R4 => ⟨b, rfl, q2 A4 H4 (e3.trans e4) R4⟩⟩⟩
/-- a test made a value -/
theorem pend_bl {K : PySem.W.Frag} {σ : L2.St} {H : Hp} {f : Rho → M Bool} {Q : VK} (h : Pend K σ H [] (fun r => (f r).bnd fun b => .ret (.bl b)) (finV K Q)) : Pend K σ H [] f (finT fun b H => Q (.bl b) H) := by
  obtain ⟨A, m, r, b, m', R, S, hx, hc, q⟩ := h
  obtain ⟨d, m1, h1, h2⟩ := bnd_some hc
  cases h2
  exact ⟨A, m, r, d, m', R, S, hx, h1, fun A1 H1 e1 R1 => q A1 H1 e1 R1 _ rfl⟩
/-- a comparison, as a value and as a test -/
theorem both_cmp {a b : Expr} {op : CmpOp} {pos : Pos} {f g : Rho → M D} {o : D → D → M Bool} (ho : OpR X (compareOp op) (r2B X.K o)) (ha : PE X a (tV X.K f)) (hb : PE X b (tV X.K g)) (hm : behindInMarks op b = false) :
    PE X (.Compare a [op] [b] pos) (tV X.K fun r => (denB ((f r).bnd fun x => (g r).bnd fun y => o x y)).v) ∧ PT X (.Compare a [op] [b] pos) (tT X.K fun r => (denB ((f r).bnd fun x => (g r).bnd fun y => o x y)).t) := by
  refine ⟨PE.imp (pe_cmpR ho ha hb hm) fun σ H Q h => ?_, PT.imp (pt_cmpR ho ha hb hm) fun σ H Q h => pend_2B h⟩
  refine (pend_2B (pend_bl h)).imp fun A h => ?_
  obtain ⟨m, r, d, m1, R, S, hx, h1, q⟩ := h
  refine ⟨m, r, d, m1, R, S, hx, h1, fun A1 H1 e1 R1 v hv => ?_⟩
  obtain ⟨A2, m2, r', d2, m3, R2, S2, hx2, h2, q2⟩ := q A1 H1 e1 R1 v hv
  refine ⟨A2, m2, r', d2, m3, R2, S2, hx2, h2, fun A3 H3 e3 R3 w hw => ?_⟩
  obtain ⟨A4, m4, x, y, b, m5, R4, hx4, hy4, h4, q4⟩ := q2 A3 H3 e3 R3 w hw
  refine ⟨A4, m4, x, y, b, m5, R4, hx4, hy4, h4, fun A5 H5 e5 R5 => ?_⟩
  obtain ⟨b', e, q5⟩ := q4 A5 H5 e5 R5
  cases e
  exact q5

theorem marks_no {op : CmpOp} {e : Expr} (h : notSet e = true) : behindInMarks op e = false := by
  cases e <;> first | rfl | (exact absurd h Bool.false_ne_true)
theorem mem_any {α : Type} {l : List α} {p : α → Bool} (h : l.any p = true) : ∃ x ∈ l, p x = true := List.any_eq_true.mp h
theorem blkN_eq {N : List Str} {sc sc' scope : Scope} {own : List (Str × Nat)} (h : sc.names = sc'.names) : blkC N sc scope own = blkC N sc' scope own := by
  unfold blkC
  rw [h]
end
end Mi
namespace Mi
open PySem PySem.Spec PyProof.Rows L2

/-! ### targets -/
def gSets : List Nat → TGs
  | [] => gNil
  | i :: is => gCons (gName i) (gSets is)
def gTg (K : PySem.W.Frag) : Tg → TG
  | .nm i => gName i
  | .tp is => gTup K is.length (gSets is)
section
variable {S : Sx} {k : Nat} {cf : Str → List D → M D} {N : List Str} {cl : Bool} {ns : List (Str × NameKind)} {X : Cx}
theorem go_cons {i : Nat} {is : List Nat} {e : Expr} {es : List Expr} (h : chkT.go N cl ns (i :: is) (e :: es) = true) : ∃ x p, e = .Name x p ∧ N[i]? = some x ∧ stoB cl ns x = true ∧ chkT.go N cl ns is es = true := by
  cases e with
  | Name x p =>
    have h' : (N[i]? == some x && stoB cl ns x && chkT.go N cl ns is es) = true := h
    rw [Bool.and_eq_true, Bool.and_eq_true] at h'
    exact ⟨x, p, rfl, eq_of_beq h'.1.1, h'.1.2, h'.2⟩
  | _ => exact absurd h Bool.false_ne_true
theorem assign_names {env : Env} : ∀ {is : List Nat} {es : List Expr}, chkT.go N cl ns is es = true → assignEach es env = es.map (fun e => (false, assign e env)) ∧ es.length = is.length
  | [], [], _ => ⟨rfl, rfl⟩
  | [], _ :: _, h => absurd h Bool.false_ne_true
  | _ :: _, [], h => absurd h Bool.false_ne_true
  | i :: is, e :: es, h => by
    obtain ⟨x, p, rfl, h1, h2, h3⟩ := go_cons h
    obtain ⟨h1, h2⟩ := assign_names (env := env) h3
    exact ⟨by show (false, assign _ env) :: assignEach es env = _; rw [h1]; rfl, by rw [List.length_cons, List.length_cons, h2]⟩
theorem pgs_names (O : XOk S k cf N cl ns X) : ∀ {is : List Nat} {es : List Expr}, chkT.go N cl ns is es = true → PGs X es (gSets is)
  | [], [], _ => pgs_nil
  | [], _ :: _, h => absurd h Bool.false_ne_true
  | _ :: _, [], h => absurd h Bool.false_ne_true
  | i :: is, e :: es, h => by
    obtain ⟨x, p, rfl, h1, h2, h3⟩ := go_cons h
    obtain ⟨l1, l2⟩ := O.loc h2
    exact pgs_cons (pg_name (by rw [O.eN]; exact O.nd) (by rw [O.eN]; exact h1) l1 l2) (pgs_names O h3) rfl
theorem pg_tg (O : XOk S k cf N cl ns X) {g : Tg} {e : Expr} (h : chkT N cl ns g e = true) : PG X e (gTg X.K g) := by
  unfold chkT at h
  split at h
  · rename_i i x p
    rw [Bool.and_eq_true] at h
    obtain ⟨l1, l2⟩ := O.loc h.2
    exact pg_name (by rw [O.eN]; exact O.nd) (by rw [O.eN]; exact eq_of_beq h.1) l1 l2
  · rename_i is es kk p
    obtain ⟨h1, h2⟩ := assign_names (env := X.env) h
    refine pg_tup O.calm (pgs_names O h) ?_ ?_
    · rw [h1, List.length_map, h2]
    · rw [h1, List.findIdx?_eq_none_iff]
      intro p hp
      obtain ⟨q, _, rfl⟩ := List.mem_map.mp hp
      rfl
  · cases h
end

theorem wipe_set {σ : L2.St} {i : Nat} {o : Option V} : ∀ {vs : List Nat}, i ∈ vs → L2.wipe (σ.set i o) vs = L2.wipe σ vs
  | v :: vs, h => by
    show (L2.wipe (σ.set i o) vs).set v none = (L2.wipe σ vs).set v none
    by_cases hm : i ∈ vs
    · rw [wipe_set hm]
    · have e : i = v := by
        rcases List.mem_cons.mp h with e | e
        · exact e
        · exact absurd e hm
      subst e
      have hc : L2.wipe (σ.set i o) vs = (L2.wipe σ vs).set i o := by
        clear h
        induction vs with
        | nil => rfl
        | cons w ws ih =>
          have hw : i ≠ w := fun z => hm (by rw [z]; exact List.mem_cons_self)
          show (L2.wipe (σ.set i o) ws).set w none = ((L2.wipe σ ws).set w none).set i o
          rw [ih (fun z => hm (List.mem_cons_of_mem _ z)), List.set_comm _ _ hw]
      rw [hc, List.set_set]
theorem wipe_wipe (σ : L2.St) : ∀ (us vs : List Nat), (∀ u ∈ us, u ∈ vs) → L2.wipe (L2.wipe σ us) vs = L2.wipe σ vs
  | [], _, _ => rfl
  | u :: us, vs, h => by
    show L2.wipe ((L2.wipe σ us).set u none) vs = _
    rw [wipe_set (h u List.mem_cons_self), wipe_wipe σ us vs fun w hw => h w (List.mem_cons_of_mem _ hw)]

section
variable {K : PySem.W.Frag} {A : List Addr} {H : Hp} {m : List SO}
theorem sets_ok {Q : L2.St → Hp → Prop} : ∀ {is : List Nat} {ds : List D} {vs : List V} {r r' : Rho} {σ : L2.St}, RSt K A H r σ → RDs K A H ds vs → setsR r is ds = some r' →
    (∀ σ', RSt K A H r' σ' → (∀ us : List Nat, (∀ i ∈ is, i ∈ us) → L2.wipe σ' us = L2.wipe σ us) → Q σ' H) → gSets is vs σ H Q
  | [], [], vs, r, r', σ, S, hd, h, q => by
    cases hd
    cases h
    exact ⟨rfl, q σ S fun _ _ => rfl⟩
  | i :: is, d :: ds, vs, r, r', σ, S, hd, h, q => by
    obtain ⟨v, rs, rfl, h1, h2⟩ := hd
    refine ⟨v, rs, rfl, ?_⟩
    show gSets is rs (σ.set i (some v)) H Q
    refine sets_ok (S.set h1) h2 (show setsR (r.set i (some d)) is ds = some r' from h) fun σ' S' w => q σ' S' fun us hu => ?_
    rw [w us fun j hj => hu j (List.mem_cons_of_mem _ hj), wipe_set (hu i List.mem_cons_self)]
  | [], _ :: _, _, _, _, _, _, _, h, _ => by cases h
  | _ :: _, [], _, _, _, _, _, _, h, _ => by cases h
theorem setsR_len : ∀ {is : List Nat} {ds : List D} {r r' : Rho}, setsR r is ds = some r' → is.length = ds.length
  | [], [], _, _, _ => rfl
  | [], _ :: _, _, _, h => by cases h
  | _ :: _, [], _, _, h => by cases h
  | i :: is, d :: ds, r, r', h => by rw [List.length_cons, List.length_cons, setsR_len (show setsR (r.set i (some d)) is ds = some r' from h)]
theorem tgt_ok {Q : L2.St → Hp → Prop} {g : Tg} {d : D} {v : V} {r r' : Rho} {σ : L2.St} (S : RSt K A H r σ) (hd : RD K A H d v) (h : tgt g d r m = some r')
    (q : ∀ σ', RSt K A H r' σ' → (∀ us : List Nat, (∀ i ∈ slots g, i ∈ us) → L2.wipe σ' us = L2.wipe σ us) → Q σ' H) : gTg K g v σ H Q := by
  cases g with
  | nm i =>
    cases h
    exact q _ (S.set hd) fun us hu => wipe_set (hu i (List.mem_singleton.mpr rfl))
  | tp is =>
    simp only [tgt] at h
    split at h
    · rename_i xs
      obtain ⟨a, vs, rfl, h1, h2⟩ := hd
      exact ⟨a, vs, rfl, h1, by rw [h2.length, setsR_len h], sets_ok S h2 h q⟩
    · cases h
end

/-! ### what is walked -/
structure ItGood (K : PySem.W.Frag) (J : It) (items : List D) (g : Option (Nat × List D)) (A0 : List Addr) (H0 : Hp) : Prop where
  go : ∀ A H m i d, Ext A0 H0 A H → Rl K A H m → Still g m → items[i]? = some d → J.go i H ∧ ∀ x H', J.yld i H x H' → Ext A H A H' ∧ Rl K A H' m ∧ RD K A H' d x
  stop : ∀ A H m i, Ext A0 H0 A H → Rl K A H m → Still g m → items.length ≤ i → J.stop i H
def tI (K : PySem.W.Frag) (c : Rho → M (List D × Option (Nat × List D))) : TI := fun σ H R => Pend K σ H [] c fun A H _ p => ∀ J, ItGood K J p.1 p.2 A H → R J H
theorem Ext.ext0 {A : List Addr} {H : Hp} : Ext A H A H := Ext.refl A H
section
variable {K : PySem.W.Frag} {A : List Addr} {H : Hp} {m : List SO}
theorem good_list (R : Rl K A H m) {n : Nat} {a : Addr} {ys : List D} (ha : A[n]? = some a) : ItGood K (Itl K a) ys (some (n, ys)) A H where
  go := fun A1 H1 m1 i d e R1 hs hd => by
    have h1 := e.get ha
    obtain ⟨vs, k1, k2⟩ := getL_at (xs := ys) R1 (by unfold getL; rw [show m1[n]? = some (.lst ys) from hs]) h1
    obtain ⟨v, k3, k4⟩ := k2.get hd
    refine ⟨⟨vs, v, SqL.of k1, k3⟩, fun x H' hy => ?_⟩
    obtain ⟨rfl, hy⟩ := hy
    have : vs[i]? = some x := hy vs (SqL.of k1)
    rw [k3] at this
    cases this
    exact ⟨Ext.refl _ _, R1, k4⟩
  stop := fun A1 H1 m1 i e R1 hs hi => by
    have h1 := e.get ha
    obtain ⟨vs, k1, k2⟩ := getL_at (xs := ys) R1 (by unfold getL; rw [show m1[n]? = some (.lst ys) from hs]) h1
    exact ⟨vs, SqL.of k1, by rw [k2.length]; exact hi⟩
theorem good_fz {a : Addr} {ys : List D} {vs : List V} (h1 : SqZ K H a vs) (h2 : RDs K A H ys vs) : ItGood K (Itl K a) ys none A H where
  go := fun A1 H1 m1 i d e R1 hs hd => by
    have k1 := (e.sqZ h1).seq
    obtain ⟨v, k3, k4⟩ := (h2.mono e).get hd
    refine ⟨⟨vs, v, k1, k3⟩, fun x H' hy => ?_⟩
    obtain ⟨rfl, hy⟩ := hy
    have : vs[i]? = some x := hy vs k1
    rw [k3] at this
    cases this
    exact ⟨Ext.refl _ _, R1, k4⟩
  stop := fun A1 H1 m1 i e R1 hs hi => ⟨vs, (e.sqZ h1).seq, by rw [h2.length]; exact hi⟩
theorem good_tup {a : Addr} {ys : List D} {vs : List V} (h1 : SqT K H a vs) (h2 : RDs K A H ys vs) : ItGood K (Itt K a) ys none A H where
  go := fun A1 H1 m1 i d e R1 hs hd => by
    have k1 := e.sqT h1
    obtain ⟨v, k3, k4⟩ := (h2.mono e).get hd
    refine ⟨⟨vs, v, k1, k3⟩, fun x H' hy => ?_⟩
    obtain ⟨rfl, hy⟩ := hy
    have : vs[i]? = some x := hy vs k1
    rw [k3] at this
    cases this
    exact ⟨Ext.refl _ _, R1, k4⟩
  stop := fun A1 H1 m1 i e R1 hs hi => ⟨vs, e.sqT h1, by rw [h2.length]; exact hi⟩
theorem good_rng {lo : Int} {n : Nat} {ys : List D} (hy : ys = (List.range n).map fun (i : Nat) => D.int (lo + i)) : ItGood K (Itr lo n) ys none A H where
  go := fun A1 H1 m1 i d e R1 hs hd => by
    subst hy
    rw [List.getElem?_map] at hd
    cases hr : (List.range n)[i]? with
    | none => rw [hr] at hd; cases hd
    | some j =>
      rw [hr] at hd
      have hl := (List.getElem?_eq_some_iff.mp hr).1
      rw [List.length_range] at hl
      rw [List.getElem?_range hl] at hr
      cases hr
      cases hd
      refine ⟨hl, fun x H' hx => ?_⟩
      obtain ⟨rfl, rfl⟩ := hx
      exact ⟨Ext.refl _ _, R1, rfl⟩
  stop := fun A1 H1 m1 i e R1 hs hi => by
    subst hy
    rw [List.length_map, List.length_range] at hi
    exact hi
theorem good_rev (R : Rl K A H m) {n : Nat} {a : Addr} {ys : List D} (ha : A[n]? = some a) {l : Nat} (hl : l = ys.length) : ItGood K (Itv K a l) ys.reverse (some (n, ys)) A H where
  go := fun A1 H1 m1 i d e R1 hs hd => by
    subst hl
    have h1 := e.get ha
    obtain ⟨vs, k1, k2⟩ := getL_at (xs := ys) R1 (by unfold getL; rw [show m1[n]? = some (.lst ys) from hs]) h1
    have hi := (List.getElem?_eq_some_iff.mp hd).1
    rw [List.length_reverse] at hi
    rw [List.getElem?_reverse hi] at hd
    obtain ⟨v, k3, k4⟩ := k2.get hd
    refine ⟨⟨hi, vs, v, SqL.of k1, k3⟩, fun x H' hy => ?_⟩
    obtain ⟨rfl, hy⟩ := hy
    have : vs[ys.length - 1 - i]? = some x := hy vs (SqL.of k1)
    rw [k3] at this
    cases this
    exact ⟨Ext.refl _ _, R1, k4⟩
  stop := fun A1 H1 m1 i e R1 hs hi => by
    subst hl
    rw [List.length_reverse] at hi
    exact hi
theorem good_zip {a b : Addr} {xs ys : List D} {vs ws : List V} (h1 : SqT K H a vs) (h2 : RDs K A H xs vs) (h3 : SqT K H b ws) (h4 : RDs K A H ys ws) :
    ItGood K (RZ.ItzT K a b) ((xs.zip ys).map fun p => D.tup [p.1, p.2]) none A H where
  go := fun A1 H1 m1 i d e R1 hs hd => by
    rw [List.getElem?_map] at hd
    cases hz : (xs.zip ys)[i]? with
    | none => rw [hz] at hd; cases hd
    | some p =>
      obtain ⟨x, y⟩ := p
      rw [hz] at hd
      cases hd
      rw [List.getElem?_zip_eq_some] at hz
      obtain ⟨v, k1, k2⟩ := (h2.mono e).get hz.1
      obtain ⟨w, k3, k4⟩ := (h4.mono e).get hz.2
      refine ⟨⟨vs, ws, v, w, e.sqT h1, e.sqT h3, k1, k3⟩, fun z H' hy => ?_⟩
      obtain ⟨T, x', y', rfl, hT, rfl, f1, f2⟩ := hy
      have e1 := f1 vs (e.sqT h1)
      have e2 := f2 ws (e.sqT h3)
      rw [k1] at e1
      rw [k3] at e2
      cases e1
      cases e2
      have E := Ext.fresh (o := .tup [v, w]) R1 hT
      exact ⟨E, R1.tupled hT, T, _, rfl, SqT.of upd_same, v, [w], rfl, k2.mono E, w, [], rfl, k4.mono E, rfl⟩
  stop := fun A1 H1 m1 i e R1 hs hi => by
    rw [List.length_map, List.length_zip] at hi
    refine ⟨vs, ws, e.sqT h1, e.sqT h3, ?_⟩
    rw [h2.length, h4.length]
    omega
end
end Mi
namespace Mi
open PySem PySem.Spec PyProof.Rows L2
section
variable {S : Sx} {k : Nat} {cf : Str → List D → M D} {N : List Str} {cl : Bool} {ns : List (Str × NameKind)} {X : Cx}

theorem XOk.blk (O : XOk S k cf N cl ns X) {scope : Scope} (hk : scope.kind = .function) (s : Shared) (H : Hp) (C : Addr) (cls : List (Str × Addr)) (fp : List Addr) :
    XOk S k cf N false (relN ns scope.names) (X.blk s H scope (compEnvC scope cls C X.env) fp) where
  eN := O.eN
  nd := O.nd
  names := by
    show scope.names.map _ = relN ns scope.names
    unfold relN
    congr 1
    funext p
    obtain ⟨n, kd⟩ := p
    have h1 : X.env.kindOf n = ns.lookup n := by
      show X.env.scope.names.lookup n = _
      rw [O.names]
    have h2 : (X.env.scope.kind == ScopeKind.function) = true := by rw [O.kind]; rfl
    show (if (kd == NameKind.free && X.env.scope.kind == ScopeKind.function && X.env.kindOf n == some NameKind.cell) = true then (n, NameKind.cell) else (n, kd)) = _
    rw [h1, h2, Bool.and_true]
  kind := hk
  calm := O.calm
  room := O.room
  never := rfl
  cells := fun h => absurd h (by decide)
  blt := O.blt
  gl := O.gl
  gd := O.gd
  fn := O.fn

theorem blk_by (O : XOk S k cf N cl ns X) {scope : Scope} {own : List (Str × Nat)} (h : blkC N { kind := .function, names := ns, isGenerator := false, isCoroutine := false } scope own = true) : BlkOk X.N X.env.scope scope own := by
  refine blkOk_by ?_
  rw [O.eN, ← h]
  exact blkN_eq O.names
theorem blk_kind {sc scope : Scope} {own : List (Str × Nat)} (h : blkC N sc scope own = true) : scope.kind = .function := (blkOk_by h).kind

theorem inv_one {d : D} {m m' : List SO} {p : List D × Option (Nat × List D)} (h : itemsD .one [d] m = some (p, m')) :
    m' = m ∧ ((∃ n ys, d = .loc n ∧ getL m n = some ys ∧ p = (ys, some (n, ys))) ∨ (∃ ys, d = .tup ys ∧ p = (ys, none)) ∨ ∃ ys, d = .fz ys ∧ p = (ys, none)) := by
  cases d with
  | loc n =>
    simp only [itemsD] at h
    split at h
    · cases h; exact ⟨rfl, .inl ⟨n, _, rfl, by assumption, rfl⟩⟩
    · cases h
  | tup ys => cases h; exact ⟨rfl, .inr (.inl ⟨ys, rfl, rfl⟩)⟩
  | fz ys => cases h; exact ⟨rfl, .inr (.inr ⟨ys, rfl, rfl⟩)⟩
  | _ => cases h
theorem inv_rng1 {ds : List D} {m m' : List SO} {p : List D × Option (Nat × List D)} (h : itemsD .rng1 ds m = some (p, m')) :
    ∃ j : Int, ds = [.int j] ∧ (-(2 ^ 62) ≤ j ∧ j < 2 ^ 62) ∧ p = ((List.range j.toNat).map fun (i : Nat) => D.int i, none) ∧ m' = m := by
  cases ds with
  | nil => cases h
  | cons d r =>
    cases r with
    | cons _ _ => cases d <;> cases h
    | nil =>
      cases d with
      | int j =>
        simp only [itemsD] at h
        split at h
        · cases h; exact ⟨j, rfl, by assumption, rfl, rfl⟩
        · cases h
      | _ => cases h
theorem inv_rev {ds : List D} {m m' : List SO} {p : List D × Option (Nat × List D)} (h : itemsD .rev ds m = some (p, m')) :
    ∃ n ys, ds = [.loc n] ∧ getL m n = some ys ∧ p = (ys.reverse, some (n, ys)) ∧ m' = m := by
  cases ds with
  | nil => cases h
  | cons d r =>
    cases r with
    | cons _ _ => cases d <;> cases h
    | nil =>
      cases d with
      | loc n =>
        simp only [itemsD] at h
        split at h
        · cases h; exact ⟨n, _, rfl, by assumption, rfl, rfl⟩
        · cases h
      | _ => cases h
theorem inv_rng2 {ds : List D} {m m' : List SO} {p : List D × Option (Nat × List D)} (h : itemsD .rng2 ds m = some (p, m')) :
    ∃ i j : Int, ds = [.int i, .int j] ∧ (-(2 ^ 62) ≤ i ∧ i < 2 ^ 62 ∧ -(2 ^ 62) ≤ j ∧ j < 2 ^ 62) ∧ p = ((List.range (j - i).toNat).map fun (k : Nat) => D.int (i + k), none) ∧ m' = m := by
  cases ds with
  | nil => cases h
  | cons d r =>
    cases r with
    | nil => cases d <;> cases h
    | cons e r =>
      cases r with
      | cons _ _ => cases d <;> cases e <;> cases h
      | nil =>
        cases d with
        | int i =>
          cases e with
          | int j =>
            simp only [itemsD] at h
            split at h
            · cases h; exact ⟨i, j, rfl, by assumption, rfl, rfl⟩
            · cases h
          | _ => cases h
        | _ => cases e <;> cases h
theorem inv_zip {ds : List D} {m m' : List SO} {p : List D × Option (Nat × List D)} (h : itemsD .zip ds m = some (p, m')) :
    ∃ a b, ds = [.tup a, .tup b] ∧ p = ((a.zip b).map fun p => D.tup [p.1, p.2], none) ∧ m' = m := by
  cases ds with
  | nil => cases h
  | cons d r =>
    cases r with
    | nil => cases d <;> cases h
    | cons e r =>
      cases r with
      | cons _ _ => cases d <;> cases e <;> cases h
      | nil =>
        cases d with
        | tup i =>
          cases e with
          | tup j => cases h; exact ⟨i, j, rfl, rfl, rfl⟩
          | _ => cases h
        | _ => cases e <;> cases h
/-- what a for walks -/
theorem pi_D (O : XOk S k cf N cl ns X) {ik : Itk} {ca : List Expr → Bool} {f : Rho → M (List D)} {tg iter : Expr} (h : chkI S ns ca tg ik iter = true)
    (hA : ∀ es, ca es = true → PA X es (tL X.K f) ∧ es.all notStar = true)
    (h1 : ∀ e, ca [e] = true → ∃ g, PE X e (tV X.K g) ∧ f = fun r => (g r).bnd fun d => .ret [d]) :
    PI X tg iter (tI X.K fun r => (f r).bnd (itemsD ik)) := by
  have bl : ∀ x : Str, S.blt.contains x = true → X.mg x = none := fun x hx => O.blt x (List.contains_iff_mem.mp hx)
  have imp : ∀ {w w' : TI}, PI X tg iter w → (∀ σ H R, w' σ H R → w σ H R) → PI X tg iter w' := fun hp hw => ⟨fun pins s σ H R I q => hp.run pins s σ H R I (hw σ H R q)⟩
  unfold chkI at h
  split at h
  · rw [Bool.and_eq_true] at h
    obtain ⟨g, hg, rfl⟩ := h1 _ h.1
    refine ⟨fun pins s σ H R I q => ?_⟩
    obtain ⟨A, m, r, p, m', Rr, St, hx, hc, q⟩ := q
    obtain ⟨ds, m1, e1, e2⟩ := bnd_some hc
    obtain ⟨d, m2, e3, e4⟩ := bnd_some e1
    cases e4
    obtain ⟨rfl, ⟨n, ys, rfl, hy, rfl⟩ | ⟨ys, rfl, rfl⟩ | ⟨ys, rfl, rfl⟩⟩ := inv_one e2
    · refine (pi_list hg).run pins s σ H R I ⟨A, m, r, _, _, Rr, St, hx, e3, fun A1 H1 x1 R1 v hv => ?_⟩
      obtain ⟨a, rfl, ha⟩ := hv
      obtain ⟨vs, k1, k2⟩ := getL_at R1 hy ha
      exact ⟨a, rfl, ⟨vs, SqL.of k1⟩, q A1 H1 x1 R1 _ (good_list R1 ha)⟩
    · refine (pi_tup hg).run pins s σ H R I ⟨A, m, r, _, _, Rr, St, hx, e3, fun A1 H1 x1 R1 v hv => ?_⟩
      obtain ⟨a, vs, rfl, k1, k2⟩ := hv
      exact ⟨a, rfl, ⟨vs, k1⟩, q A1 H1 x1 R1 _ (good_tup k1 k2)⟩
    · refine (pi_list hg).run pins s σ H R I ⟨A, m, r, _, _, Rr, St, hx, e3, fun A1 H1 x1 R1 v hv => ?_⟩
      obtain ⟨a, vs, rfl, k1, k2⟩ := hv
      exact ⟨a, rfl, ⟨vs, k1.seq⟩, q A1 H1 x1 R1 _ (good_fz k1 k2)⟩
  · rename_i x p a pos
    simp only [Bool.and_eq_true] at h
    obtain ⟨⟨⟨hx, hb⟩, hg⟩, hc⟩ := h
    have hx := eq_of_beq hx
    subst hx
    obtain ⟨pa, ns'⟩ := hA _ hc
    refine imp (pi_range1 (O.glo hg) (bl _ hb) pa (by
      rw [List.all_cons, Bool.and_eq_true] at ns'
      rw [star_cons ns'.1]; rfl)) fun σ H R q => ?_
    obtain ⟨A, m, r, p, m', Rr, St, hx, hc, q⟩ := q
    obtain ⟨ds, m1, e1, e2⟩ := bnd_some hc
    refine ⟨A, m, r, ds, m1, Rr, St, hx, e1, fun A1 H1 x1 R1 vs hv => ?_⟩
    obtain ⟨j, rfl, hb, rfl, rfl⟩ := inv_rng1 e2
    obtain ⟨v, rfl, hv'⟩ := rds1 hv
    have ev : v = .int j := hv'
    subst ev
    refine ⟨j, rfl, hb.1, hb.2, q A1 H1 x1 R1 _ (good_rng ?_)⟩
    apply List.map_congr_left
    intro i _
    rw [Int.zero_add]
  · rename_i x p a b pos
    simp only [Bool.and_eq_true] at h
    obtain ⟨⟨⟨hx, hb⟩, hg⟩, hc⟩ := h
    have hx := eq_of_beq hx
    subst hx
    obtain ⟨pa, ns'⟩ := hA _ hc
    rw [List.all_cons, Bool.and_eq_true, List.all_cons, Bool.and_eq_true] at ns'
    refine imp (pi_range2 (O.glo hg) (bl _ hb) pa (by rw [star_cons ns'.1, star_cons ns'.2.1]; rfl) (by rw [star_cons ns'.2.1]; rfl)) fun σ H R q => ?_
    obtain ⟨A, m, r, p, m', Rr, St, hx, hc, q⟩ := q
    obtain ⟨ds, m1, e1, e2⟩ := bnd_some hc
    refine ⟨A, m, r, ds, m1, Rr, St, hx, e1, fun A1 H1 x1 R1 vs hv => ?_⟩
    obtain ⟨i, j, rfl, hb, rfl, rfl⟩ := inv_rng2 e2
    obtain ⟨v, w, rfl, hv, hw⟩ := rds2 hv
    cases hv
    cases hw
    exact ⟨i, j, rfl, hb, q A1 H1 x1 R1 _ (good_rng rfl)⟩
  · rename_i x p a b pos
    simp only [Bool.and_eq_true] at h
    obtain ⟨⟨⟨⟨hx, hb⟩, hg⟩, hc⟩, ht⟩ := h
    have hx := eq_of_beq hx
    subst hx
    obtain ⟨pa, ns'⟩ := hA _ hc
    rw [List.all_cons, Bool.and_eq_true, List.all_cons, Bool.and_eq_true] at ns'
    cases tg with
    | Tuple elts kk tpos =>
      refine imp (RZ.pi_zipA (O.glo hg) (bl _ hb) pa (star_cons ns'.1) (by rw [star_cons ns'.2.1]; rfl)) fun σ H R q => ?_
      obtain ⟨A, m, r, p, m', Rr, St, hx, hc, q⟩ := q
      obtain ⟨ds, m1, e1, e2⟩ := bnd_some hc
      refine ⟨A, m, r, ds, m1, Rr, St, hx, e1, fun A1 H1 x1 R1 vs hv => ?_⟩
      obtain ⟨xs, ys, rfl, rfl, rfl⟩ := inv_zip e2
      obtain ⟨v, w, rfl, ⟨a', va, rfl, k1, k2⟩, ⟨b', vb, rfl, k3, k4⟩⟩ := rds2 hv
      exact ⟨a', b', va, vb, rfl, .inr ⟨k1, k3, q A1 H1 x1 R1 _ (good_zip k1 k2 k3 k4)⟩⟩
    | _ => exact absurd ht Bool.false_ne_true
  · rename_i x p a pos
    simp only [Bool.and_eq_true] at h
    obtain ⟨⟨⟨hx, hb⟩, hg⟩, hc⟩ := h
    have hx := eq_of_beq hx
    subst hx
    obtain ⟨pa, ns'⟩ := hA _ hc
    refine imp (pi_reversed (O.glo hg) (bl _ hb) pa (by
      rw [List.all_cons, Bool.and_eq_true] at ns'
      rw [star_cons ns'.1]; rfl)) fun σ H R q => ?_
    obtain ⟨A, m, r, p, m', Rr, St, hx, hc, q⟩ := q
    obtain ⟨ds, m1, e1, e2⟩ := bnd_some hc
    refine ⟨A, m, r, ds, m1, Rr, St, hx, e1, fun A1 H1 x1 R1 vs hv => ?_⟩
    obtain ⟨n, ys, rfl, hy, rfl, rfl⟩ := inv_rev e2
    obtain ⟨v, rfl, a', rfl, ha⟩ := rds1 hv
    obtain ⟨vs, k1, k2⟩ := getL_at R1 hy ha
    exact ⟨a', vs, rfl, SqL.of k1, q A1 H1 x1 R1 _ (good_rev R1 ha k2.length)⟩
  · cases h
end
end Mi
namespace Mi
open PySem PySem.Spec PyProof.Rows L2
section
variable {S : Sx} {k : Nat} {cf : Str → List D → M D} {N : List Str} {cl : Bool} {ns : List (Str × NameKind)} {X : Cx}

/-- a comprehension's turns -/
noncomputable def cturn (k : Nat) (cf : Str → List D → M D) (g : Tg) (cond elt : Ex) (vs : List Nat) (r : Rho) : D → M (Option D) := fun x m => match tgt g x (wipeR r vs) m with
  | none => none
  | some r1 => match cond with
    | .nil => ((ev k cf elt r1).v.bnd fun d => .ret (some d)) m
    | c => ((ev k cf c r1).t.bnd fun t => if t = true then (ev k cf elt r1).v.bnd fun d => .ret (some d) else .ret none) m
theorem ev_comp {own : List (Str × Nat)} {g : Tg} {ik : Itk} {args cond elt : Ex} {r : Rho} {m m' : List SO} {d : D} (h : (ev k cf (.comp own g ik args cond elt) r).v m = some (d, m')) :
    ∃ it m1, ((ev k cf args r).l.bnd (itemsD ik)) m = some (it, m1) ∧ compL (cturn k cf g cond elt (own.map (·.2)) r) it.2 m1.length it.1 (m1 ++ [.lst []]) = some ((), m') ∧ d = .loc m1.length := by
  simp only [ev, den] at h
  obtain ⟨ds, m0, h1, h2⟩ := bnd_some h
  obtain ⟨it, m1, h3, h4⟩ := bnd_some h2
  refine ⟨it, m1, ?_, ?_⟩
  · unfold M.bnd
    rw [h1]
    exact h3
  · split at h4
    · rename_i u m2 hc
      cases h4
      exact ⟨hc, rfl⟩
    · cases h4
theorem still_of {g : Option (Nat × List D)} {m : List SO} {α : Type} {a : Option α} {b : α} {ins : Decidable (Still g m)} (h : @ite _ (Still g m) ins a none = some b) : Still g m ∧ a = some b := by
  split at h
  · exact ⟨by assumption, h⟩
  · cases h
/-- the condition of a comprehension -/
def tCond (K : PySem.W.Frag) (k : Nat) (cf : Str → List D → M D) (cond : Ex) : TT := match cond with
  | .nil => tYes
  | c => tT K fun r => (ev k cf c r).t
theorem comp_ok {K : PySem.W.Frag} {own : List (Str × Nat)} {g : Tg} {ik : Itk} {args cond elt : Ex} (hs : ∀ i ∈ slots g, i ∈ own.map (·.2)) {σ : L2.St} {H : Hp} {Q : VK}
    (h : tV K (fun r => (ev k cf (.comp own g ik args cond elt) r).v) σ H Q) :
    tLc (tI K fun r => (ev k cf args r).l.bnd (itemsD ik)) (gTg K g) (tCond K k cf cond) (tV K fun r => (ev k cf elt r).v) (own.map (·.2)) σ H Q := by
  obtain ⟨A, m, r, d, m', R, St, hx, hc, q⟩ := h
  obtain ⟨it, m1, h1, h2, rfl⟩ := ev_comp hc
  refine ⟨A, m, r, it, m1, R, St, hx, h1, fun A1 H1 e1 R1 J hJ C hC => ?_⟩
  have St1 := St.mono e1
  have eC := Ext.alloc (o := .lst []) R1 hC
  have RC := R1.alloc hC (show RDs K A1 H1 [] [] from rfl)
  refine ⟨fun i j H2 => j = it.1.length - i ∧ i ≤ it.1.length ∧ ∃ A2 mm, Ext (A1 ++ [C]) (upd H1 C (.lst [])) A2 H2 ∧ Rl K A2 H2 mm ∧ compL (cturn k cf g cond elt (own.map (·.2)) r) it.2 m1.length (it.1.drop i) mm = some ((), m'),
    ⟨_, rfl, Nat.zero_le _, _, _, Ext.refl _ _, RC, h2⟩, fun i j H2 hW => ?_⟩
  obtain ⟨rfl, hi, A2, mm, e2, R2, hl⟩ := hW
  have e02 : Ext A1 H1 A2 H2 := eC.trans e2
  have hCn : A2[m1.length]? = some C := e2.get (by rw [← R1.len, List.getElem?_append_right (Nat.le_refl _), Nat.sub_self]; rfl)
  by_cases hlt : i < it.1.length
  · have hg : it.1[i]? = some it.1[i] := List.getElem?_eq_getElem hlt
    rw [List.drop_eq_getElem_cons hlt] at hl
    unfold compL at hl
    obtain ⟨st, hl⟩ := still_of hl
    obtain ⟨go, yl⟩ := hJ.go A2 H2 mm i _ e02 R2 st hg
    refine .inr ⟨go, fun H' => i + 1 ≤ it.1.length ∧ ∃ A2 mm, Ext (A1 ++ [C]) (upd H1 C (.lst [])) A2 H' ∧ Rl K A2 H' mm ∧ compL (cturn k cf g cond elt (own.map (·.2)) r) it.2 m1.length (it.1.drop (i + 1)) mm = some ((), m'),
      fun H' hN => ⟨it.1.length - (i + 1), by omega, rfl, hN⟩, fun x H' hy => ?_⟩
    obtain ⟨e3, R3, rx⟩ := yl x H' hy
    have St3 : RSt K A2 H' (wipeR r (own.map (·.2))) (L2.wipe σ (own.map (·.2))) := (St1.mono (e02.trans e3)).wipe _
    cases hf : cturn k cf g cond elt (own.map (·.2)) r it.1[i] mm with
    | none => rw [hf] at hl; cases hl
    | some p =>
      obtain ⟨od, m2⟩ := p
      rw [hf] at hl
      unfold cturn at hf
      cases ht : tgt g it.1[i] (wipeR r (own.map (·.2))) mm with
      | none => rw [ht] at hf; cases hf
      | some r1 =>
        rw [ht] at hf
        refine tgt_ok (m := mm) St3 rx ht fun σ2 S2 hw => ⟨?_, ?_⟩
        · rw [hw _ hs, wipe_wipe _ _ _ fun u hu => hu]
        · have fin : ∀ A4 H4 m4, Ext A2 H' A4 H4 → Rl K A4 H4 m4 → ((ev k cf elt r1).v.bnd fun d => M.ret (some d)) m4 = some (od, m2) → RSt K A4 H4 r1 σ2 →
              tV K (fun r => (ev k cf elt r).v) σ2 H4 fun y H5 => ∃ acc, H5 C = some (.lst acc) ∧ acc.length < sizeLine ∧ (i + 1 ≤ it.1.length ∧ ∃ A2 mm, Ext (A1 ++ [C]) (upd H1 C (.lst [])) A2 (upd H5 C (.lst (acc ++ [y]))) ∧ Rl K A2 (upd H5 C (.lst (acc ++ [y]))) mm ∧ compL (cturn k cf g cond elt (own.map (·.2)) r) it.2 m1.length (it.1.drop (i + 1)) mm = some ((), m')) := by
            intro A4 H4 m4 e4 R4 hb S4
            obtain ⟨dv, m5, h5, h6⟩ := bnd_some hb
            cases h6
            refine ⟨A4, m4, r1, dv, m2, R4, S4, (fun _ z => nomatch z), h5, fun A5 H5 e5 R5 y ry => ?_⟩
            simp only at hl
            cases hgl : getL m2 m1.length with
            | none => rw [hgl] at hl; cases hl
            | some acc =>
              rw [hgl] at hl
              have hC5 : A5[m1.length]? = some C := (e3.trans (e4.trans e5)).get hCn
              obtain ⟨vs, k1, k2⟩ := getL_at R5 hgl hC5
              simp only at hl
              split at hl
              · rename_i hz
                refine ⟨vs, k1, by rw [k2.length]; exact hz, by omega, A5, _, ?_, R5.write hC5 (k2.append (RDs.one ry)), hl⟩
                exact (e2.trans (e3.trans (e4.trans e5))).trans (Ext.write R5 (List.mem_of_getElem? hC5) _)
              · cases hl
          cases cond with
          | nil => exact fin A2 H' mm (Ext.refl _ _) R3 hf S2
          | _ =>
            obtain ⟨t, m3, h3, h4⟩ := bnd_some hf
            refine ⟨A2, mm, r1, t, m3, R3, S2, (fun _ z => nomatch z), h3, fun A4 H4 e4 R4 => ?_⟩
            cases t with
            | true =>
              rw [if_pos rfl] at h4
              exact fin A4 H4 m3 e4 R4 h4 (S2.mono e4)
            | false =>
              rw [if_neg Bool.false_ne_true] at h4
              cases h4
              have fin2 : i + 1 ≤ it.1.length ∧ ∃ A2 mm, Ext (A1 ++ [C]) (upd H1 C (.lst [])) A2 H4 ∧ Rl K A2 H4 mm ∧ compL (cturn k cf g _ elt (own.map (·.2)) r) it.2 m1.length (it.1.drop (i + 1)) mm = some ((), m') := ⟨by omega, A4, _, e2.trans (e3.trans e4), R4, hl⟩
              exact fin2
  · have hi' : i = it.1.length := by omega
    subst hi'
    rw [List.drop_length] at hl
    unfold compL at hl
    obtain ⟨st, hl⟩ := still_of hl
    cases hl
    refine .inl ⟨hJ.stop A2 H2 _ _ e02 R2 st (Nat.le_refl _), ?_⟩
    exact q A2 H2 (e1.trans e02) R2 _ ⟨C, rfl, hCn⟩
end
end Mi
namespace Mi
open PySem PySem.Spec PyProof.Rows L2
section
variable {S : Sx} {k : Nat} {cf : Str → List D → M D} {N : List Str} {cl : Bool} {ns : List (Str × NameKind)} {X : Cx}

/-- what is shown of an expression's text -/
structure Snd (S : Sx) (N : List Str) (k : Nat) (cf : Str → List D → M D) (c : Ex) (cl : Bool) (ns : List (Str × NameKind)) (X : Cx) : Prop where
  e : ∀ e, (chk S N c cl ns).e e = true → PE X e (tV X.K fun r => (ev k cf c r).v) ∧ PT X e (tT X.K fun r => (ev k cf c r).t)
  a : ∀ es, (chk S N c cl ns).a es = true → PA X es (tL X.K fun r => (ev k cf c r).l) ∧ es.all notStar = true
  a0 : (chk S N c cl ns).a [] = true → ∀ r, (ev k cf c r).l = M.ret []
  a1 : ∀ e, (chk S N c cl ns).a [e] = true → ∃ g, PE X e (tV X.K g) ∧ (fun r => (ev k cf c r).l) = fun r => (g r).bnd fun d => .ret [d]
theorem Snd.of {c : Ex} {f : Expr → Bool} (hc : chk S N c cl ns = ckE f) (h : ∀ e, f e = true → PE X e (tV X.K fun r => (ev k cf c r).v) ∧ PT X e (tT X.K fun r => (ev k cf c r).t)) : Snd S N k cf c cl ns X where
  e := fun e he => h e (by rw [hc] at he; exact he)
  a := fun es he => by rw [hc] at he; exact absurd he Bool.false_ne_true
  a0 := fun he => by rw [hc] at he; exact absurd he Bool.false_ne_true
  a1 := fun es he => by rw [hc] at he; exact absurd he Bool.false_ne_true

theorem bnd_assoc {α β γ : Type} (x : M α) (f : α → M β) (g : β → M γ) : (x.bnd f).bnd g = x.bnd fun a => (f a).bnd g := by
  funext m
  unfold M.bnd
  cases x m with
  | none => rfl
  | some p => rfl
theorem ret_bnd {α β : Type} (a : α) (f : α → M β) : (M.ret a).bnd f = f a := rfl
theorem bnd_ret {α : Type} (x : M α) : (x.bnd fun a => M.ret a) = x := by
  funext m
  unfold M.bnd
  cases x m with
  | none => rfl
  | some p => rfl

theorem mem_eqb {l : List (Str × D)} {x : Str} {d : D} (h : (l.any fun p => p.1 == x && eqbD p.2 d) = true) : (x, d) ∈ l := by
  obtain ⟨p, hp, hq⟩ := mem_any h
  rw [Bool.and_eq_true] at hq
  have e1 := eq_of_beq hq.1
  have e2 := eqbD_eq hq.2
  obtain ⟨a, b⟩ := p
  subst e1 e2
  exact hp
theorem mem_eqk {l : List (Str × List (Str × D))} {x : Str} {d : List (Str × D)} (h : (l.any fun p => p.1 == x && eqbK p.2 d) = true) : (x, d) ∈ l := by
  obtain ⟨p, hp, hq⟩ := mem_any h
  rw [Bool.and_eq_true] at hq
  have e1 := eq_of_beq hq.1
  have e2 := eqbK_eq hq.2
  obtain ⟨a, b⟩ := p
  subst e1 e2
  exact hp

/-- a comprehension's parts -/
theorem comp_parts (O : XOk S k cf N cl ns X) {own : List (Str × Nat)} {g : Tg} {ik : Itk} {args cond elt : Ex} {e : Expr} (h : (chk S N (.comp own g ik args cond elt) cl ns).e e = true)
    (iA : Snd S N k cf args cl ns X) (iC : ∀ {ns' : List (Str × NameKind)} {X' : Cx}, XOk S k cf N false ns' X' → Snd S N k cf cond false ns' X') (iE : ∀ {ns' : List (Str × NameKind)} {X' : Cx}, XOk S k cf N false ns' X' → Snd S N k cf elt false ns' X') :
    ∃ el tg iter ifs scope pos, e = .ListComp el [⟨tg, iter, ifs, 0⟩] scope pos ∧ PI X tg iter (tI X.K fun r => (ev k cf args r).l.bnd (itemsD ik)) ∧ BlkOk X.N X.env.scope scope own ∧ (∀ i ∈ slots g, i ∈ own.map (·.2)) ∧
      (∀ (s : Shared) (H : Hp) (C : Addr) (cls : List (Str × Addr)) (fp : List Addr), PG (X.blk s H scope (compEnvC scope cls C X.env) fp) tg (gTg X.K g)) ∧
      (∀ (s : Shared) (H : Hp) (C : Addr) (cls : List (Str × Addr)) (fp : List Addr), PTs (X.blk s H scope (compEnvC scope cls C X.env) fp) ifs (tCond X.K k cf cond)) ∧
      (∀ (s : Shared) (H : Hp) (C : Addr) (cls : List (Str × Addr)) (fp : List Addr), PE (X.blk s H scope (compEnvC scope cls C X.env) fp) el (tV X.K fun r => (ev k cf elt r).v)) ∧ ∀ x, foldedSetIterable iter X.env x = pure x := by
  cases e with
  | ListComp el gens scope pos =>
    cases gens with
    | nil => exact absurd h Bool.false_ne_true
    | cons gh gt =>
      obtain ⟨tg, iter, ifs, as⟩ := gh
      cases gt with
      | cons _ _ => exact absurd h Bool.false_ne_true
      | nil =>
        have h' : (decide (as = 0) && blkC N { kind := .function, names := ns, isGenerator := false, isCoroutine := false } scope own &&
          chkI S ns (chk S N args cl ns).a tg ik iter && chkT N false (relN ns scope.names) g tg && (slots g).all (fun i => (own.map (·.2)).contains i) && notSet iter && (chk S N elt false (relN ns scope.names)).e el &&
          (match (generalizing := false) ifs with
            | [] => (match (generalizing := false) cond with | .nil => true | _ => false)
            | [c] => (match (generalizing := false) cond with | .nil => false | _ => true) && (chk S N cond false (relN ns scope.names)).e c
            | _ => false)) = true := h
        simp only [Bool.and_eq_true] at h'
        obtain ⟨⟨⟨⟨⟨⟨⟨has, hblk⟩, hi⟩, ht⟩, hsl⟩, hns⟩, hel⟩, hifs⟩ := h'
        have has := of_decide_eq_true has
        subst has
        have OB := fun s H C cls fp => O.blk (blk_kind hblk) s H C cls fp
        refine ⟨el, tg, iter, ifs, scope, pos, rfl, pi_D O hi iA.a fun e he => ?_, blk_by O hblk, fun i hi => List.contains_iff_mem.mp (List.all_eq_true.mp hsl i hi), fun s H C cls fp => pg_tg (OB s H C cls fp) ht, ?_,
          fun s H C cls fp => ((iE (OB s H C cls fp)).e el hel).1, fold_set hns⟩
        · obtain ⟨g', h1, h2⟩ := iA.a1 e he
          exact ⟨g', h1, h2⟩
        · intro s H C cls fp
          cases ifs with
          | nil =>
            cases cond with
            | nil => exact pts_nil
            | _ => exact absurd hifs Bool.false_ne_true
          | cons c r =>
            cases r with
            | cons _ _ => exact absurd hifs Bool.false_ne_true
            | nil =>
              rw [Bool.and_eq_true] at hifs
              have pt := ((iC (OB s H C cls fp)).e c hifs.2).2
              cases cond with
              | nil => exact absurd hifs.1 Bool.false_ne_true
              | _ => exact pts_one pt
  | _ => exact absurd h Bool.false_ne_true

theorem sound : ∀ (c : Ex) {cl : Bool} {ns : List (Str × NameKind)} {X : Cx}, XOk S k cf N cl ns X → Snd S N k cf c cl ns X
  | .nil, cl, ns, X, O => ⟨fun e h => absurd h Bool.false_ne_true, fun es h => by
      cases es with
      | nil => exact ⟨PA.imp pa_nil fun σ H Q h => by
          obtain ⟨A, m, r, b, m', R, St, hx, hc, q⟩ := h
          cases hc
          exact q A H (Ext.refl A H) R [] rfl, rfl⟩
      | cons _ _ => exact absurd h Bool.false_ne_true, fun _ _ => rfl, fun e h => absurd h Bool.false_ne_true⟩
  | .cons c cs, cl, ns, X, O => by
      have ih1 := sound c O
      have ih2 := sound cs O
      refine ⟨fun e h => absurd h Bool.false_ne_true, fun es h => ?_, fun h => absurd h Bool.false_ne_true, fun e h => ?_⟩
      · cases es with
        | nil => exact absurd h Bool.false_ne_true
        | cons e es =>
          have h' : (notStar e && (chk S N c cl ns).e e && (chk S N cs cl ns).a es) = true := h
          rw [Bool.and_eq_true, Bool.and_eq_true] at h'
          obtain ⟨p1, _⟩ := ih1.e e h'.1.2
          obtain ⟨p2, s2⟩ := ih2.a es h'.2
          refine ⟨PA.imp (pa_cons p1 p2 (star_cons h'.1.1)) fun σ H Q q => ?_, by rw [List.all_cons, Bool.and_eq_true]; exact ⟨h'.1.1, s2⟩⟩
          obtain ⟨A, m, r, b, m', R, St, hx, hc, q⟩ := q
          obtain ⟨d, m1, h1, h2⟩ := bnd_some hc
          obtain ⟨ds, m2, h3, h4⟩ := bnd_some h2
          cases h4
          exact ⟨A, m, r, d, m1, R, St, hx, h1, fun A1 H1 e1 R1 v hv => ⟨A1, m1, r, ds, m', R1, St.mono e1, (fun _ z => nomatch z), h3, fun A2 H2 e2 R2 vs hvs => q A2 H2 (e1.trans e2) R2 (v :: vs) ⟨v, vs, rfl, hv.mono e2, hvs⟩⟩⟩
      · have h' : (notStar e && (chk S N c cl ns).e e && (chk S N cs cl ns).a []) = true := h
        rw [Bool.and_eq_true, Bool.and_eq_true] at h'
        obtain ⟨p1, _⟩ := ih1.e e h'.1.2
        refine ⟨_, p1, ?_⟩
        funext r
        show (ev k cf c r).v.bnd (fun d => (ev k cf cs r).l.bnd fun ds => .ret (d :: ds)) = _
        rw [ih2.a0 h'.2 r]
        rfl
  | .var i, cl, ns, X, O => .of rfl fun e h => by
      split at h
      · rename_i x p
        rw [Bool.and_eq_true, Bool.and_eq_true] at h
        obtain ⟨d1, d2⟩ := noDb_1 h.2
        refine both_den rfl (PE.imp (pe_var (by rw [O.eN]; exact eq_of_beq h.1.1) (O.vis h.1.2) d1 d2) fun σ H Q q => ?_)
        obtain ⟨A, m, r, b, m', R, St, hx, hc, q⟩ := q
        simp only at hc
        split at hc
        · rename_i d hd
          cases hc
          obtain ⟨v, e1, e2⟩ := St.at_ i _ hd
          exact ⟨v, e1, q A H (Ext.refl A H) R v e2⟩
        · cases hc
      · cases h
  | .cst d, cl, ns, X, O => .of rfl fun e h => by
      split at h
      · rename_i c j p
        refine both_den rfl ?_
        have fin : ∀ {v : V}, (∀ A H, RD X.K A H d v) → ∀ σ H Q, tV X.K (fun _ => M.ret d) σ H Q → tC v σ H Q := fun {v} hv σ H Q q => by
          obtain ⟨A, m, r, b, m', R, St, hx, hc, q⟩ := q
          cases hc
          exact q A H (Ext.refl A H) R v (hv A H)
        split at h
        · exact PE.imp pe_non (fin fun _ _ => rfl)
        · have := eq_of_beq h; subst this; exact PE.imp pe_bl (fin fun _ _ => rfl)
        · have := eq_of_beq h; subst this; exact PE.imp pe_int (fin fun _ _ => rfl)
        · have := eq_of_beq h; subst this; exact PE.imp pe_str (fin fun _ _ => rfl)
        · cases h
      · cases h
  | .glb x d, cl, ns, X, O => .of rfl fun e h => by
      split at h
      · rename_i y p
        simp only [Bool.and_eq_true] at h
        obtain ⟨⟨⟨hx, hg⟩, hd⟩, hm⟩ := h
        have hx := eq_of_beq hx
        subst hx
        obtain ⟨u, v, e1, e2, e3⟩ := O.gl _ (mem_eqb hm)
        refine both_den rfl (PE.imp (pe_glob (O.glo hg) e1 e2 (noDb_1 hd).1) fun σ H Q q => ?_)
        obtain ⟨A, m, r, b, m', R, St, hx, hc, q⟩ := q
        cases hc
        exact q A H (Ext.refl A H) R v (e3 A H)
      · cases h
  | .bin o a b, cl, ns, X, O => .of rfl fun e h => by
      split at h
      · simp only [Bool.and_eq_true] at h
        have ho := of_decide_eq_true h.1.1
        subst ho
        exact both_den rfl (PE.imp (pe_op (op_bin o) ((sound a O).e _ h.1.2).1 ((sound b O).e _ h.2).1) fun σ H Q q => pend_2 q)
      · cases h
  | .neg a, cl, ns, X, O => .of rfl fun e h => by
      split at h
      · refine both_den rfl (PE.imp (pe_un un_neg ((sound a O).e _ h).1) fun σ H Q q => ?_)
        refine (pend_1 q).imp fun A z => ?_
        obtain ⟨m, r, d, m1, R, St, hx, h1, q⟩ := z
        refine ⟨m, r, d, m1, R, St, hx, h1, fun A1 H1 e1 R1 v hv => ?_⟩
        obtain ⟨A2, m2, d2, b, m3, R2, hd, hc, q2⟩ := q A1 H1 e1 R1 v hv
        simp only at hc
        split at hc
        · cases hc
          cases hd
          exact ⟨_, rfl, q2 A2 H1 (Ext.refl _ _) R2 _ rfl⟩
        · cases hc
      · cases h
  | .cmp o a b, cl, ns, X, O => .of rfl fun e h => by
      split at h
      · simp only [Bool.and_eq_true] at h
        obtain ⟨⟨⟨ho, h1⟩, h2⟩, h3⟩ := h
        have ho := of_decide_eq_true ho
        subst ho
        exact both_cmp (op_cmp O.room o) ((sound a O).e _ h1).1 ((sound b O).e _ h2).1 (marks_no h3)
      · cases h
  | .chain o o' a b c, cl, ns, X, O => .of rfl fun e h => by
      split at h
      · rename_i x op op' y z p
        simp only [Bool.and_eq_true] at h
        obtain ⟨⟨⟨⟨⟨ho, ho'⟩, h1⟩, h2⟩, h3⟩, h4⟩ := h
        have ho := of_decide_eq_true ho
        have ho' := of_decide_eq_true ho'
        subst ho ho'
        have hm : lastMarks [copOf o, copOf o'] [y, z] = false := marks_no h4
        have key : ∀ σ H (Q : Bool → Hp → Prop), tT X.K (fun r => (ev k cf (.chain o o' a b c) r).t) σ H Q →
            tChain (r2B X.K (cmpM k o)) (r2B X.K (cmpM k o')) (tV X.K fun r => (ev k cf a r).v) (tV X.K fun r => (ev k cf b r).v) (tV X.K fun r => (ev k cf c r).v) σ H fun z H3 => ∃ b, z = .bl b ∧ Q b H3 := by
          intro σ H Q q
          obtain ⟨A, m, r, t, m', R, St, hx, hc, q⟩ := q
          obtain ⟨d1, m1, k1, hc⟩ := bnd_some hc
          obtain ⟨d2, m2, k2, hc⟩ := bnd_some hc
          obtain ⟨t1, m3, k3, hc⟩ := bnd_some hc
          refine ⟨A, m, r, d1, m1, R, St, hx, k1, fun A1 H1 e1 R1 v1 hv1 => ⟨A1, m1, r, d2, m2, R1, St.mono e1, (fun _ z => nomatch z), k2, fun A2 H2 e2 R2 v2 hv2 => ?_⟩⟩
          refine ⟨A2, m2, d1, d2, t1, m3, R2, hv1.mono e2, hv2, k3, fun A3 H3 e3 R3 => ⟨t1, rfl, ?_⟩⟩
          cases t1 with
          | true =>
            rw [if_pos rfl] at hc ⊢
            obtain ⟨d3, m4, k4, hc⟩ := bnd_some hc
            refine ⟨A3, m3, r, d3, m4, R3, St.mono (e1.trans (e2.trans e3)), (fun _ z => nomatch z), k4, fun A4 H4 e4 R4 v3 hv3 => ?_⟩
            exact ⟨A4, m4, d2, d3, t, m', R4, hv2.mono (e3.trans e4), hv3, hc, fun A5 H5 e5 R5 => ⟨t, rfl, q A5 H5 (e1.trans (e2.trans (e3.trans (e4.trans e5)))) R5⟩⟩
          | false =>
            rw [if_neg Bool.false_ne_true] at hc ⊢
            cases hc
            exact ⟨false, rfl, q A3 H3 (e1.trans (e2.trans e3)) R3⟩
        refine ⟨PE.imp (pe_chain (op_cmp O.room o) (op_cmp O.room o') ((sound a O).e _ h1).1 ((sound b O).e _ h2).1 ((sound c O).e _ h3).1 hm) fun σ H Q q => ?_,
          PT.imp (pt_chain (op_cmp O.room o) (op_cmp O.room o') ((sound a O).e _ h1).1 ((sound b O).e _ h2).1 ((sound c O).e _ h3).1 hm) key⟩
        have q' := key σ H (fun b H => Q (.bl b) H) (pend_bl q)
        have hQ : (fun z H3 => ∃ b, z = V.bl b ∧ Q (.bl b) H3) = fun z H3 => ∃ b, z = V.bl b ∧ Q z H3 := by
          funext z H3
          apply propext
          constructor
          · rintro ⟨b, rfl, h⟩; exact ⟨b, rfl, h⟩
          · rintro ⟨b, rfl, h⟩; exact ⟨b, rfl, h⟩
        rw [hQ] at q'
        clear key q hQ
        obtain ⟨A, m, r, d1, m1, R, St, hx, k1, q⟩ := q'
        refine ⟨A, m, r, d1, m1, R, St, hx, k1, fun A1 H1 e1 R1 v1 hv1 => ?_⟩
        obtain ⟨A, m, r, d1, m1, R, St, hx, k1, q⟩ := q A1 H1 e1 R1 v1 hv1
        refine ⟨A, m, r, d1, m1, R, St, hx, k1, fun A2 H2 e2 R2 v2 hv2 => ?_⟩
        obtain ⟨A, m, x', y', b', m', R, hx1, hy1, k2, q⟩ := q A2 H2 e2 R2 v2 hv2
        refine ⟨A, m, x', y', b', m', R, hx1, hy1, k2, fun A3 H3 e3 R3 => ?_⟩
        obtain ⟨t, et, q⟩ := q A3 H3 e3 R3
        refine ⟨t, et, ?_⟩
        cases t with
        | true =>
          rw [if_pos rfl] at q ⊢
          obtain ⟨A, m, r, d1, m1, R, St, hx, k1, q⟩ := q
          refine ⟨A, m, r, d1, m1, R, St, hx, k1, fun A4 H4 e4 R4 v3 hv3 => ?_⟩
          obtain ⟨A, m, x', y', b', m', R, hx1, hy1, k2, q⟩ := q A4 H4 e4 R4 v3 hv3
          refine ⟨A, m, x', y', b', m', R, hx1, hy1, k2, fun A5 H5 e5 R5 => ?_⟩
          obtain ⟨_, _, q⟩ := q A5 H5 e5 R5
          exact q
        | false =>
          rw [if_neg Bool.false_ne_true] at q ⊢
          obtain ⟨_, _, q⟩ := q
          exact q
      · cases h
  | .and a b, cl, ns, X, O => .of rfl fun e h => by
      split at h
      · rename_i x y rest p
        rw [Bool.and_eq_true] at h
        obtain ⟨p1, t1⟩ := (sound a O).e _ h.1
        have hb : PE X (.BoolOp .And (y :: rest) p) (tV X.K fun r => (ev k cf b r).v) ∧ PW X (.BoolOp .And (y :: rest) p) (tT X.K fun r => (ev k cf b r).t) := by
          have h2 := h.2
          cases rest with
          | nil =>
            obtain ⟨p2, t2⟩ := (sound b O).e _ h2
            exact ⟨pe_one p2, pw_and1 t2⟩
          | cons z r =>
            obtain ⟨p2, t2⟩ := (sound b O).e _ h2
            exact ⟨p2, pw_of_pt t2⟩
        refine ⟨PE.imp (pe_andT p1 hb.1) fun σ H Q q => ?_, PT.imp (pw_and t1 hb.2).pt fun σ H Q q => ?_⟩
        · obtain ⟨A, m, r, b', m', R, St, hx, hc, q⟩ := q
          obtain ⟨d, m1, k1, hc⟩ := bnd_some hc
          obtain ⟨t, m2, k2, hc⟩ := bnd_some hc
          refine ⟨A, m, r, d, m1, R, St, hx, k1, fun A1 H1 e1 R1 v hv => ?_⟩
          unfold truthM at k2
          split at k2
          · rename_i t' ht
            cases k2
            refine ⟨t, truth_ok R1 ht hv, ?_⟩
            cases t with
            | true =>
              rw [if_pos rfl] at hc ⊢
              exact ⟨A1, _, r, b', m', R1, St.mono e1, (fun _ z => nomatch z), hc, fun A2 H2 e2 R2 => q A2 H2 (e1.trans e2) R2⟩
            | false =>
              rw [if_neg Bool.false_ne_true] at hc ⊢
              cases hc
              exact q A1 H1 e1 R1 v hv
          · cases k2
        · obtain ⟨A, m, r, b', m', R, St, hx, hc, q⟩ := q
          obtain ⟨t, m1, k1, hc⟩ := bnd_some hc
          refine ⟨A, m, r, t, m1, R, St, hx, k1, fun A1 H1 e1 R1 => ?_⟩
          cases t with
          | true => exact ⟨A1, m1, r, b', m', R1, St.mono e1, (fun _ z => nomatch z), hc, fun A2 H2 e2 R2 => q A2 H2 (e1.trans e2) R2⟩
          | false => cases hc; exact q A1 H1 e1 R1
      · cases h
  | .or a b, cl, ns, X, O => .of rfl fun e h => by
      split at h
      · rename_i x y rest p
        rw [Bool.and_eq_true] at h
        obtain ⟨p1, t1⟩ := (sound a O).e _ h.1
        have hb : PE X (.BoolOp .Or (y :: rest) p) (tV X.K fun r => (ev k cf b r).v) ∧ PW X (.BoolOp .Or (y :: rest) p) (tT X.K fun r => (ev k cf b r).t) := by
          have h2 := h.2
          cases rest with
          | nil =>
            obtain ⟨p2, t2⟩ := (sound b O).e _ h2
            exact ⟨pe_one p2, pw_or1 t2⟩
          | cons z r =>
            obtain ⟨p2, t2⟩ := (sound b O).e _ h2
            exact ⟨p2, pw_of_pt t2⟩
        refine ⟨PE.imp (pe_orT p1 hb.1) fun σ H Q q => ?_, PT.imp (pw_or t1 hb.2).pt fun σ H Q q => ?_⟩
        · obtain ⟨A, m, r, b', m', R, St, hx, hc, q⟩ := q
          obtain ⟨d, m1, k1, hc⟩ := bnd_some hc
          obtain ⟨t, m2, k2, hc⟩ := bnd_some hc
          refine ⟨A, m, r, d, m1, R, St, hx, k1, fun A1 H1 e1 R1 v hv => ?_⟩
          unfold truthM at k2
          split at k2
          · rename_i t' ht
            cases k2
            refine ⟨t, truth_ok R1 ht hv, ?_⟩
            cases t with
            | true =>
              rw [if_pos rfl] at hc ⊢
              cases hc
              exact q A1 H1 e1 R1 v hv
            | false =>
              rw [if_neg Bool.false_ne_true] at hc ⊢
              exact ⟨A1, _, r, b', m', R1, St.mono e1, (fun _ z => nomatch z), hc, fun A2 H2 e2 R2 => q A2 H2 (e1.trans e2) R2⟩
          · cases k2
        · obtain ⟨A, m, r, b', m', R, St, hx, hc, q⟩ := q
          obtain ⟨t, m1, k1, hc⟩ := bnd_some hc
          refine ⟨A, m, r, t, m1, R, St, hx, k1, fun A1 H1 e1 R1 => ?_⟩
          cases t with
          | true => cases hc; exact q A1 H1 e1 R1
          | false => exact ⟨A1, m1, r, b', m', R1, St.mono e1, (fun _ z => nomatch z), hc, fun A2 H2 e2 R2 => q A2 H2 (e1.trans e2) R2⟩
      · cases h
  | .not a, cl, ns, X, O => .of rfl fun e h => by
      split at h
      · obtain ⟨p1, t1⟩ := (sound a O).e _ h
        refine ⟨PE.imp (pe_notT p1) fun σ H Q q => ?_, PT.imp (pt_not t1) fun σ H Q q => ?_⟩
        · obtain ⟨A, m, r, b', m', R, St, hx, hc, q⟩ := q
          obtain ⟨d, m1, k1, hc⟩ := bnd_some hc
          obtain ⟨t, m2, k2, hc⟩ := bnd_some hc
          cases hc
          refine ⟨A, m, r, d, m1, R, St, hx, k1, fun A1 H1 e1 R1 v hv => ?_⟩
          unfold truthM at k2
          split at k2
          · rename_i t' ht
            cases k2
            exact ⟨t, truth_ok R1 ht hv, q A1 H1 e1 R1 _ rfl⟩
          · cases k2
        · obtain ⟨A, m, r, b', m', R, St, hx, hc, q⟩ := q
          obtain ⟨t, m1, k1, hc⟩ := bnd_some hc
          cases hc
          exact ⟨A, m, r, t, _, R, St, hx, k1, fun A1 H1 e1 R1 => q A1 H1 e1 R1⟩
      · cases h
  | .ifx c a b, cl, ns, X, O => .of rfl fun e h => by
      split at h
      · simp only [Bool.and_eq_true] at h
        refine ⟨PE.imp (pe_ifExp ((sound c O).e _ h.1.1).2 ((sound a O).e _ h.1.2).1 ((sound b O).e _ h.2).1) fun σ H Q q => ?_, pt_no⟩
        obtain ⟨A, m, r, b', m', R, St, hx, hc, q⟩ := q
        obtain ⟨t, m1, k1, hc⟩ := bnd_some hc
        refine ⟨A, m, r, t, m1, R, St, hx, k1, fun A1 H1 e1 R1 => ?_⟩
        cases t with
        | true => exact ⟨A1, m1, r, b', m', R1, St.mono e1, (fun _ z => nomatch z), hc, fun A2 H2 e2 R2 => q A2 H2 (e1.trans e2) R2⟩
        | false => exact ⟨A1, m1, r, b', m', R1, St.mono e1, (fun _ z => nomatch z), hc, fun A2 H2 e2 R2 => q A2 H2 (e1.trans e2) R2⟩
      · cases h
  | .tup es, cl, ns, X, O => .of rfl fun e h => by
      split at h
      · obtain ⟨pa, _⟩ := (sound es O).a _ h
        refine both_den rfl (PE.imp (pe_tup pa) fun σ H Q q => ?_)
        obtain ⟨A, m, r, b', m', R, St, hx, hc, q⟩ := q
        obtain ⟨ds, m1, k1, hc⟩ := bnd_some hc
        refine ⟨A, m, r, ds, m1, R, St, hx, k1, fun A1 H1 e1 R1 vs hv => ?_⟩
        unfold newT at hc
        split at hc
        · cases hc
          exact ⟨by rw [hv.length]; assumption, fun p hp => tup_fin R1 hv (fun A2 H2 e2 R2 => q A2 H2 (e1.trans e2) R2) hp⟩
        · cases hc
      · cases h
  | .lst es, cl, ns, X, O => .of rfl fun e h => by
      split at h
      · obtain ⟨pa, _⟩ := (sound es O).a _ h
        refine both_den rfl (PE.imp (pe_lst pa) fun σ H Q q => ?_)
        obtain ⟨A, m, r, b', m', R, St, hx, hc, q⟩ := q
        obtain ⟨ds, m1, k1, hc⟩ := bnd_some hc
        refine ⟨A, m, r, ds, m1, R, St, hx, k1, fun A1 H1 e1 R1 vs hv => ?_⟩
        unfold newL at hc
        split at hc
        · cases hc
          exact ⟨by rw [hv.length]; assumption, fun p hp => alloc_fin R1 hv (fun A2 H2 e2 R2 => q A2 H2 (e1.trans e2) R2) hp⟩
        · cases hc
      · cases h
  | .idx a i, cl, ns, X, O => .of rfl fun e h => by
      split at h
      · simp only [Bool.and_eq_true] at h
        exact both_den rfl (PE.imp (pe_ix ix_D ((sound a O).e _ h.1.1).1 ((sound i O).e _ h.1.2).1 (plainIx h.2)) fun σ H Q q => pend_2 q)
      · cases h
  | .slc a lo hi, cl, ns, X, O => .of rfl fun e h => by
      split at h
      · rename_i x l hh p1 p2
        simp only [Bool.and_eq_true] at h
        have part : ∀ (c : Ex) (o : Option Expr), Snd S N k cf c cl ns X → (chk S N c cl ns).a o.toList = true →
            PO X o (fun σ H Q => Pend X.K σ H [] (fun r => (ev k cf c r).l) fun A H _ ds => ∃ o, ptO ds = some o ∧ Q o H) := by
          intro c o sc ho
          cases o with
          | none =>
            have e0 := sc.a0 ho
            refine ⟨fun pins s σ H Q I q => po_none.run pins s σ H Q I ?_⟩
            obtain ⟨A, m, r, b', m', R, St, hx, hc, q⟩ := q
            simp only at hc
            rw [e0 r] at hc
            cases hc
            obtain ⟨o, ho, q⟩ := q A H (Ext.refl A H) R
            cases ho
            exact q
          | some e =>
            obtain ⟨g, pg, eg⟩ := sc.a1 e ho
            refine ⟨fun pins s σ H Q I q => (po_some pg).run pins s σ H Q I ?_⟩
            obtain ⟨A, m, r, b', m', R, St, hx, hc, q⟩ := q
            have hc' : ((g r).bnd fun d => M.ret [d]) m = some (b', m') := by rw [← hc]; exact (congrFun (congrFun eg r) m).symm
            obtain ⟨d, m1, k1, hc'⟩ := bnd_some hc'
            cases hc'
            refine ⟨A, m, r, d, m', R, St, hx, k1, fun A1 H1 e1 R1 v hv => ?_⟩
            obtain ⟨o, ho, q⟩ := q A1 H1 e1 R1
            cases d with
            | int i => cases hv; cases ho; exact ⟨i, rfl, q⟩
            | _ => cases ho
        refine both_den rfl (PE.imp (pe_slice sl_D ((sound a O).e _ h.1.1).1 (part lo l (sound lo O) h.1.2) (part hi hh (sound hi O) h.2)) fun σ H Q q => ?_)
        obtain ⟨A, m, r, b', m', R, St, hx, hc, q⟩ := q
        obtain ⟨d, m1, k1, hc⟩ := bnd_some hc
        obtain ⟨l1, m2, k2, hc⟩ := bnd_some hc
        obtain ⟨l2, m3, k3, hc⟩ := bnd_some hc
        split at hc
        · rename_i o1 o2 ho1 ho2
          refine ⟨A, m, r, d, m1, R, St, hx, k1, fun A1 H1 e1 R1 v hv => ⟨A1, m1, r, l1, m2, R1, St.mono e1, (fun _ z => nomatch z), k2, fun A2 H2 e2 R2 => ⟨o1, ho1, ?_⟩⟩⟩
          refine ⟨A2, m2, r, l2, m3, R2, St.mono (e1.trans e2), (fun _ z => nomatch z), k3, fun A3 H3 e3 R3 => ⟨o2, ho2, ?_⟩⟩
          exact ⟨A3, m3, d, b', m', R3, hv.mono (e2.trans e3), hc, fun A4 H4 e4 R4 => q A4 H4 (e1.trans (e2.trans (e3.trans e4))) R4⟩
        · cases hc
      · cases h
  | .rvs a, cl, ns, X, O => .of rfl fun e h => by
      split at h
      · rename_i x i j p1 p2 p3 p4
        rw [Bool.and_eq_true] at h
        have hi := eq_of_beq h.1
        subst hi
        have pa := ((sound a O).e _ h.2).1
        refine both_den rfl ⟨fun pins s σ H Q I q => ?_⟩
        obtain ⟨A, m, r, b', m', R, St, hx, hc, q⟩ := q
        obtain ⟨d, m1, k1, hc⟩ := bnd_some hc
        split at hc
        · split at hc
          · rename_i n xs hg
            cases hc
            refine (pe_revL pa).run pins s σ H Q I ⟨A, m, r, _, m1, R, St, hx, k1, fun A1 H1 e1 R1 v hv => ?_⟩
            obtain ⟨a', rfl, ha⟩ := hv
            obtain ⟨vs, g1, g2⟩ := getL_at R1 hg ha
            exact ⟨a', vs, rfl, SqL.of g1, fun p hp => alloc_fin R1 g2.reverse (fun A2 H2 e2 R2 => q A2 H2 (e1.trans e2) R2) hp⟩
          · cases hc
        · cases hc
          refine (pe_revT pa).run pins s σ H Q I ⟨A, m, r, _, _, R, St, hx, k1, fun A1 H1 e1 R1 v hv => ?_⟩
          obtain ⟨a', vs, rfl, g1, g2⟩ := hv
          exact ⟨a', vs, rfl, g1, fun p hp => tup_fin R1 g2.reverse (fun A2 H2 e2 R2 => q A2 H2 (e1.trans e2) R2) hp⟩
        · cases hc
      · cases h
  | .call f es, cl, ns, X, O => .of rfl fun e h => by
      split at h
      · rename_i x p y ys pos
        simp only [Bool.and_eq_true] at h
        obtain ⟨⟨⟨⟨hx, hf⟩, hg⟩, hd⟩, ha⟩ := h
        have hx := eq_of_beq hx
        subst hx
        obtain ⟨fa, fd, ps, m1, m2, m3, m4⟩ := O.fn _ (List.contains_iff_mem.mp hf)
        obtain ⟨pa, sa⟩ := (sound es O).a _ ha
        rw [List.all_cons, Bool.and_eq_true] at sa
        refine both_den rfl (PE.imp (pe_call m4 O.room (O.glo hg) m1 m2 m3 .nil (E := E0) pass0 pa (noDb_1 hd).1 (star_cons sa.1) (back_any sa.2)) fun σ H Q q => ?_)
        obtain ⟨A, m, r, b', m', R, St, hx, hc, q⟩ := q
        obtain ⟨ds, m5, k1, hc⟩ := bnd_some hc
        refine ⟨A, m, r, ds, m5, R, St, hx, k1, fun A1 H1 e1 R1 vs hv => ?_⟩
        exact (⟨A1, m5, ds, b', m', R1, by rw [List.append_nil]; exact hv, hc, fun A2 H2 e2 R2 => q A2 H2 (e1.trans e2) R2⟩ : spD X.K (cf x) (vs ++ []) H1 Q E0)
      · cases h
  | .blt b es, cl, ns, X, O => .of rfl fun e h => by
      split at h
      · rename_i x p y ys pos
        simp only [Bool.and_eq_true] at h
        obtain ⟨⟨⟨hx, hf⟩, hg⟩, ha⟩ := h
        have hx := eq_of_beq hx
        subst hx
        have m1 := O.blt _ (List.contains_iff_mem.mp hf)
        obtain ⟨pa, sa⟩ := (sound es O).a _ ha
        rw [List.all_cons, Bool.and_eq_true] at sa
        have pe : PE X (.Call (.Name (bltN b) p) (y :: ys) [] pos) (tCB (rC X.K (bltD b)) (tL X.K fun r => (ev k cf es r).l)) := by
          have hc := call_blt O.calm b
          cases b with
          | len => exact pe_callB hc (O.glo hg) m1 (by decide +kernel) pa (by decide) (by decide) (star_cons sa.1) (back_any sa.2)
          | min => exact pe_callB hc (O.glo hg) m1 (by decide +kernel) pa (by decide) (by decide) (star_cons sa.1) (back_any sa.2)
          | int => exact pe_callTy hc (O.glo hg) m1 (by decide +kernel) pa (by decide) (by decide) (star_cons sa.1) (back_any sa.2)
          | tuple => exact pe_callTy hc (O.glo hg) m1 (by decide +kernel) pa (by decide) (by decide) (star_cons sa.1) (back_any sa.2)
          | list => exact pe_callTy hc (O.glo hg) m1 (by decide +kernel) pa (by decide) (by decide) (star_cons sa.1) (back_any sa.2)
        refine both_den rfl (PE.imp pe fun σ H Q q => ?_)
        obtain ⟨A, m, r, b', m', R, St, hx, hc, q⟩ := q
        obtain ⟨ds, m5, k1, hc⟩ := bnd_some hc
        exact ⟨A, m, r, ds, m5, R, St, hx, k1, fun A1 H1 e1 R1 vs hv => ⟨A1, m5, ds, b', m', R1, hv, hc, fun A2 H2 e2 R2 => q A2 H2 (e1.trans e2) R2⟩⟩
      · cases h
  | .meth f o es, cl, ns, X, O => .of rfl fun e h => by
      split at h
      · rename_i x nm ap ys cp
        simp only [Bool.and_eq_true] at h
        obtain ⟨⟨⟨⟨⟨hn, hcl⟩, hl⟩, ho⟩, ha⟩, hf⟩ := h
        have hn := eq_of_beq hn
        subst hn
        have po := ((sound o O).e _ ho).1
        obtain ⟨pa, sa⟩ := (sound es O).a _ ha
        have few : ∀ (y : Expr) (r : List Expr), r = [] → notStar y = true → ((backTo cp (starEach [y] X.env)).all (fun x => !x.1) && (backToKw cp (keywordEach [] X.env)).all (fun x => x.1.isSome)
            && decide ([y].length + ([] : List Keyword).length + (if ([] : List Keyword).isEmpty then 0 else 1) < 30)) = true := by
          intro y r _ hy
          rw [star_cons hy]
          rfl
        cases f with
        | pop =>
          cases ys with
          | cons _ _ => exact absurd hf Bool.false_ne_true
          | nil =>
            refine both_den rfl (PE.imp (pe_bm0 PySem.F.plainAttrs_list PySem.F.slot_list_pop PySem.F.type_list_pop mt_D_pop po (abase hcl) hl) fun σ H Q q => ?_)
            obtain ⟨A, m, r, b', m', R, St, hx, hc, q⟩ := q
            obtain ⟨d, m1, k1, hc⟩ := bnd_some hc
            obtain ⟨ds, m2, k2, hc⟩ := bnd_some hc
            rw [(sound es O).a0 ha r] at k2
            cases k2
            refine ⟨A, m, r, d, _, R, St, hx, k1, fun A1 H1 e1 R1 v hv => ⟨?_, A1, _, d, [], b', m', R1, hv, rfl, hc, fun A2 H2 e2 R2 => q A2 H2 (e1.trans e2) R2⟩⟩
            cases d with
            | loc n =>
              obtain ⟨a', rfl, h1⟩ := hv
              obtain ⟨ws, w1⟩ := R1.mem (List.mem_of_getElem? h1)
              exact .inl ⟨rfl, ws, SqL.of w1⟩
            | _ => cases hc
        | append =>
          cases ys with
          | nil => exact absurd hf Bool.false_ne_true
          | cons y r =>
            cases r with
            | cons _ _ => exact absurd hf Bool.false_ne_true
            | nil =>
              rw [List.all_cons, Bool.and_eq_true] at sa
              refine both_den rfl (PE.imp (pe_bm PySem.F.plainAttrs_list PySem.F.slot_list_append PySem.F.type_list_append mt_D_append po pa (abase hcl) (few y [] rfl sa.1) hl (star_cons sa.1) rfl) fun σ H Q q => ?_)
              obtain ⟨A, m, r, b', m', R, St, hx, hc, q⟩ := q
              obtain ⟨d, m1, k1, hc⟩ := bnd_some hc
              obtain ⟨ds, m2, k2, hc⟩ := bnd_some hc
              refine ⟨A, m, r, d, m1, R, St, hx, k1, fun A1 H1 e1 R1 v hv => ⟨?_, A1, m1, r, ds, m2, R1, St.mono e1, (fun _ z => nomatch z), k2, fun A2 H2 e2 R2 vs hvs =>
                ⟨A2, m2, d, ds, b', m', R2, hv.mono e2, hvs, hc, fun A3 H3 e3 R3 => q A3 H3 (e1.trans (e2.trans e3)) R3⟩⟩⟩
              obtain ⟨n, _, _, rfl, _⟩ := inv_append hc
              obtain ⟨a', rfl, h1⟩ := hv
              obtain ⟨ws, w1⟩ := R1.mem (List.mem_of_getElem? h1)
              exact .inl ⟨rfl, ws, SqL.of w1⟩
        | extend =>
          cases ys with
          | nil => exact absurd hf Bool.false_ne_true
          | cons y r =>
            cases r with
            | cons _ _ => exact absurd hf Bool.false_ne_true
            | nil =>
              rw [List.all_cons, Bool.and_eq_true] at sa
              refine both_den rfl (PE.imp (pe_bm PySem.F.plainAttrs_list PySem.F.slot_list_extend PySem.F.type_list_extend mt_D_extend po pa (abase hcl) (few y [] rfl sa.1) hl (star_cons sa.1) rfl) fun σ H Q q => ?_)
              obtain ⟨A, m, r, b', m', R, St, hx, hc, q⟩ := q
              obtain ⟨d, m1, k1, hc⟩ := bnd_some hc
              obtain ⟨ds, m2, k2, hc⟩ := bnd_some hc
              refine ⟨A, m, r, d, m1, R, St, hx, k1, fun A1 H1 e1 R1 v hv => ⟨?_, A1, m1, r, ds, m2, R1, St.mono e1, (fun _ z => nomatch z), k2, fun A2 H2 e2 R2 vs hvs =>
                ⟨A2, m2, d, ds, b', m', R2, hv.mono e2, hvs, hc, fun A3 H3 e3 R3 => q A3 H3 (e1.trans (e2.trans e3)) R3⟩⟩⟩
              obtain ⟨n, _, _, rfl, _⟩ := inv_extend hc
              obtain ⟨a', rfl, h1⟩ := hv
              obtain ⟨ws, w1⟩ := R1.mem (List.mem_of_getElem? h1)
              exact .inl ⟨rfl, ws, SqL.of w1⟩
        | join =>
          cases ys with
          | nil => exact absurd hf Bool.false_ne_true
          | cons y r =>
            cases r with
            | cons _ _ => exact absurd hf Bool.false_ne_true
            | nil =>
              rw [List.all_cons, Bool.and_eq_true] at sa
              refine both_den rfl (PE.imp (pe_bm PySem.F.plainAttrs_str PySem.F.slot_str_join PySem.F.type_str_join mt_D_join po pa (abase hcl) (few y [] rfl sa.1) hl (star_cons sa.1) rfl) fun σ H Q q => ?_)
              obtain ⟨A, m, r, b', m', R, St, hx, hc, q⟩ := q
              obtain ⟨d, m1, k1, hc⟩ := bnd_some hc
              obtain ⟨ds, m2, k2, hc⟩ := bnd_some hc
              refine ⟨A, m, r, d, m1, R, St, hx, k1, fun A1 H1 e1 R1 v hv => ⟨?_, A1, m1, r, ds, m2, R1, St.mono e1, (fun _ z => nomatch z), k2, fun A2 H2 e2 R2 vs hvs =>
                ⟨A2, m2, d, ds, b', m', R2, hv.mono e2, hvs, hc, fun A3 H3 e3 R3 => q A3 H3 (e1.trans (e2.trans e3)) R3⟩⟩⟩
              obtain ⟨a, _, _, _, rfl, _⟩ := inv_join hc
              cases hv
              exact rfl
      · cases h
  | .isi a t, cl, ns, X, O => .of rfl fun e h => by
      split at h
      · rename_i f p x ty p2 pos
        simp only [Bool.and_eq_true] at h
        obtain ⟨⟨⟨⟨⟨⟨⟨⟨hf, hb⟩, hg⟩, ht⟩, hty⟩, hb2⟩, hg2⟩, hs⟩, hx⟩ := h
        have hf := eq_of_beq hf
        have hty := eq_of_beq hty
        subst hf hty
        have pa := ((sound a O).e _ hx).1
        have m1 := O.blt _ (List.contains_iff_mem.mp hb)
        have m2 := O.blt _ (List.contains_iff_mem.mp hb2)
        have pt : PE X (.Name (Str.ofString t) p2) (tC (.ty t)) := by
          have ht' : t = "int" ∨ t = "bool" ∨ t = "str" ∨ t = "tuple" ∨ t = "list" := by
            simpa [tyN] using ht
          rcases ht' with rfl | rfl | rfl | rfl | rfl <;> exact pe_bltn (O.glo hg2) m2 (by decide +kernel) rfl
        refine both_den rfl (PE.imp (pe_callB call_isi (O.glo hg) m1 (by decide +kernel) (pa_cons pa (pa_cons pt pa_nil (by rfl)) (star_cons hs)) (by decide) (by decide) (star_cons hs) (by rfl)) fun σ H Q q => ?_)
        refine (pend_1 q).imp fun A z => ?_
        obtain ⟨m, r, d, m1, R, St, hx, h1, q⟩ := z
        refine ⟨m, r, d, m1, R, St, hx, h1, fun A1 H1 e1 R1 v hv => ?_⟩
        obtain ⟨A2, m2, d2, b, m3, R2, hd, hc, q2⟩ := q A1 H1 e1 R1 v hv
        simp only at hc
        split at hc
        · rename_i c hc'
          cases hc
          exact ⟨v, .ty t, .type (tyD d2), .type t, c, rfl, .ty t, isi_ok R2 hd, kit_ty (isi_kit ht hc'), q2 A2 H1 (Ext.refl _ _) R2 _ rfl⟩
        · cases hc
      · cases h
  | .comp own g ik args cond elt, cl, ns, X, O => .of rfl fun e h => by
      obtain ⟨el, tg, iter, ifs, scope, pos, rfl, pi, bo, hsl, pg, pts, pel, fs⟩ := comp_parts O h (sound args O) (fun O' => sound cond O') (fun O' => sound elt O')
      have pe : PE X _ (tV X.K fun r => (ev k cf (.comp own g ik args cond elt) r).v) := PE.imp (pe_lc (pos := pos) (elt := el) O.calm (by rw [O.eN]; exact O.nd) pi bo pg pts pel fs) fun σ H Q q => comp_ok hsl q
      have et : (fun r => (ev k cf (.comp own g ik args cond elt) r).t) = fun r => ((ev k cf (.comp own g ik args cond elt) r).v).bnd truthM := by
        funext r
        unfold ev den
        rfl
      rw [et]
      exact ⟨pe, pt_den rfl pe⟩
  | .gget x kvs i, cl, ns, X, O => .of rfl fun e h => by
      split at h
      · rename_i y p z p2
        simp only [Bool.and_eq_true] at h
        obtain ⟨⟨⟨⟨⟨hx, hg⟩, hd⟩, hm⟩, hz⟩, hsl⟩ := h
        have hx := eq_of_beq hx
        subst hx
        obtain ⟨a, m1, es, n, kd, hk⟩ := O.gd _ (mem_eqk hm)
        refine both_den rfl (PE.imp (pe_ix ix_kdict (pe_glob (v := .ref a) (O.glo hg) m1 rfl (noDb_1 hd).1) ((sound i O).e _ hz).1 (plainIx hsl)) fun σ H Q q => ?_)
        refine (pend_1 q).imp fun A z => ?_
        obtain ⟨m, r, d, m1, R, St, hx, h1, q⟩ := z
        refine ⟨m, r, d, m1, R, St, hx, h1, fun A1 H1 e1 R1 v hv => ?_⟩
        obtain ⟨A2, m2, d2, b, m3, R2, hd, hc, q2⟩ := q A1 H1 e1 R1 v hv
        simp only at hc
        split at hc
        · rename_i z'
          cases hd
          split at hc
          · rename_i d' hl
            cases hc
            have := hk z'
            rw [hl] at this
            obtain ⟨u, v, k1, k2, k3⟩ := this
            exact ⟨a, z', v, rfl, rfl, ⟨es, n, u, kd.at_, kd.lit, k1, k2⟩, q2 A2 H1 (Ext.refl _ _) R2 _ (k3 _ _)⟩
          · cases hc
        · cases hc
      · cases h
  | .gin neg x kvs i, cl, ns, X, O => .of rfl fun e h => by
      split at h
      · rename_i z op y p2 p
        simp only [Bool.and_eq_true] at h
        obtain ⟨⟨⟨⟨⟨ho, hx⟩, hg⟩, hd⟩, hm⟩, hz⟩ := h
        have hx := eq_of_beq hx
        have ho := of_decide_eq_true ho
        subst hx ho
        obtain ⟨a, m1, es, n, kd, hk⟩ := O.gd _ (mem_eqk hm)
        have pz := ((sound i O).e _ hz).1
        have py : PE X (.Name y p2) (tC (.ref a)) := pe_glob (v := .ref a) (O.glo hg) m1 rfl (noDb_1 hd).1
        have op : OpR X (compareOp (if neg then .NotIn else .In)) (fun v w H Q => ∃ z : Str, v = .str z ∧ w = .ref a ∧ Q (.bl ((kvs.lookup z).isSome != neg)) H) := by
          have some_case : ∀ z : Str, ∃ r : Option Value, PySem.W.nsIn X.K a z = some r ∧ r.isSome = (kvs.lookup z).isSome := by
            intro z
            have := hk z
            split at this
            · rename_i d' hl
              obtain ⟨u, v, k1, _⟩ := this
              exact ⟨_, k1, by rw [hl]; rfl⟩
            · rename_i hl
              exact ⟨_, this, by rw [hl]; rfl⟩
          intro pins s σ H v w u1 u2 Q I r1 r2 ⟨z, e1, e2, q⟩
          obtain ⟨r, k1, k2⟩ := some_case z
          cases neg with
          | false => exact op_in_kd kd pins s σ H v w u1 u2 Q I r1 r2 ⟨z, r, e1, e2, k1, by rw [k2]; simpa using q⟩
          | true => exact op_notIn_kd kd pins s σ H v w u1 u2 Q I r1 r2 ⟨z, r, e1, e2, k1, by rw [k2]; simpa using q⟩
        have key : ∀ σ H (Q : Bool → Hp → Prop), tT X.K (fun r => (ev k cf (.gin neg y kvs i) r).t) σ H Q → (tOp (fun v w H Q => ∃ z : Str, v = .str z ∧ w = .ref a ∧ Q (.bl ((kvs.lookup z).isSome != neg)) H) (tV X.K fun r => (ev k cf i r).v) (tC (.ref a))) σ H fun z H3 => ∃ b, z = .bl b ∧ Q b H3 := by
          intro σ H Q q
          obtain ⟨A, m, r, t, m', R, St, hx, hc, q⟩ := q
          obtain ⟨d1, m1, k1, hc⟩ := bnd_some hc
          refine ⟨A, m, r, d1, m1, R, St, hx, k1, fun A1 H1 e1 R1 v1 hv1 => ?_⟩
          split at hc
          · rename_i z'
            cases hc
            cases hv1
            exact ⟨z', rfl, rfl, _, rfl, q A1 H1 e1 R1⟩
          · cases hc
        have nm : behindInMarks (if neg then CmpOp.NotIn else CmpOp.In) (.Name y p2) = false := rfl
        refine ⟨PE.imp (pe_cmpR op pz py nm) fun σ H Q q => ?_, PT.imp (pt_cmpR op pz py nm) key⟩
        have q' := key σ H (fun b H => Q (.bl b) H) (pend_bl q)
        have hQ : (fun z H3 => ∃ b, z = V.bl b ∧ Q (.bl b) H3) = fun z H3 => ∃ b, z = V.bl b ∧ Q z H3 := by
          funext z H3
          apply propext
          constructor
          · rintro ⟨b, rfl, h⟩; exact ⟨b, rfl, h⟩
          · rintro ⟨b, rfl, h⟩; exact ⟨b, rfl, h⟩
        rw [hQ] at q'
        obtain ⟨A, m, r, d1, m1', R, St, hx, k1, q⟩ := q'
        refine ⟨A, m, r, d1, m1', R, St, hx, k1, fun A1 H1 e1 R1 v1 hv1 => ?_⟩
        obtain ⟨z, e1', e2', b, e3', q⟩ := q A1 H1 e1 R1 v1 hv1
        exact ⟨z, e1', e2', q⟩
      · cases h
end
end Mi
namespace Mi
open PySem PySem.Spec PyProof.Rows L2

structure CkS where
  s : Stmt → Bool
  b : List Stmt → Bool
  c : List MatchCase → Bool
def ckS (f : Stmt → Bool) : CkS := ⟨f, fun b => match b with | [x] => f x | _ => false, fun _ => false⟩
def chkPt (N : List Str) (cl : Bool) (ns : List (Str × NameKind)) : List Pt → List Pattern → Bool
  | [], [] => true
  | .wild :: ps, .MatchAs none none _ :: qs => chkPt N cl ns ps qs
  | .cap i :: ps, .MatchAs none (some x) _ :: qs => N[i]? == some x && stoB cl ns x && chkPt N cl ns ps qs
  | .lit w :: ps, .MatchValue (.Constant (.str z) _ _) _ :: qs => z == w && chkPt N cl ns ps qs
  | _, _ => false
def ipOf : Bop → Operator
  | .add => .Add | .sub => .Sub | _ => .Mult
def notTuple : Expr → Bool | .Tuple _ _ _ => false | _ => true
/-- y = [..], stored from within -/
def chkLc (ns : List (Str × NameKind)) (y : Str) (line : Nat) : Expr → Bool
  | .ListComp _ _ scope pos => (ns.lookup y == some .local) && line == pos.line && !(scope.names.any fun (n, k) => n == y && (k == .local || k == .cell))
  | _ => false

/-- y = [..], y a cell: stored from without -/
def chkLd (ns : List (Str × NameKind)) (y : Str) : Bool := ns.lookup y == some .cell

def chkS (S : Sx) (N : List Str) (cl : Bool) (ns : List (Str × NameKind)) : Sm → CkS
  | .pass => ⟨fun s => match s with | .Pass _ => true | _ => false, fun b => b.isEmpty, fun c => c.isEmpty⟩
  | .never => ⟨fun _ => true, fun _ => true, fun _ => false⟩
  | .brk => ckS fun s => match s with | .Break _ => true | _ => false
  | .cont => ckS fun s => match s with | .Continue _ => true | _ => false
  | .retN => ckS fun s => match s with | .Return none _ => true | _ => false
  | .seq a b => ⟨fun _ => false, fun l => match l with
    | x :: y :: r => (chkS S N cl ns a).s x && (chkS S N cl ns b).b (y :: r)
    | _ => false, fun _ => false⟩
  | .set i e => ckS fun s => match s with
    | .Assign [.Name x p] v _ => N[i]? == some x && stoB cl ns x && (chk S N e cl ns).e v && (notComp v || chkLd ns x || (chkLc ns x p.line v && (match e with | .comp _ _ _ _ _ _ => true | _ => false)))
    | _ => false
  | .unp is e => ckS fun s => match s with
    | .Assign [.Tuple es k p] v _ => chkT N cl ns (.tp is) (.Tuple es k p) && (chk S N e cl ns).e v && notComp v && notTuple v
    | _ => false
  | .setIx o i e => ckS fun s => match s with
    | .Assign [.Subscript x y _] v _ => (chk S N o cl ns).e x && (chk S N i cl ns).e y && (chk S N e cl ns).e v && notComp v && notSlice y
    | _ => false
  | .aug i o e => ckS fun s => match s with
    | .AugAssign (.Name x _) op v _ => N[i]? == some x && stoB cl ns x && (chk S N e cl ns).e v && decide (op = ipOf o) && (match o with | .add => true | .sub => true | _ => false)
    | _ => false
  | .ret e => ckS fun s => match s with
    | .Return (some v) _ => (chk S N e cl ns).e v
    | _ => false
  | .expr e => ckS fun s => match s with
    | .Expr v _ => (chk S N e cl ns).e v && notComp v
    | _ => false
  | .ifs c a b => ckS fun s => match s with
    | .If t x y _ => (chk S N c cl ns).e t && (chkS S N cl ns a).b x && (chkS S N cl ns b).b y
    | _ => false
  | .whl c a => ckS fun s => match s with
    | .While t x [] _ => (chk S N c cl ns).e t && (chkS S N cl ns a).b x
    | _ => false
  | .for_ g ik args b => ckS fun s => match s with
    | .For tg iter body [] _ => chkT N cl ns g tg && chkI S ns (chk S N args cl ns).a tg ik iter && notSet iter && (chkS S N cl ns b).b body
    | _ => false
  | .mtch e cs => ckS fun s => match s with
    | .Match v l _ => (chk S N e cl ns).e v && (chkS S N cl ns cs).c l
    | _ => false
  | .case p gd body rest => ⟨fun _ => false, fun _ => false, fun l => match l with
    | ⟨pat, guard, bd⟩ :: r => (chkS S N cl ns body).b bd && (match p with
        | none => (match pat, guard with | .MatchAs none none _, none => true | _, _ => false)
        | some ps => (match pat with
          | .MatchSequence qs _ => chkPt N cl ns ps qs && ps.length == qs.length && (qs.findIdx? (·.isStar)).isNone && !(qs.all fun p => p.isWildcard || (p.isStar && p.names.isEmpty))
          | _ => false) && (chkS S N cl ns rest).c r && (match guard, gd with
            | none, .nil => true
            | some g, .nil => false
            | some g, c => (chk S N c cl ns).e g
            | none, _ => false))
    | [] => false⟩

section
variable {S : Sx} {k : Nat} {cf : Str → List D → M D} {N : List Str} {cl : Bool} {ns : List (Str × NameKind)} {X : Cx}

/-- what is shown of the cases of a match -/
def PCs (X : Cx) (l : List MatchCase) (c : D → MS) : Prop := ∀ (first : Bool) (pins : List (Addr × Obj)) (s : Shared) (σ : L2.St) (H : Hp) (E : Ends) (A : List Addr) (m : List SO) (r : Rho) (d : D) (v : V) (u : Value) (o : Out × Rho) (m' : List SO),
  L2.Inv X pins σ H s → Rl X.K A H m → RSt X.K A H r σ → RD X.K A H d v → RelV v u → c d r m = some (o, m') → (∀ A' H', Ext A H A' H' → Rl X.K A' H' m' → finX X.K E A' H' r o) →
  wpAny (model X.prog X.w) X.A (matchCases l X.env u first) (SP X pins E) X.xe s

/-- what a pattern has bound -/
inductive BOk (X : Cx) (A : List Addr) (H : Hp) : List (Str × Value) → Rho → Rho → Prop
  | nil {r : Rho} : BOk X A H [] r r
  | cons {x : Str} {u : Value} {bs : List (Str × Value)} {r r' : Rho} {i : Nat} {d : D} {v : V} : X.N[i]? = some x → L2.Loc X.env.scope x → (X.fn x = true ∨ X.env.scope.names.lookup x = some .local) → RD X.K A H d v → RelV v u →
      BOk X A H bs (r.set i (some d)) r' → BOk X A H ((x, u) :: bs) r r'
theorem bind_ok {A : List Addr} {H : Hp} {pins : List (Addr × Obj)} {Q : Unit → Shared → Prop} (hN : X.N.Nodup) : ∀ {bs : List (Str × Value)} {r r' : Rho} {σ : L2.St} {s : Shared}, BOk X A H bs r r' → L2.Inv X pins σ H s → RSt X.K A H r σ →
    (∀ σ' s', L2.Inv X pins σ' H s' → RSt X.K A H r' σ' → Q () s') → wpAny (model X.prog X.w) X.A (assignInOrder (bs.map fun (n, _) => bindName X.env n) (bs.map (·.2))) Q X.xe s
  | [], _, _, σ, s, h, I, Sr, q => by
    cases h
    exact wpAny_assignInOrder_none (q σ s I Sr)
  | (x, u) :: bs, _, _, σ, s, h, I, Sr, q => by
    cases h with
    | cons h1 h2 h3 h4 h5 h6 =>
      refine wpAny_assignInOrder_more (wpAny_bindName (store_ok I hN h1 h2 h5 (fun s' I' => ?_) h3))
      exact bind_ok hN h6 I' (Sr.set h4) q

theorem each_ok (O : XOk S k cf N cl ns X) {A : List Addr} {H : Hp} {pins : List (Addr × Obj)} {σ : L2.St} {Q : Option (List (Str × Value)) → Shared → Prop} : ∀ {ps : List Pt} {qs : List Pattern} {xs : List D} {vs : List V} {us : List Value} {r : Rho} {res : Option Rho} {s : Shared},
    chkPt N cl ns ps qs = true → RDs X.K A H xs vs → Vals vs us → ptsD ps xs r = some res → L2.Inv X pins σ H s →
    (∀ s', L2.Inv X pins σ H s' → (res = none → Q none s') ∧ ∀ r', res = some r' → ∀ bs, BOk X A H bs r r' → Q (some bs) s') →
    wpAny (model X.prog X.w) X.A (matchEach qs X.env us) Q X.xe s
  | [], qs, xs, vs, us, r, res, s, hc, hx, hv, hp, I, q => by
    cases qs with
    | cons _ _ => exact absurd hc Bool.false_ne_true
    | nil =>
      cases xs with
      | cons _ _ => cases hp
      | nil =>
        cases hp
        exact wpAny_matchEach_nil ((q s I).2 r rfl [] .nil)
  | p :: ps, [], xs, vs, us, r, res, s, hc, hx, hv, hp, I, q => by cases p <;> exact absurd hc Bool.false_ne_true
  | p :: ps, qp :: qs, [], vs, us, r, res, s, hc, hx, hv, hp, I, q => by cases p <;> cases hp
  | .wild :: ps, qp :: qs, x :: xs, vs, us, r, res, s, hc, hx, hv, hp, I, q => by
    obtain ⟨v, vr, rfl, h1, h2⟩ := hx
    cases hv with
    | cons r1 r2 =>
      cases qp with
      | MatchAs pt nm pos =>
        cases pt with
        | some _ => cases nm <;> exact absurd hc Bool.false_ne_true
        | none =>
          cases nm with
          | some _ => exact absurd hc Bool.false_ne_true
          | none =>
            refine wpAny_matchEach_cons (wpAny_matchPattern_Capture ?_) rfl
            refine each_ok O (ps := ps) hc h2 r2 hp I fun s' I' => ⟨fun e => (q s' I').1 e, fun r' e bs hb => ?_⟩
            exact (q s' I').2 r' e bs hb
      | _ => exact absurd hc Bool.false_ne_true
  | .cap i :: ps, qp :: qs, x :: xs, vs, us, r, res, s, hc, hx, hv, hp, I, q => by
    obtain ⟨v, vr, rfl, h1, h2⟩ := hx
    cases hv with
    | cons r1 r2 =>
      cases qp with
      | MatchAs pt nm pos =>
        cases pt with
        | some _ => cases nm <;> exact absurd hc Bool.false_ne_true
        | none =>
          cases nm with
          | none => exact absurd hc Bool.false_ne_true
          | some nm =>
            have hc' : (N[i]? == some nm && stoB cl ns nm && chkPt N cl ns ps qs) = true := hc
            simp only [Bool.and_eq_true] at hc'
            obtain ⟨⟨c1, c2⟩, c3⟩ := hc'
            obtain ⟨l1, l2⟩ := O.loc c2
            refine wpAny_matchEach_cons (wpAny_matchPattern_Capture ?_) rfl
            refine each_ok O (ps := ps) (r := r.set i (some x)) c3 h2 r2 hp I fun s' I' => ⟨fun e => (q s' I').1 e, fun r' e bs hb => ?_⟩
            exact (q s' I').2 r' e _ (.cons (by rw [O.eN]; exact eq_of_beq c1) l1 l2 h1 r1 hb)
      | _ => exact absurd hc Bool.false_ne_true
  | .lit w :: ps, qp :: qs, x :: xs, vs, us, r, res, s, hc, hx, hv, hp, I, q => by
    obtain ⟨v, vr, rfl, h1, h2⟩ := hx
    cases hv with
    | cons r1 r2 =>
      rename_i u ur
      cases qp with
      | MatchValue ve pos =>
        cases ve with
        | Constant c j p2 =>
          cases c with
          | str z =>
            have hc' : (z == w && chkPt N cl ns ps qs) = true := hc
            rw [Bool.and_eq_true] at hc'
            have hz := eq_of_beq hc'.1
            subst hz
            have step : ∀ b : Bool, scal v (.str z) = true → decide (v = .str z) = b → (∀ s', L2.Inv X pins σ H s' → (if b then wpAny (model X.prog X.w) X.A (matchEach qs X.env ur) (fun r' s₂ => match r' with
                | none => Q none s₂
                | some more => Q (some ([] ++ more)) s₂) X.xe s' else Q none s')) → wpAny (model X.prog X.w) X.A (matchEach (.MatchValue (.Constant (.str z) j p2) pos :: qs) X.env (u :: ur)) Q X.xe s := by
              intro b hs hb hn
              refine wpAny_matchEach_cons (wpAny_matchPattern_Value (Calls.Constant_str ?_)) rfl
              refine thn (op_eq pins _ σ H v (.str z) _ _ (fun y H' => y = .bl b ∧ H' = H) (I.tok _) r1 ⟨_, rfl⟩ ⟨hs, by rw [hb], rfl⟩) fun c s2 ⟨y, H2, I2, r3, e1, e2⟩ => ?_
              subst e1 e2
              cases r3
              refine wpAny_truthy_bool ?_
              have := hn s2 I2
              cases b with
              | true => exact this
              | false => exact this
            cases x with
            | str y =>
              cases h1
              have hp' : (if y == z then ptsD ps xs r else some none) = some res := hp
              refine step (y == z) rfl ?_ fun s' I' => ?_
              · rw [dec_str]
              · by_cases e : y = z
                · subst e
                  simp only [beq_self_eq_true, if_true] at hp' ⊢
                  refine each_ok O (ps := ps) hc'.2 h2 r2 hp' I' fun s2 I2 => ⟨fun e => (q s2 I2).1 e, fun r' e bs hb => (q s2 I2).2 r' e bs hb⟩
                · have e' : (y == z) = false := by simpa using e
                  rw [e'] at hp' ⊢
                  cases hp'
                  exact (q s' I').1 rfl
            | non => cases h1; cases hp; exact step false rfl (decide_eq_false (by intro h; cases h)) fun s' I' => (q s' I').1 rfl
            | bl b => cases h1; cases hp; exact step false rfl (decide_eq_false (by intro h; cases h)) fun s' I' => (q s' I').1 rfl
            | int b => cases h1; cases hp; exact step false rfl (decide_eq_false (by intro h; cases h)) fun s' I' => (q s' I').1 rfl
            | _ => cases hp
          | _ => exact absurd hc Bool.false_ne_true
        | _ => exact absurd hc Bool.false_ne_true
      | _ => exact absurd hc Bool.false_ne_true
end
end Mi
namespace Mi
open PySem PySem.Spec PyProof.Rows L2
section
variable {S : Sx} {k : Nat} {cf : Str → List D → M D} {N : List Str} {cl : Bool} {ns : List (Str × NameKind)} {X : Cx}

structure SndS (S : Sx) (N : List Str) (k : Nat) (cf : Str → List D → M D) (c : Sm) (cl : Bool) (ns : List (Str × NameKind)) (X : Cx) : Prop where
  s : ∀ s, (chkS S N cl ns c).s s = true → PS X s (tX X.K (ex k cf c).x)
  b : ∀ b, (chkS S N cl ns c).b b = true → PSs X b (tX X.K (ex k cf c).x)
  c : ∀ l, (chkS S N cl ns c).c l = true → PCs X l (ex k cf c).c
theorem SndS.of {c : Sm} {f : Stmt → Bool} (hc : chkS S N cl ns c = ckS f) (h : ∀ s, f s = true → PS X s (tX X.K (ex k cf c).x)) : SndS S N k cf c cl ns X where
  s := fun e he => h e (by rw [hc] at he; exact he)
  b := fun l he => by
    rw [hc] at he
    cases l with
    | nil => exact absurd he Bool.false_ne_true
    | cons x r =>
      cases r with
      | nil => exact pss_one (h x he)
      | cons _ _ => exact absurd he Bool.false_ne_true
  c := fun l he => by rw [hc] at he; exact absurd he Bool.false_ne_true
/-- what is wanted at the end of a statement -/
theorem fin_at {K : PySem.W.Frag} {E : Ends} {σ : L2.St} {H : Hp} {A : List Addr} {m m' : List SO} {r : Rho} {o : Out × Rho} (R : Rl K A H m)
    (q : ∀ A' H', Ext A H A' H' → Rl K A' H' m → finX K E A' H' r o) : finX K E A H r o := q A H (Ext.refl A H) R

theorem swaps_cell {env : Env} {e : Expr} {x : Str} {p : Pos} {n : Nat} (h : env.scope.names.lookup x = some .cell) : swapsWith e (some (.Name x p)) n env = pure false := by
  have hk : (env.kindOf x == some NameKind.local) = false := by
    show (env.scope.names.lookup x == some NameKind.local) = false
    rw [h]
    rfl
  have key : ∀ (sc : Scope) (l : Nat), ((env.blockKind == .function && env.kindOf x == some .local && p.line == l && !(sc.names.any fun (n, k) => n == x && (k == .local || k == .cell)))) = false := by
    intro sc l
    rw [hk, Bool.and_false, Bool.false_and, Bool.false_and]
  cases e <;> first | rfl | (exact congrArg pure (key _ _))
theorem sole_no {env : Env} {e t : Expr} {n : Nat} (h : notComp e = true) : swapsWithSole [t] e n env = pure false := by
  cases e <;> first | rfl | (exact absurd h Bool.false_ne_true)
theorem finX_mono {K : PySem.W.Frag} {E : Ends} {A : List Addr} {H : Hp} {r r' : Rho} {o : Out × Rho} (h : finX K E A H r o) : finX K E A H r' o := h

theorem soundS : ∀ (c : Sm), XOk S k cf N cl ns X → SndS S N k cf c cl ns X
  | .pass, O => by
      have key : ∀ E σ H, tX X.K (ex k cf .pass).x E σ H → tNext E σ H := fun E σ H q => by
        obtain ⟨A, m, r, b, m', R, Sr, hx, hc, q⟩ := q
        cases hc
        exact q A H (Ext.refl A H) R σ Sr
      refine ⟨fun s h => ?_, fun b h => ?_, fun l h => ?_⟩
      · cases s with
        | Pass p => exact PS.imp ps_pass key
        | _ => exact absurd h Bool.false_ne_true
      · cases b with
        | nil => exact PSs.imp pss_nil key
        | cons _ _ => exact absurd h Bool.false_ne_true
      · cases l with
        | nil =>
          intro first pins s σ H E A m r d v u o m' I R Sr hd rv hc q
          cases hc
          exact wpAny_matchCases_nil ⟨σ, H, I, q A H (Ext.refl A H) R σ Sr⟩
        | cons _ _ => exact absurd h Bool.false_ne_true
  | .never, O => by
      have key : ∀ E σ H, tX X.K (ex k cf .never).x E σ H → tNever E σ H := fun E σ H q => by
        obtain ⟨A, m, r, b, m', R, Sr, hx, hc, q⟩ := q
        cases hc
      exact ⟨fun s h => PS.imp ps_never key, fun b h => PSs.imp pss_never key, fun l h => absurd h Bool.false_ne_true⟩
  | .brk, O => .of rfl fun s h => by
      cases s with
      | Break p =>
        exact PS.imp ps_break fun E σ H q => by
          obtain ⟨A, m, r, b, m', R, Sr, hx, hc, q⟩ := q
          cases hc
          exact q A H (Ext.refl A H) R σ Sr
      | _ => exact absurd h Bool.false_ne_true
  | .cont, O => .of rfl fun s h => by
      cases s with
      | Continue p =>
        exact PS.imp ps_continue fun E σ H q => by
          obtain ⟨A, m, r, b, m', R, Sr, hx, hc, q⟩ := q
          cases hc
          exact q A H (Ext.refl A H) R σ Sr
      | _ => exact absurd h Bool.false_ne_true
  | .retN, O => .of rfl fun s h => by
      cases s with
      | Return v p =>
        cases v with
        | none =>
          exact PS.imp ps_retN fun E σ H q => by
            obtain ⟨A, m, r, b, m', R, Sr, hx, hc, q⟩ := q
            cases hc
            exact q A H (Ext.refl A H) R _ rfl
        | some _ => exact absurd h Bool.false_ne_true
      | _ => exact absurd h Bool.false_ne_true
  | .seq a b, O => by
      have ih1 := soundS a O
      have ih2 := soundS b O
      refine ⟨fun s h => absurd h Bool.false_ne_true, fun l h => ?_, fun l h => absurd h Bool.false_ne_true⟩
      cases l with
      | nil => exact absurd h Bool.false_ne_true
      | cons x r =>
        cases r with
        | nil => exact absurd h Bool.false_ne_true
        | cons y r =>
          have h' : ((chkS S N cl ns a).s x && (chkS S N cl ns b).b (y :: r)) = true := h
          rw [Bool.and_eq_true] at h'
          refine PSs.imp (pss_cons (ih1.s x h'.1) (ih2.b _ h'.2)) fun E σ H q => ?_
          obtain ⟨A, m, r, o, m', R, Sr, hx, hc, q⟩ := q
          have hc' : (match (ex k cf a).x r m with
            | some ((.nx, r'), m') => (ex k cf b).x r' m'
            | o => o) = some (o, m') := hc
          cases ha : (ex k cf a).x r m with
          | none => rw [ha] at hc'; cases hc'
          | some p =>
            obtain ⟨⟨o1, r1⟩, m1⟩ := p
            rw [ha] at hc'
            refine ⟨A, m, r, (o1, r1), m1, R, Sr, hx, ha, fun A1 H1 e1 R1 => ?_⟩
            cases o1 with
            | nx => exact fun σ' S' => ⟨A1, m1, r1, o, m', R1, S', (fun _ z => nomatch z), hc', fun A2 H2 e2 R2 => q A2 H2 (e1.trans e2) R2⟩
            | bk => cases hc'; exact q A1 H1 e1 R1
            | ct => cases hc'; exact q A1 H1 e1 R1
            | rt d => cases hc'; exact q A1 H1 e1 R1
  | .set i e, O => .of rfl fun s h => by
      split at h
      · rename_i x p v p2
        simp only [Bool.and_eq_true] at h
        obtain ⟨⟨⟨h1, h2⟩, h3⟩, h4⟩ := h
        obtain ⟨l1, l2⟩ := O.loc h2
        have hi : X.N[i]? = some x := by rw [O.eN]; exact eq_of_beq h1
        have nd : X.N.Nodup := by rw [O.eN]; exact O.nd
        have fin : ∀ E σ H, tX X.K (ex k cf (.set i e)).x E σ H → tV X.K (fun r => (ev k cf e r).v) σ H fun y H1 => gName i y σ H1 E.nx := fun E σ H q => by
          obtain ⟨A, m, r, o, m', R, Sr, hx, hc, q⟩ := q
          obtain ⟨d, m1, k1, hc⟩ := bnd_some hc
          cases hc
          exact ⟨A, m, r, d, _, R, Sr, hx, k1, fun A1 H1 e1 R1 w hw => q A1 H1 e1 R1 _ ((Sr.mono e1).set hw)⟩
        rw [Bool.or_eq_true, Bool.or_eq_true] at h4
        rcases h4 with (h4 | h4) | h4
        · exact PS.imp (ps_set nd hi l1 ((sound e O).e v h3).1 (swaps_no h4) l2) fin
        · have hk : X.env.scope.names.lookup x = some .cell := by rw [O.names]; exact eq_of_beq h4
          exact PS.imp (ps_set nd hi l1 ((sound e O).e v h3).1 (swaps_cell hk) l2) fin
        · rw [Bool.and_eq_true] at h4
          obtain ⟨h4, h5⟩ := h4
          cases e with
          | comp own g ik args cond elt =>
            cases v with
            | ListComp el gens scope pos =>
              have h4' : ((ns.lookup x == some .local) && p.line == pos.line && !(scope.names.any fun (n, k) => n == x && (k == .local || k == .cell))) = true := h4
              simp only [Bool.and_eq_true] at h4'
              obtain ⟨⟨g1, g2⟩, g3⟩ := h4'
              have hl : X.env.scope.names.lookup x = some .local := by rw [O.names]; exact eq_of_beq g1
              obtain ⟨el', tg, iter, ifs, scope', pos', heq, pi, bo, hsl, pg, pts, pel, fs⟩ := comp_parts O h3 (sound args O) (fun O' => sound cond O') (fun O' => sound elt O')
              cases heq
              exact PS.imp (ps_setLc (i := i) O.calm nd hi hl (sw_true O.kind hl g2 (by simpa using g3)) pi bo pg pts pel fs) fun E σ H q => comp_ok hsl (fin E σ H q)
            | _ => exact absurd h4 Bool.false_ne_true
          | _ => exact absurd h5 Bool.false_ne_true
      · cases h
  | .unp is e, O => .of rfl fun s h => by
      split at h
      · rename_i es kk p v p2
        simp only [Bool.and_eq_true] at h
        obtain ⟨⟨⟨h1, h2⟩, h3⟩, h4⟩ := h
        refine PS.imp (ps_asg ((sound e O).e v h2).1 (pg_tg O h1) (sole_no h3) (by cases v <;> first | rfl | (exact absurd h4 Bool.false_ne_true)) rfl) fun E σ H q => ?_
        obtain ⟨A, m, r, o, m', R, Sr, hx, hc, q⟩ := q
        obtain ⟨d, m1, k1, hc⟩ := bnd_some hc
        split at hc
        · rename_i r1 ht
          cases hc
          exact ⟨A, m, r, d, _, R, Sr, hx, k1, fun A1 H1 e1 R1 w hw => tgt_ok (Sr.mono e1) hw ht fun σ' S' _ => q A1 H1 e1 R1 σ' S'⟩
        · cases hc
      · cases h
  | .setIx o i e, O => .of rfl fun s h => by
      split at h
      · rename_i x y p v p2
        simp only [Bool.and_eq_true] at h
        obtain ⟨⟨⟨⟨h1, h2⟩, h3⟩, h4⟩, h5⟩ := h
        refine PS.imp (ps_asg ((sound e O).e v h3).1 (pg_sub ((sound o O).e x h1).1 ((sound i O).e y h2).1 set_list (fun w => by cases y <;> first | rfl | (exact absurd h5 Bool.false_ne_true))) (sole_no h4) rfl rfl) fun E σ H q => ?_
        obtain ⟨A, m, r, o', m', R, Sr, hx, hc, q⟩ := q
        obtain ⟨d, m1, k1, hc⟩ := bnd_some hc
        obtain ⟨d2, m2, k2, hc⟩ := bnd_some hc
        obtain ⟨d3, m3, k3, hc⟩ := bnd_some hc
        refine ⟨A, m, r, d, m1, R, Sr, hx, k1, fun A1 H1 e1 R1 w hw => ⟨A1, m1, r, d2, m2, R1, Sr.mono e1, (fun _ z => nomatch z), k2, fun A2 H2 e2 R2 w2 hw2 => ?_⟩⟩
        refine ⟨A2, m2, r, d3, m3, R2, Sr.mono (e1.trans e2), (fun _ z => nomatch z), k3, fun A3 H3 e3 R3 w3 hw3 => ?_⟩
        split at hc
        · rename_i n j _
          split at hc
          · rename_i xs hg
            split at hc
            · rename_i z hz
              cases hc
              cases hw3
              obtain ⟨a, rfl, h1⟩ := hw2.mono e3
              obtain ⟨vs, g1, g2⟩ := getL_at R3 hg h1
              refine ⟨a, vs, j, z, rfl, rfl, g1, by rw [g2.length]; exact hz, ?_⟩
              have E3 := Ext.write R3 (List.mem_of_getElem? h1) (vs.set z w)
              have e13 := e1.trans (e2.trans e3)
              exact q A3 _ (e13.trans E3) (R3.write h1 (g2.set (hw.mono (e2.trans e3)) z)) _ ((Sr.mono e13).mono E3)
            · cases hc
          · cases hc
        · cases hc
      · cases h
  | .aug i o e, O => .of rfl fun s h => by
      split at h
      · rename_i x p op v p2
        simp only [Bool.and_eq_true] at h
        obtain ⟨⟨⟨⟨h1, h2⟩, h3⟩, h4⟩, h5⟩ := h
        obtain ⟨l1, l2⟩ := O.loc h2
        have hi : X.N[i]? = some x := by rw [O.eN]; exact eq_of_beq h1
        have nd : X.N.Nodup := by rw [O.eN]; exact O.nd
        have ho := of_decide_eq_true h4
        subst ho
        have inv : ∀ {r : Rho} {m : List SO} {o' : Out × Rho} {m' : List SO}, (ex k cf (.aug i o e)).x r m = some (o', m') → ∃ a b, r[i]? = some (some (.int a)) ∧ (ev k cf e r).v m = some (.int b, m') ∧ (o = .add ∧ o' = (.nx, r.set i (some (.int (a + b)))) ∨ o = .sub ∧ o' = (.nx, r.set i (some (.int (a - b))))) := by
          intro r m o' m' hc
          simp only [ex, dst] at hc
          split at hc
          · rename_i a ha
            obtain ⟨d, m1, k1, hc⟩ := bnd_some hc
            split at hc
            · rename_i b
              split at hc
              · cases hc; exact ⟨a, b, ha, k1, .inl ⟨rfl, rfl⟩⟩
              · cases hc; exact ⟨a, b, ha, k1, .inr ⟨rfl, rfl⟩⟩
              · cases hc
            · cases hc
          · cases hc
        cases o with
        | add =>
          refine PS.imp (ps_aug nd hi l1 ((sound e O).e v h3).1 ip_add l2) fun E σ H q => ?_
          obtain ⟨A, m, r, o', m', R, Sr, hx, hc, q⟩ := q
          obtain ⟨a, b, ha, k1, ⟨_, rfl⟩ | ⟨h, _⟩⟩ := inv hc
          · obtain ⟨va, e1, e2⟩ := Sr.at_ i _ ha
            cases e2
            refine ⟨.int a, e1, A, m, r, .int b, m', R, Sr, hx, k1, fun A1 H1 e1 R1 w hw => ?_⟩
            cases hw
            exact ⟨a, b, rfl, rfl, q A1 H1 e1 R1 _ ((Sr.mono e1).set rfl)⟩
          · cases h
        | sub =>
          refine PS.imp (ps_aug nd hi l1 ((sound e O).e v h3).1 ip_sub l2) fun E σ H q => ?_
          obtain ⟨A, m, r, o', m', R, Sr, hx, hc, q⟩ := q
          obtain ⟨a, b, ha, k1, ⟨h, _⟩ | ⟨_, rfl⟩⟩ := inv hc
          · cases h
          · obtain ⟨va, e1, e2⟩ := Sr.at_ i _ ha
            cases e2
            refine ⟨.int a, e1, A, m, r, .int b, m', R, Sr, hx, k1, fun A1 H1 e1 R1 w hw => ?_⟩
            cases hw
            exact ⟨a, b, rfl, rfl, q A1 H1 e1 R1 _ ((Sr.mono e1).set rfl)⟩
        | _ => exact absurd h5 Bool.false_ne_true
      · cases h
  | .ret e, O => .of rfl fun s h => by
      split at h
      · refine PS.imp (ps_ret ((sound e O).e _ h).1) fun E σ H q => ?_
        obtain ⟨A, m, r, o, m', R, Sr, hx, hc, q⟩ := q
        obtain ⟨d, m1, k1, hc⟩ := bnd_some hc
        cases hc
        exact ⟨A, m, r, d, _, R, Sr, hx, k1, fun A1 H1 e1 R1 w hw => q A1 H1 e1 R1 w hw⟩
      · cases h
  | .expr e, O => .of rfl fun s h => by
      split at h
      · rw [Bool.and_eq_true] at h
        refine PS.imp (ps_expr ((sound e O).e _ h.1).1 (swaps_no h.2)) fun E σ H q => ?_
        obtain ⟨A, m, r, o, m', R, Sr, hx, hc, q⟩ := q
        obtain ⟨d, m1, k1, hc⟩ := bnd_some hc
        cases hc
        exact ⟨A, m, r, d, _, R, Sr, hx, k1, fun A1 H1 e1 R1 w hw => q A1 H1 e1 R1 σ (Sr.mono e1)⟩
      · cases h
  | .ifs c a b, O => .of rfl fun s h => by
      split at h
      · simp only [Bool.and_eq_true] at h
        refine PS.imp (ps_if ((sound c O).e _ h.1.1).2 ((soundS a O).b _ h.1.2) ((soundS b O).b _ h.2)) fun E σ H q => ?_
        obtain ⟨A, m, r, o, m', R, Sr, hx, hc, q⟩ := q
        obtain ⟨t, m1, k1, hc⟩ := bnd_some hc
        refine ⟨A, m, r, t, m1, R, Sr, hx, k1, fun A1 H1 e1 R1 => ?_⟩
        cases t with
        | true => exact ⟨A1, m1, r, o, m', R1, Sr.mono e1, (fun _ z => nomatch z), hc, fun A2 H2 e2 R2 => q A2 H2 (e1.trans e2) R2⟩
        | false => exact ⟨A1, m1, r, o, m', R1, Sr.mono e1, (fun _ z => nomatch z), hc, fun A2 H2 e2 R2 => q A2 H2 (e1.trans e2) R2⟩
      · cases h
  | .whl c a, O => .of rfl fun s h => by
      split at h
      · rw [Bool.and_eq_true] at h
        refine PS.imp (ps_while (by rw [O.never]; exact PassesOwn.never) ((sound c O).e _ h.1).2 ((soundS a O).b _ h.2)) fun E σ H q => ?_
        obtain ⟨A, m, r, o, m', R, Sr, hx, hc, q⟩ := q
        obtain ⟨n, hn⟩ := whC_to hc
        refine ⟨fun j σ1 H1 => ∃ A1 m1 r1, Ext A H A1 H1 ∧ Rl X.K A1 H1 m1 ∧ RSt X.K A1 H1 r1 σ1 ∧ whN (fun r => (ev k cf c r).t) (ex k cf a).x j r1 m1 = some (o, m'), ⟨n, A, m, r, Ext.refl _ _, R, Sr, hn⟩, fun j σ1 H1 hW => ?_⟩
        obtain ⟨A1, m1, r1, e1, R1, S1, hw⟩ := hW
        cases j with
        | zero => cases hw
        | succ j =>
          unfold whN at hw
          obtain ⟨t, m2, k2, hw⟩ := bnd_some hw
          refine ⟨A1, m1, r1, t, m2, R1, S1, (fun _ z => nomatch z), k2, fun A2 H2 e2 R2 => ?_⟩
          cases t with
          | false =>
            cases hw
            exact q A2 H2 (e1.trans e2) R2 _ (S1.mono e2)
          | true =>
            have hw' : (match (ex k cf a).x r1 m2 with
              | some ((.nx, r'), m') => whN (fun r => (ev k cf c r).t) (ex k cf a).x j r' m'
              | some ((.ct, r'), m') => whN (fun r => (ev k cf c r).t) (ex k cf a).x j r' m'
              | some ((.bk, r'), m') => some ((.nx, r'), m')
              | some ((.rt d, r'), m') => some ((.rt d, r'), m')
              | none => none) = some (o, m') := hw
            show ∃ Nn : L2.St → Hp → Prop, _ ∧ _
            refine ⟨fun σ3 H3 => ∃ A1 m1 r1, Ext A H A1 H3 ∧ Rl X.K A1 H3 m1 ∧ RSt X.K A1 H3 r1 σ3 ∧ whN (fun r => (ev k cf c r).t) (ex k cf a).x j r1 m1 = some (o, m'), fun σ3 H3 hN => ⟨j, Nat.lt_succ_self j, hN⟩, ?_⟩
            cases ha : (ex k cf a).x r1 m2 with
            | none => rw [ha] at hw'; cases hw'
            | some p =>
              obtain ⟨⟨o1, r2⟩, m3⟩ := p
              rw [ha] at hw'
              refine ⟨A2, m2, r1, (o1, r2), m3, R2, S1.mono e2, (fun _ z => nomatch z), ha, fun A3 H3 e3 R3 => ?_⟩
              have e13 := e1.trans (e2.trans e3)
              cases o1 with
              | nx => exact fun σ3 S3 => ⟨A3, m3, r2, e13, R3, S3, hw'⟩
              | ct => exact fun σ3 S3 => ⟨A3, m3, r2, e13, R3, S3, hw'⟩
              | bk => cases hw'; exact fun σ3 S3 => q A3 H3 e13 R3 σ3 S3
              | rt d => cases hw'; exact q A3 H3 e13 R3
      · cases h
  | .for_ g ik args b, O => .of rfl fun s h => by
      split at h
      · rename_i tg iter body p
        simp only [Bool.and_eq_true] at h
        obtain ⟨⟨⟨h1, h2⟩, h3⟩, h4⟩ := h
        have pi := pi_D O h2 (sound args O).a fun e he => by
          obtain ⟨g', k1, k2⟩ := (sound args O).a1 e he
          exact ⟨g', k1, k2⟩
        refine PS.imp (ps_for (by rw [O.never]; exact PassesOwn.never) O.calm pi (pg_tg O h1) ((soundS b O).b _ h4) (fold_set h3)) fun E σ H q => ?_
        obtain ⟨A, m, r, o, m', R, Sr, hx, hc, q⟩ := q
        have hc' : ((ev k cf args r).l.bnd fun ds => (itemsD ik ds).bnd fun it => forL (fun d r m => match tgt g d r m with
          | some r' => (ex k cf b).x r' m
          | none => none) it.2 it.1 r) m = some (o, m') := hc
        rw [← bnd_assoc] at hc'
        obtain ⟨it, m1, k1, hl⟩ := bnd_some hc'
        refine ⟨A, m, r, it, m1, R, Sr, hx, k1, fun A1 H1 e1 R1 J hJ => ?_⟩
        generalize hf : (fun (d : D) (r : Rho) (m : List SO) => match tgt g d r m with
          | some r' => (ex k cf b).x r' m
          | none => none) = f at hl
        refine ⟨fun i j σ2 H2 => j = it.1.length - i ∧ i ≤ it.1.length ∧ ∃ A2 mm r2, Ext A1 H1 A2 H2 ∧ Rl X.K A2 H2 mm ∧ RSt X.K A2 H2 r2 σ2 ∧ forL f it.2 (it.1.drop i) r2 mm = some (o, m'),
          ⟨_, rfl, Nat.zero_le _, A1, m1, r, Ext.refl _ _, R1, Sr.mono e1, hl⟩, fun i j σ2 H2 hW => ?_⟩
        obtain ⟨rfl, hi, A2, mm, r2, e2, R2, S2, hl2⟩ := hW
        by_cases hlt : i < it.1.length
        · have hg : it.1[i]? = some it.1[i] := List.getElem?_eq_getElem hlt
          rw [List.drop_eq_getElem_cons hlt] at hl2
          unfold forL at hl2
          obtain ⟨st, hl2⟩ := still_of hl2
          obtain ⟨go, yl⟩ := hJ.go A2 H2 mm i _ e2 R2 st hg
          refine .inr ⟨go, fun σ' H' => i + 1 ≤ it.1.length ∧ ∃ A2 mm r2, Ext A1 H1 A2 H' ∧ Rl X.K A2 H' mm ∧ RSt X.K A2 H' r2 σ' ∧ forL f it.2 (it.1.drop (i + 1)) r2 mm = some (o, m'),
            fun σ' H' hN => ⟨it.1.length - (i + 1), by omega, rfl, hN⟩, fun x H' hy => ?_⟩
          obtain ⟨e3, R3, rx⟩ := yl x H' hy
          have S3 := S2.mono e3
          cases hfi : f it.1[i] r2 mm with
          | none => rw [hfi] at hl2; cases hl2
          | some pp =>
            obtain ⟨⟨o1, r4⟩, m4⟩ := pp
            rw [hfi] at hl2
            rw [← hf] at hfi
            simp only at hfi
            split at hfi
            · rename_i r3 ht
              refine tgt_ok (m := mm) S3 rx ht fun σ3 S4 _ => ?_
              refine ⟨A2, mm, r3, (o1, r4), m4, R3, S4, (fun _ z => nomatch z), hfi, fun A5 H5 e5 R5 => ?_⟩
              have e15 := e2.trans (e3.trans e5)
              cases o1 with
              | nx => exact fun σ5 S5 => ⟨by omega, A5, m4, r4, e15, R5, S5, hl2⟩
              | ct => exact fun σ5 S5 => ⟨by omega, A5, m4, r4, e15, R5, S5, hl2⟩
              | bk => cases hl2; exact fun σ5 S5 => q A5 H5 (e1.trans e15) R5 σ5 S5
              | rt d => cases hl2; exact q A5 H5 (e1.trans e15) R5
            · cases hfi
        · have hi' : i = it.1.length := by omega
          subst hi'
          rw [List.drop_length] at hl2
          unfold forL at hl2
          obtain ⟨st, hl2⟩ := still_of hl2
          cases hl2
          exact .inl ⟨hJ.stop A2 H2 _ _ e2 R2 st (Nat.le_refl _), q A2 H2 (e1.trans e2) R2 σ2 S2⟩
      · cases h
  | .mtch e cs, O => .of rfl fun s h => by
      split at h
      · rename_i v l p
        rw [Bool.and_eq_true] at h
        refine ⟨fun pins s σ H E I q => ?_⟩
        obtain ⟨A, m, r, o, m', R, Sr, hx, hc, q⟩ := q
        obtain ⟨d, m1, k1, hc⟩ := bnd_some hc
        refine wpAny_Match (thn (((sound e O).e v h.1).1.run pins s σ H (fun v H1 => ∃ A1, Ext A H A1 H1 ∧ Rl X.K A1 H1 m1 ∧ RD X.K A1 H1 d v) I ⟨A, m, r, d, m1, R, Sr, hx, k1, fun A1 H1 e1 R1 v hv => ⟨A1, e1, R1, hv⟩⟩) fun u s1 ⟨v, H1, I1, rv, A1, e1, R1, hv⟩ => ?_)
        exact (soundS cs O).c l h.2 true pins s1 σ H1 E A1 m1 r d v u o m' I1 R1 (Sr.mono e1) hv rv hc fun A2 H2 e2 R2 => q A2 H2 (e1.trans e2) R2
      · cases h
  | .case p gd body rest, O => by
      refine ⟨fun s h => absurd h Bool.false_ne_true, fun l h => absurd h Bool.false_ne_true, fun l h => ?_⟩
      cases l with
      | nil => exact absurd h Bool.false_ne_true
      | cons cc rs =>
        obtain ⟨pat, guard, bd⟩ := cc
        have h' : ((chkS S N cl ns body).b bd && (match (generalizing := false) p with
          | none => (match (generalizing := false) pat, guard with | .MatchAs none none _, none => true | _, _ => false)
          | some ps => (match (generalizing := false) pat with
            | .MatchSequence qs _ => chkPt N cl ns ps qs && ps.length == qs.length && (qs.findIdx? (·.isStar)).isNone && !(qs.all fun p => p.isWildcard || (p.isStar && p.names.isEmpty))
            | _ => false) && (chkS S N cl ns rest).c rs && (match (generalizing := false) guard, gd with
              | none, .nil => true
              | some g, .nil => false
              | some g, c => (chk S N c cl ns).e g
              | none, _ => false))) = true := h
        rw [Bool.and_eq_true] at h'
        obtain ⟨hb, h'⟩ := h'
        have ihb := (soundS body O).b bd hb
        intro first pins s σ H E A m r d v u o m' I R Sr hd rv hc q
        have nd : X.N.Nodup := by rw [O.eN]; exact O.nd
        cases p with
        | none =>
          simp only at h'
          split at h'
          · have hc' : (ex k cf body).x r m = some (o, m') := hc
            refine wpAny_matchCases_cons (wpAny_matchPattern_Capture (wpAny_assignInOrder_none ?_))
            exact ihb.run pins s σ H E I ⟨A, m, r, o, m', R, Sr, (fun _ z => nomatch z), hc', q⟩
          · cases h'
        | some ps =>
          simp only [Bool.and_eq_true] at h'
          obtain ⟨⟨h1, h2⟩, h3⟩ := h'
          split at h1
          · rename_i _ qs mp
            simp only [Bool.and_eq_true] at h1
            obtain ⟨⟨⟨g1, g2⟩, g3⟩, g4⟩ := h1
            have g2 := eq_of_beq g2
            have g3 : qs.findIdx? (·.isStar) = none := by simpa using g3
            have g4 : (qs.all fun p => p.isWildcard || (p.isStar && p.names.isEmpty)) = false := by simpa using g4
            have ihr := (soundS rest O).c rs h2
            cases d with
            | tup xs =>
              obtain ⟨a, vs, rfl, k1, k2⟩ := id hd
              cases rv
              obtain ⟨its, rvs, ht, hz⟩ := I.tuple k1
              have hl1 := rvs.length
              have hl2 := k2.length
              have hl3 : its.toArray.size = its.length := List.size_toArray
              have hfit : ((its.toArray.size : Nat) : Int) < 2 ^ 63 := by
                have : (sizeLine : Nat) < 2 ^ 63 := line63
                omega
              have hc' : (if xs.length = ps.length then (match ptsD ps xs r with
                | none => none
                | some none => (ex k cf rest).c (.tup xs) r m
                | some (some r') => match (generalizing := false) gd with
                  | .nil => (ex k cf body).x r' m
                  | g => match (ev k cf g r').t m with
                    | some (true, m') => (ex k cf body).x r' m'
                    | some (false, m') => (ex k cf rest).c (.tup xs) r' m'
                    | none => none) else (ex k cf rest).c (.tup xs) r m) = some (o, m') := hc
              by_cases hn : xs.length = ps.length
              · rw [if_pos hn] at hc'
                refine wpAny_matchCases_cons (matchSeq_tuple_hit ht hfit (by omega) ?_ g3 g4)
                have hql : qs.length = its.toArray.size := by omega
                rw [hql]
                refine unpackItems_tuple (I.ok.hd O.calm) ht fun h'' hx => ?_
                have I1 : L2.Inv X pins σ H { s with heap := h'', toks := s.toks + 1 + 1 } := I.kept fun b o e => hx b o (Nat.ne_of_lt (Heap.lt_size e)) e
                cases hp : ptsD ps xs r with
                | none => rw [hp] at hc'; cases hc'
                | some res =>
                  rw [hp] at hc'
                  refine each_ok O g1 k2 rvs hp I1 fun s2 I2 => ⟨fun e => ?_, fun r' e bs hbs => ?_⟩
                  · subst e
                    exact ihr false pins s2 σ H E A m r _ _ _ o m' I2 R Sr hd rfl hc' q
                  · subst e
                    refine bind_ok nd hbs I2 Sr fun σ3 s3 I3 S3 => ?_
                    cases guard with
                    | none =>
                      cases gd with
                      | nil => exact ihb.run pins s3 σ3 H E I3 ⟨A, m, r', o, m', R, S3, (fun _ z => nomatch z), hc', q⟩
                      | _ => exact absurd h3 Bool.false_ne_true
                    | some gx =>
                      have pg : gd ≠ .nil ∧ (chk S N gd cl ns).e gx = true := by
                        cases gd with
                        | nil => exact absurd h3 Bool.false_ne_true
                        | _ => exact ⟨(fun h => nomatch h), h3⟩
                      have pt := ((sound gd O).e gx pg.2).2
                      have hc2 : (match (ev k cf gd r').t m with
                        | some (true, m') => (ex k cf body).x r' m'
                        | some (false, m') => (ex k cf rest).c (.tup xs) r' m'
                        | none => none) = some (o, m') := by
                        cases gd with
                        | nil => exact absurd rfl pg.1
                        | _ => exact hc'
                      cases ht2 : (ev k cf gd r').t m with
                      | none => rw [ht2] at hc2; cases hc2
                      | some tp =>
                        obtain ⟨t, m4⟩ := tp
                        rw [ht2] at hc2
                        refine thn (pt.run pins s3 σ3 H (fun b H4 => b = t ∧ ∃ A4, Ext A H A4 H4 ∧ Rl X.K A4 H4 m4) I3 ⟨A, m, r', t, m4, R, S3, (fun _ z => nomatch z), ht2, fun A4 H4 e4 R4 => ⟨rfl, A4, e4, R4⟩⟩) fun b s4 ⟨H4, I4, eb, A4, e4, R4⟩ => ?_
                        subst eb
                        cases b with
                        | true => exact ihb.run pins s4 σ3 H4 E I4 ⟨A4, m4, r', o, m', R4, S3.mono e4, (fun _ z => nomatch z), hc2, fun A5 H5 e5 R5 => q A5 H5 (e4.trans e5) R5⟩
                        | false => exact ihr false pins s4 σ3 H4 E A4 m4 r' _ _ _ o m' I4 R4 (S3.mono e4) (hd.mono e4) rfl hc2 fun A5 H5 e5 R5 => q A5 H5 (e4.trans e5) R5
              · rw [if_neg hn] at hc'
                refine wpAny_matchCases_cons (matchSeq_tuple_miss ht hfit (by omega) ?_ g3 g4)
                exact ihr false pins _ σ H E A m r _ _ _ o m' (I.tok _) R Sr hd rfl hc' q
            | _ => cases hc
          · cases h1
end
end Mi
namespace Mi
open PySem PySem.Spec PyProof.Rows L2

mutual
theorem RD.lt {K : PySem.W.Frag} {A : List Addr} {H : Hp} : ∀ {d : D} {v : V}, RD K A H d v → ltD A.length d = true
  | .non, _, _ => rfl
  | .bl _, _, _ => rfl
  | .int _, _, _ => rfl
  | .str _, _, _ => rfl
  | .tup xs, v, h => by
    obtain ⟨a, vs, rfl, h1, h2⟩ := h
    exact RDs.lt h2
  | .fz xs, v, h => by
    obtain ⟨a, vs, rfl, h1, h2⟩ := h
    exact RDs.lt h2
  | .loc n, v, h => by
    obtain ⟨a, rfl, h1⟩ := h
    exact decide_eq_true (List.getElem?_eq_some_iff.mp h1).1
theorem RDs.lt {K : PySem.W.Frag} {A : List Addr} {H : Hp} : ∀ {xs : List D} {vs : List V}, RDs K A H xs vs → ltDs A.length xs = true
  | [], _, _ => rfl
  | x :: xs, vs, h => by
    obtain ⟨v, r, rfl, h1, h2⟩ := h
    show (ltD _ x && ltDs _ xs) = true
    rw [RD.lt h1, RDs.lt h2]
    rfl
end
mutual
theorem RD.cut {K : PySem.W.Frag} {A B : List Addr} {H : Hp} : ∀ {d : D} {v : V}, RD K (A ++ B) H d v → ltD A.length d = true → RD K A H d v
  | .non, _, h, _ => h
  | .bl _, _, h, _ => h
  | .int _, _, h, _ => h
  | .str _, _, h, _ => h
  | .tup xs, v, h, q => by
    obtain ⟨a, vs, rfl, h1, h2⟩ := h
    exact ⟨a, vs, rfl, h1, RDs.cut h2 q⟩
  | .fz xs, v, h, q => by
    obtain ⟨a, vs, rfl, h1, h2⟩ := h
    exact ⟨a, vs, rfl, h1, RDs.cut h2 q⟩
  | .loc n, v, h, q => by
    obtain ⟨a, rfl, h1⟩ := h
    have hn : n < A.length := of_decide_eq_true q
    rw [List.getElem?_append_left hn] at h1
    exact ⟨a, rfl, h1⟩
theorem RDs.cut {K : PySem.W.Frag} {A B : List Addr} {H : Hp} : ∀ {xs : List D} {vs : List V}, RDs K (A ++ B) H xs vs → ltDs A.length xs = true → RDs K A H xs vs
  | [], _, h, _ => h
  | x :: xs, vs, h, q => by
    obtain ⟨v, r, rfl, h1, h2⟩ := h
    have q' : (ltD A.length x && ltDs A.length xs) = true := q
    rw [Bool.and_eq_true] at q'
    exact ⟨v, r, rfl, RD.cut h1 q'.1, RDs.cut h2 q'.2⟩
end
mutual
theorem RD.wide {K : PySem.W.Frag} {A B : List Addr} {H : Hp} : ∀ {d : D} {v : V}, RD K A H d v → RD K (A ++ B) H d v
  | .non, _, h => h
  | .bl _, _, h => h
  | .int _, _, h => h
  | .str _, _, h => h
  | .tup xs, v, h => by
    obtain ⟨a, vs, rfl, h1, h2⟩ := h
    exact ⟨a, vs, rfl, h1, RDs.wide h2⟩
  | .fz xs, v, h => by
    obtain ⟨a, vs, rfl, h1, h2⟩ := h
    exact ⟨a, vs, rfl, h1, RDs.wide h2⟩
  | .loc n, v, h => by
    obtain ⟨a, rfl, h1⟩ := h
    exact ⟨a, rfl, by rw [List.getElem?_append_left (List.getElem?_eq_some_iff.mp h1).1]; exact h1⟩
theorem RDs.wide {K : PySem.W.Frag} {A B : List Addr} {H : Hp} : ∀ {xs : List D} {vs : List V}, RDs K A H xs vs → RDs K (A ++ B) H xs vs
  | [], _, h => h
  | x :: xs, vs, h => by
    obtain ⟨v, r, rfl, h1, h2⟩ := h
    exact ⟨v, r, rfl, RD.wide h1, RDs.wide h2⟩
end

theorem gc_ok {K : PySem.W.Frag} {A A' : List Addr} {H H' : Hp} {m m' : List SO} {d : D} {v : V} (R : Rl K A H m) (e : Ext A H A' H') (R' : Rl K A' H' m') (hv : RD K A' H' d v) :
    ∃ A2, Ext A H A2 H' ∧ Rl K A2 H' (gc m d m').2 ∧ RD K A2 H' (gc m d m').1 v := by
  obtain ⟨B, rfl⟩ := e.pre
  have same : ∃ A2, Ext A H A2 H' ∧ Rl K A2 H' m' ∧ RD K A2 H' d v := ⟨_, e, R', hv⟩
  have e0 : Ext A H A H' := ⟨⟨[], by simp⟩, e.keep, fun b h n => absurd h n, e.tups, e.frzs⟩
  have old : Kept m m' → ∀ (n : Nat) (o : SO) (a : Addr), n < m.length → m'[n]? = some o → A[n]? = some a → ObR K A H' o a := by
    intro hk n o a hn h1 h2
    have h2' : (A ++ B)[n]? = some a := by
      rw [List.getElem?_append_left (by rw [R.len]; exact hn)]
      exact h2
    have ob := R'.ob n o a h1 h2'
    cases o with
    | lst xs =>
      obtain ⟨vs, k1, k2⟩ := ob
      refine ⟨vs, k1, k2.cut ?_⟩
      rcases hk.2 n hn with q | ⟨ys, q1, q2⟩
      · rw [h1] at q
        obtain ⟨ws, _, k3⟩ := R.ob n _ a q.symm h2
        exact k3.lt
      · rw [h1] at q1
        cases q1
        rw [R.len]
        exact q2
  unfold gc
  split
  · rename_i hk
    have Rt : Rl K A H' (m'.take m.length) := ⟨by rw [List.length_take, R.len]; have := hk.1; omega, R.nd, fun n o a h1 h2 => by
      have hn : n < m.length := by rw [← R.len]; exact (List.getElem?_eq_some_iff.mp h2).1
      rw [List.getElem?_take_of_lt hn] at h1
      exact old hk n o a hn h1 h2⟩
    split
    · rename_i hd
      exact ⟨A, e0, Rt, hv.cut (by rw [R.len]; exact hd)⟩
    · rename_i hd
      split
      · rename_i j
        split
        · rename_i xs hj
          split
          · rename_i hx
            obtain ⟨a, rfl, ha⟩ := hv
            have hjm : m.length ≤ j := by
              have : ¬ j < m.length := fun z => hd (decide_eq_true z)
              omega
            have hB : B[j - A.length]? = some a := by
              rw [List.getElem?_append_right (by rw [R.len]; exact hjm)] at ha
              exact ha
            have hnA : a ∉ A := fun hm => by
              have nd := (List.nodup_append.mp R'.nd).2.2
              exact nd a hm a (List.mem_of_getElem? hB) rfl
            have hnone : H a = none := e.new a (List.mem_append.mpr (.inr (List.mem_of_getElem? hB))) hnA
            obtain ⟨vs, k1, k2⟩ := R'.ob j _ a hj ha
            refine ⟨A ++ [a], ⟨⟨[a], rfl⟩, e.keep, fun b hb hn => ?_, e.tups, e.frzs⟩, ?_, a, rfl, ?_⟩
            · rcases List.mem_append.mp hb with hb | hb
              · exact absurd hb hn
              · rw [List.mem_singleton.mp hb]; exact hnone
            · refine ⟨by rw [List.length_append, List.length_append, Rt.len]; rfl, List.nodup_append.mpr ⟨R.nd, by simp, fun x hx y hy => ?_⟩, fun n o b h1 h2 => ?_⟩
              · rw [List.mem_singleton.mp hy]
                intro z
                rw [z] at hx
                exact hnA hx
              · by_cases hn : n < m.length
                · have hn2 : n < (m'.take m.length).length := by rw [← Rt.len, R.len]; exact hn
                  rw [List.getElem?_append_left hn2] at h1
                  rw [List.getElem?_append_left (by rw [R.len]; exact hn)] at h2
                  have ob := Rt.ob n o b h1 h2
                  cases o with
                  | lst ys =>
                    obtain ⟨ws, q1, q2⟩ := ob
                    exact ⟨ws, q1, q2.wide⟩
                · have el : (m'.take m.length).length = m.length := by rw [← Rt.len, R.len]
                  rw [List.getElem?_append_right (by rw [el]; omega), el] at h1
                  rw [List.getElem?_append_right (by rw [R.len]; omega), R.len] at h2
                  cases hk2 : n - m.length with
                  | zero =>
                    rw [hk2] at h1 h2
                    cases h1
                    cases h2
                    exact ⟨vs, k1, (k2.cut (by rw [R.len]; exact hx)).wide⟩
                  | succ i => rw [hk2] at h1; simp at h1
            · rw [← R.len, List.getElem?_append_right (Nat.le_refl _), Nat.sub_self]
              rfl
          · exact same
        · exact same
      · exact same
  · exact same

/-- a def of the text that the table tells -/
structure DefOk (S : Sx) (tb : Str → Option Fn) (K : PySem.W.Frag) (mg : Str → Option Value) (f : Str) : Prop where
  ex : ∃ (fn : Fn) (st : Stmt) (a : Addr) (fd : FuncData), tb f = some fn ∧ mg f = some (.ref a) ∧ Fun K f f st a fd ∧ FnScope fn.N fn.ps (defScope st) ∧ Binds K fd fn.ps [] ∧ (chkS S fn.N true (defScope st).names fn.body).b (defBody st) = true
/-- what the texts lean on stands -/
structure Top (S : Sx) (tb : Str → Option Fn) (w : World) (K : PySem.W.Frag) (mg : Str → Option Value) : Prop where
  blt : ∀ x ∈ S.blt, mg x = none
  gl : ∀ p ∈ S.gl, ∃ u v, mg p.1 = some u ∧ RelV v u ∧ ∀ A H, RD K A H p.2 v
  gd : ∀ p ∈ S.gd, ∃ a, mg p.1 = some (.ref a) ∧ WDict K w a p.2
  defs : ∀ f ∈ S.fns, DefOk S tb K mg f

theorem rho_start {K : PySem.W.Frag} {A : List Addr} {H : Hp} {ds : List D} {vs : List V} {N : List Str} (h : RDs K A H ds vs) : RSt K A H (ds.map some ++ List.replicate (N.length - ds.length) none) (L2.start N vs) := by
  have hl := h.length
  refine ⟨by unfold L2.start; simp [hl], fun i d hi => ?_⟩
  unfold L2.start
  by_cases hn : i < ds.length
  · rw [List.getElem?_append_left (by rw [List.length_map]; exact hn), List.getElem?_map] at hi
    rw [List.getElem?_append_left (by rw [List.length_map, hl]; exact hn), List.getElem?_map]
    cases hd : ds[i]? with
    | none => rw [hd] at hi; cases hi
    | some d' =>
      rw [hd] at hi
      cases hi
      obtain ⟨v, e1, e2⟩ := h.get hd
      exact ⟨v, by rw [e1]; rfl, e2⟩
  · rw [List.getElem?_append_right (by rw [List.length_map]; omega), List.getElem?_replicate] at hi
    split at hi <;> cases hi

theorem ok_at {S : Sx} {tb : Str → Option Fn} {P : Program} {w : World} {K : PySem.W.Frag} {mg : Str → Option Value} {base : Heap} (T : Top S tb w K mg) {k : Nat}
    (ih : ∀ f ∈ S.fns, ∃ a fd ps, mg f = some (.ref a) ∧ PySem.W.keepIn K (.ref a) = true ∧ Binds K fd ps [] ∧ FnOk P w K mg base CX0 k a fd ps (spD K (run tb k f)))
    {f : Str} {fn : Fn} {st : Stmt} {a : Addr} {fd : FuncData} (h1 : tb f = some fn) (h3 : Fun K f f st a fd) (h4 : FnScope fn.N fn.ps (defScope st)) (h6 : (chkS S fn.N true (defScope st).names fn.body).b (defBody st) = true) :
    FnOk P w K mg base CX0 (k + 1) a fd fn.ps (spD K (run tb (k + 1) f)) := by
  have inv : ∀ {ds : List D} {m : List SO} {x}, run tb (k + 1) f ds m = some x → ds.length = fn.ps.length ∧ ∃ o r m1, (ex k (run tb k) fn.body).x (ds.map some ++ List.replicate (fn.N.length - ds.length) none) m = some ((o, r), m1) ∧
      ((o = .nx ∧ x = gc m .non m1) ∨ ∃ d, o = .rt d ∧ x = gc m d m1) := by
    intro ds m x h
    have h' : (match tb f with
      | none => none
      | some fn => if ds.length = fn.ps.length then (match (ex k (run tb k) fn.body).x (ds.map some ++ List.replicate (fn.N.length - ds.length) none) m with
        | some ((.nx, _), m') => some (gc m .non m')
        | some ((.rt d, _), m') => some (gc m d m')
        | _ => none) else none) = some x := h
    rw [h1] at h'
    simp only at h'
    split at h'
    · rename_i hl
      refine ⟨hl, ?_⟩
      split at h'
      · rename_i r m1 hx
        cases h'
        exact ⟨.nx, r, m1, hx, .inl ⟨rfl, rfl⟩⟩
      · rename_i d r m1 hx
        cases h'
        exact ⟨.rt d, r, m1, hx, .inr ⟨d, rfl, rfl⟩⟩
      · cases h'
    · cases h'
  refine h3.ok h4 (fun vs H Q E h => ?_) fun cdv A outer s H vs Q E hr h => ?_
  · obtain ⟨A, m, ds, d, m', R, hd, h, _⟩ := h
    rw [hd.length]
    exact (inv h).1
  · have O : XOk S k (run tb k) fn.N true (defScope st).names (cxOf CX0 P w K mg base fn.N f (defScope st) a cdv A outer s H E).nox := by
      refine ⟨rfl, h4.nd, rfl, h4.kind, rfl, hr, rfl, fun _ _ => rfl, T.blt, T.gl, T.gd, ih⟩
    refine ⟨_, (soundS fn.body O).b _ h6, ?_⟩
    obtain ⟨A0, m, ds, d, m', R, hd, h, q⟩ := h
    obtain ⟨_, o, r, m1, hx, ho⟩ := inv h
    refine ⟨A0, m, _, (o, r), m1, R, rho_start hd, (fun _ z => nomatch z), hx, fun A1 H1 e1 R1 => ?_⟩
    rcases ho with ⟨rfl, hg⟩ | ⟨d1, rfl, hg⟩
    · intro σ1 S1
      obtain ⟨A2, e2, R2, r2⟩ := gc_ok R e1 R1 (show RD K A1 H1 .non .non from rfl)
      rw [← hg] at R2 r2
      exact q A2 H1 e2 R2 _ r2
    · intro v hv
      obtain ⟨A2, e2, R2, r2⟩ := gc_ok R e1 R1 hv
      rw [← hg] at R2 r2
      exact q A2 H1 e2 R2 _ r2
theorem all_ok {S : Sx} {tb : Str → Option Fn} {P : Program} {w : World} {K : PySem.W.Frag} {mg : Str → Option Value} {base : Heap} (T : Top S tb w K mg) : ∀ (k : Nat), ∀ f ∈ S.fns,
    ∃ a fd ps, mg f = some (.ref a) ∧ PySem.W.keepIn K (.ref a) = true ∧ Binds K fd ps [] ∧ FnOk P w K mg base CX0 k a fd ps (spD K (run tb k f))
  | 0, f, hf => by
    obtain ⟨fn, st, a, fd, _, h2, h3, _, h5, _⟩ := (T.defs f hf).ex
    refine ⟨a, fd, fn.ps, h2, h3.kp, h5, ⟨fun vs H Q E h => ?_, fun A outer s H args us vs Q E hr e0 hb r h => ?_⟩⟩
    · obtain ⟨_, _, _, _, _, _, _, h, _⟩ := h
      cases h
    · obtain ⟨_, _, _, _, _, _, _, h, _⟩ := h
      cases h
  | k + 1, f, hf => by
    obtain ⟨fn, st, a, fd, h1, h2, h3, h4, h5, h6⟩ := (T.defs f hf).ex
    exact ⟨a, fd, fn.ps, h2, h3.kp, h5, ok_at T (all_ok T k) h1 h3 h4 h6⟩

/-- a def by what the top has left of it -/
theorem defOk_mk {S : Sx} {tb : Str → Option Fn} {K : PySem.W.Frag} {mg : Str → Option Value} {f : Str} {fn : Fn} {st : Stmt} {a : Addr} {oc : Value} {od an : Option Addr} {osl : Array (Option Value)} {kV doc pm cdv ct : Value}
    (ht : tb f = some fn) (hm : mg f = some (.ref a)) (l : K.lookup a = some ⟨oc, od, .func (PySem.W.fnOf f f (defArgs st) (defBody st) (defScope st) .none kV doc pm an cdv ct), osl⟩)
    (c : PySem.W.codeIn K cdv f = true) (k : PySem.W.keepIn K (.ref a) = true) (sc : FnScope fn.N fn.ps (defScope st))
    (hb : ∀ (kV doc pm : Value) (an : Option Addr) (cdv ct : Value) (us : List Value), us.length = fn.ps.length → bindArgs (PySem.W.fnOf f f (defArgs st) (defBody st) (defScope st) .none kV doc pm an cdv ct) ⟨us, []⟩ = pure (fn.ps.zip us))
    (hc : (chkS S fn.N true (defScope st).names fn.body).b (defBody st) = true) : DefOk S tb K mg f :=
  have F := fun_mk (st := st) l c k
  ⟨fn, st, a, _, ht, hm, F, sc, F.binds hb, hc⟩
/-- a tuple of the written part -/
theorem rd_tup {K : PySem.W.Frag} {a : Addr} {o : Obj} {its : Array Value} {n : Nat} {xs : List D} {vs : List V} (l : K.lookup a = some o) (hc : o.cls = .type "tuple") (hd : o.data = .seq its n) (hz : its.size ≤ sizeLine) (hv : Vals vs its.toList) (A : List Addr) (H : Hp) (hx : RDs K A H xs vs) : RD K A H (.tup xs) (.ref a) :=
  ⟨a, vs, rfl, .inr ⟨o, its, n, l, hc, hd, hz, hv⟩, hx⟩
/-- the law at a script of ints -/
theorem law_sp {K : PySem.W.Frag} {H : Hp} {a : Addr} {ns : List Int} (cf : List D → M D) (hO : Only H) (hS : SqL K H a (ns.map V.int)) (h : cf [.fz (ns.map D.int)] [] = some (.bl true, [])) :
    spD K cf [.ref a] H (fun v _ => v = .bl true) fun _ _ _ => False := by
  have hz : SqZ K H a (ns.map V.int) := by
    rcases hS with (hS | ⟨o, hS⟩) | hS
    · rcases hO a with h | ⟨o, xs, h⟩
      · rw [h] at hS; cases hS
      · rw [h] at hS; cases hS
    · exact .inl ⟨o, hS⟩
    · exact .inr hS
  have hi : ∀ ns : List Int, RDs K [] H (ns.map D.int) (ns.map V.int) := by
    intro ns
    induction ns with
    | nil => rfl
    | cons n r ih => exact ⟨_, _, rfl, rfl, ih⟩
  exact ⟨[], [], [.fz (ns.map D.int)], .bl true, [], ⟨rfl, List.nodup_nil, fun n o a h => by simp at h⟩, ⟨_, [], rfl, ⟨a, _, rfl, hz, hi ns⟩, rfl⟩, h, fun _ _ _ _ _ hu => hu⟩
end Mi
namespace Mi
open PySem PySem.Spec PyProof.Rows L2
theorem wdict_find {z : Str} : ∀ {kvs : List (Str × D)} {es : List DictEntry} {K : PySem.W.Frag}, Paired (fun (p : Str × D) (e : DictEntry) => (∃ t, e.key = .str p.1 t) ∧ ∃ v, RelV v e.val ∧ ∀ A H, RD K A H p.2 v) kvs es →
    (match kvs.lookup z with
      | some d => ∃ u v, (match es.find? (·.key.isStr z) with
          | some e => some (some e.val)
          | none => if es.any (·.refKey) then none else some none) = some (some u) ∧ RelV v u ∧ ∀ A H, RD K A H d v
      | none => es.find? (·.key.isStr z) = none ∧ es.any (·.refKey) = false)
  | [], _, K, h => by
    cases h
    exact ⟨rfl, rfl⟩
  | (x, d) :: kvs, _, K, h => by
    cases h with
    | cons h1 h2 =>
      rename_i e es
      obtain ⟨⟨t, hk⟩, v, hv, hd⟩ := h1
      have ih := wdict_find (z := z) h2
      have hs : e.key.isStr z = (x == z) := by rw [hk]; rfl
      by_cases hz : z = x
      · subst hz
        have e1 : (z == z) = true := beq_self_eq_true z
        rw [List.lookup_cons, e1]
        refine ⟨e.val, v, ?_, hv, hd⟩
        rw [List.find?_cons, hs, e1]
      · have e1 : (z == x) = false := beq_eq_false_iff_ne.mpr hz
        have e2 : (x == z) = false := beq_eq_false_iff_ne.mpr (Ne.symm hz)
        have e3 : e.refKey = false := by unfold DictEntry.refKey; rw [hk]
        rw [List.lookup_cons, e1, List.find?_cons, hs, e2, List.any_cons, e3, Bool.false_or]
        exact ih
theorem wdict_mk {K : PySem.W.Frag} {w : World} {a : Addr} {es : Array DictEntry} {n : Nat} {kvs : List (Str × D)} (l : K.lookup a = some ⟨.type "dict", none, .dict es n, #[]⟩) (kl : PySem.W.KeysLit w.params es.toList) (lo : (a == sysModules) = false)
    (h : Paired (fun (p : Str × D) (e : DictEntry) => (∃ t, e.key = .str p.1 t) ∧ ∃ v, RelV v e.val ∧ ∀ A H, RD K A H p.2 v) kvs es.toList) : WDict K w a kvs := by
  refine ⟨es, n, ⟨l, kl, lo⟩, fun z => ?_⟩
  have := wdict_find (z := z) h
  have en : PySem.W.nsIn K a z = (match es.toList.find? (·.key.isStr z) with
    | some e => some (some e.val)
    | none => if es.toList.any (·.refKey) then none else some none) := by
    unfold PySem.W.nsIn
    rw [l]
    rfl
  cases hl : kvs.lookup z with
  | some d =>
    rw [hl] at this
    rw [en]
    exact this
  | none =>
    rw [hl] at this
    rw [en, this.1, this.2]
    rfl
theorem rds_strs {K : PySem.W.Frag} {A : List Addr} {H : Hp} : ∀ zs : List Str, RDs K A H (zs.map D.str) (zs.map V.str)
  | [] => rfl
  | z :: zs => ⟨.str z, zs.map V.str, rfl, rfl, rds_strs zs⟩
/-- a tuple of texts of the written part -/
theorem rd_strs {K : PySem.W.Frag} {a : Addr} {o : Obj} {its : Array Value} {n : Nat} (zs : List Str) (l : K.lookup a = some o) (hc : o.cls = .type "tuple") (hd : o.data = .seq its n) (hz : its.size ≤ sizeLine) (hv : Vals (zs.map V.str) its.toList) (A : List Addr) (H : Hp) :
    RD K A H (.tup (zs.map D.str)) (.ref a) := rd_tup l hc hd hz hv A H (rds_strs zs)
section
variable {K : PySem.W.Frag} {h : Heap}
abbrev DefOkX (X : K.In h) (S : Sx) (tb : Str → Option Fn) (mg : Str → Option Value) (f : Str) : Prop := DefOk S tb K mg f
abbrev GdX (X : K.In h) (w : World) (mg : Str → Option Value) (x : Str) (kvs : List (Str × D)) : Prop := ∃ a, mg x = some (.ref a) ∧ WDict K w a kvs
abbrev GlX (X : K.In h) (mg : Str → Option Value) (x : Str) (d : D) : Prop := ∃ u v, mg x = some u ∧ RelV v u ∧ ∀ A H, RD K A H d v
theorem gl_strs {mg : Str → Option Value} {x : Str} {a : Addr} {o : Obj} {its : Array Value} {n : Nat} (X : K.In h) (G : h.Ns mainGlobals mg) (zs : List Str) (hn : PySem.W.nsIn K mainGlobals x = some (some (.ref a))) (l : K.lookup a = some o) (hc : o.cls = .type "tuple") (hd : o.data = .seq its n) (hz : its.size ≤ sizeLine)
    (hv : Vals (zs.map V.str) its.toList) : GlX X mg x (.tup (zs.map D.str)) := ⟨_, .ref a, PySem.W.mg_of X G hn, rfl, fun A H => rd_strs zs l hc hd hz hv A H⟩
theorem gl_int {mg : Str → Option Value} {x : Str} {i : Int} {t : Tok} (X : K.In h) (G : h.Ns mainGlobals mg) (hn : PySem.W.nsIn K mainGlobals x = some (some (.int i t))) : GlX X mg x (.int i) := ⟨_, .int i, PySem.W.mg_of X G hn, ⟨t, rfl⟩, fun _ _ => rfl⟩
abbrev TopX (X : K.In h) (S : Sx) (tb : Str → Option Fn) (w : World) (mg : Str → Option Value) : Prop := Top S tb w K mg
end
end Mi
namespace Mi
open PySem PySem.Spec PyProof.Rows L2

/-! ### how a run goes -/
theorem gc_app {m l : List SO} {d : D} (h : ltD m.length d = true) : gc m d (m ++ l) = (d, m) := by
  have hk : Kept m (m ++ l) := ⟨by simp, fun i hi => .inl (by rw [List.getElem?_append_left hi])⟩
  unfold gc
  rw [if_pos hk, if_pos h, List.take_left']
  rfl
theorem gc_same {m : List SO} {d : D} (h : ltD m.length d = true) : gc m d m = (d, m) := by
  have := gc_app (l := []) h
  rwa [List.append_nil] at this
@[simp] theorem lt_non (n : Nat) : ltD n .non = true := by simp [ltD]
@[simp] theorem lt_bl (n : Nat) (b : Bool) : ltD n (.bl b) = true := by simp [ltD]
@[simp] theorem lt_int (n : Nat) (i : Int) : ltD n (.int i) = true := by simp [ltD]
@[simp] theorem lt_str (n : Nat) (x : Str) : ltD n (.str x) = true := by simp [ltD]
@[simp] theorem lt_tup (n : Nat) (xs : List D) : ltD n (.tup xs) = ltDs n xs := by simp [ltD]
@[simp] theorem lt_nil (n : Nat) : ltDs n [] = true := by simp [ltDs]
@[simp] theorem lt_cons (n : Nat) (x : D) (xs : List D) : ltDs n (x :: xs) = (ltD n x && ltDs n xs) := by simp [ltDs]
/-- a def's end -/
noncomputable def fini (m : List SO) : Option ((Out × Rho) × List SO) → Option (D × List SO)
  | some ((.nx, _), m') => some (gc m .non m')
  | some ((.rt d, _), m') => some (gc m d m')
  | _ => none
theorem run_at {tb : Str → Option Fn} {f : Str} {fn : Fn} (h : tb f = some fn) (k : Nat) {ds : List D} (hl : ds.length = fn.ps.length) (m : List SO) :
    run tb (k + 1) f ds m = fini m ((ex k (run tb k) fn.body).x (ds.map some ++ List.replicate (fn.N.length - ds.length) none) m) := by
  show (match tb f with
    | none => none
    | some fn => if ds.length = fn.ps.length then (match (ex k (run tb k) fn.body).x (ds.map some ++ List.replicate (fn.N.length - ds.length) none) m with
      | some ((.nx, _), m') => some (gc m .non m')
      | some ((.rt d, _), m') => some (gc m d m')
      | _ => none) else none) = _
  rw [h]
  simp only
  rw [if_pos hl]
  rfl
@[simp] theorem set_app0 {α : Type} (m l : List α) (o : α) : (m ++ l).set m.length o = m ++ l.set 0 o := by
  rw [List.set_append_right _ _ (Nat.le_refl _), Nat.sub_self]
@[simp] theorem set_appn {α : Type} (m l : List α) (j : Nat) (o : α) : (m ++ l).set (m.length + j) o = m ++ l.set j o := by
  rw [List.set_append_right _ _ (Nat.le_add_right _ _), Nat.add_sub_cancel_left]
@[simp] theorem get_app0 {α : Type} (m l : List α) : (m ++ l)[m.length]? = l[0]? := by
  rw [List.getElem?_append_right (Nat.le_refl _), Nat.sub_self]
@[simp] theorem get_appn {α : Type} (m l : List α) (j : Nat) : (m ++ l)[m.length + j]? = l[j]? := by
  rw [List.getElem?_append_right (Nat.le_add_right _ _), Nat.add_sub_cancel_left]
@[simp] theorem getL_app0 (m : List SO) (xs : List D) (l : List SO) : getL (m ++ .lst xs :: l) m.length = some xs := by
  unfold getL; simp
@[simp] theorem getL_appn (m l : List SO) (j : Nat) : getL (m ++ l) (m.length + j) = getL l j := by
  unfold getL; simp
@[simp] theorem getL_cons0 (xs : List D) (l : List SO) : getL (.lst xs :: l) 0 = some xs := rfl
@[simp] theorem getL_consn (o : SO) (l : List SO) (j : Nat) : getL (o :: l) (j + 1) = getL l j := rfl
theorem getL_old {m l : List SO} {n : Nat} (h : n < m.length) : getL (m ++ l) n = getL m n := by
  unfold getL; rw [List.getElem?_append_left h]

theorem toNat_inj {a b : Char} (h : a.toNat = b.toNat) : a = b := by
  apply Char.ext
  exact UInt32.toNat_inj.mp h
theorem map_toNat_inj : ∀ {a b : List Char}, a.map Char.toNat = b.map Char.toNat → a = b
  | [], [], _ => rfl
  | [], _ :: _, h => by cases h
  | _ :: _, [], h => by cases h
  | x :: xs, y :: ys, h => by
    rw [List.map_cons, List.map_cons] at h
    injection h with h1 h2
    rw [toNat_inj h1, map_toNat_inj h2]
theorem ofs_inj {a b : String} (h : Str.ofString a = Str.ofString b) : a = b := by
  rw [Str.ofString_eq_toList, Str.ofString_eq_toList] at h
  injection h with h
  have h : a.toList.map Char.toNat = b.toList.map Char.toNat := by simpa using h
  exact String.toList_inj.mp (map_toNat_inj h)
@[simp] theorem ofs_beq (a b : String) : (Str.ofString a == Str.ofString b) = (a == b) := by
  rw [Bool.eq_iff_iff, beq_iff_eq, beq_iff_eq]
  exact ⟨ofs_inj, fun h => by rw [h]⟩
@[simp] theorem ofs_eq (a b : String) : (Str.ofString a = Str.ofString b) = (a = b) := propext ⟨ofs_inj, fun h => by rw [h]⟩
@[simp] theorem sok_of (s : String) : PyData.strOk (Str.ofString s) = true := by
  unfold PyData.strOk
  rw [Str.ofString_eq_toList]
  rw [Array.all_eq_true]
  intro i hi
  simp only [List.getElem_toArray, List.getElem_map, decide_eq_true_eq]
  have := (s.toList[i]'(by simpa using hi)).valid
  have h2 : ∀ c : Char, c.toNat < 0x110000 := fun c => by
    have := c.valid
    unfold UInt32.isValidChar Nat.isValidChar at this
    show c.val.toNat < _
    omega
  exact h2 _
@[simp] theorem depth_int (i : Int) : (PyData.int i).depth = 0 := rfl
theorem eqD_int (k : Nat) (m : List SO) (a b : Int) : eqD k m (.int a) (.int b) = some (a == b) := by
  simp [eqD, pd, pd0, PyData.canLay0, PyData.eqv]
theorem eqD_str (k : Nat) (m : List SO) {a b : Str} (ha : PyData.strOk a = true) (hb : PyData.strOk b = true) : eqD k m (.str a) (.str b) = some (a == b) := by
  simp [eqD, pd, pd0, PyData.canLay0, PyData.eqv, ha, hb, PyData.depth]
end Mi
namespace Mi
open PySem PySem.Spec PyProof.Rows L2

/-! ### running pieces -/
mutual
inductive RP where
  | num (i : Int) | name (x : Str) | fun_ (a : Int) (x : Str) (b : RP) | call (a : Int) (f x : RP) | plus (a : Int) (x y : RP) | pick (a : Int) (c x y : RP)
  | round (b : RP) | take (a : Int) (x : Str) (b : RP) | shut (a : Int) (x : Str) (b : RP) | kept (a : Int) (fs : List Fr)
inductive Fr where
  | caller (a : Int) (x : RP) | given (a : Int) (f : RP) | adder (a : Int) (y : RP) | added (a : Int) (x : RP) | picker (a : Int) (x y : RP) | round
end
mutual
def enc : RP → D
  | .num i => .tup [.str "num", .int i]
  | .name x => .tup [.str "name", .str x]
  | .fun_ a x b => .tup [.str "fun", .int a, .str x, enc b]
  | .call a f x => .tup [.str "call", .int a, enc f, enc x]
  | .plus a x y => .tup [.str "plus", .int a, enc x, enc y]
  | .pick a c x y => .tup [.str "pick", .int a, enc c, enc x, enc y]
  | .round b => .tup [.str "round", enc b]
  | .take a x b => .tup [.str "take", .int a, .str x, enc b]
  | .shut a x b => .tup [.str "shut", .int a, .str x, enc b]
  | .kept a fs => .tup [.str "kept", .int a, .tup (encFs fs)]
def encF : Fr → D
  | .caller a x => .tup [.str "caller", .int a, enc x]
  | .given a f => .tup [.str "given", .int a, enc f]
  | .adder a y => .tup [.str "adder", .int a, enc y]
  | .added a x => .tup [.str "added", .int a, enc x]
  | .picker a x y => .tup [.str "picker", .int a, enc x, enc y]
  | .round => .tup [.str "round"]
def encFs : List Fr → List D
  | [] => []
  | f :: fs => encF f :: encFs fs
end
theorem encFs_map (fs : List Fr) : encFs fs = fs.map encF := by
  induction fs with
  | nil => simp [encFs]
  | cons f fs ih => simp [encFs, ih]
mutual
theorem lt_enc (n : Nat) : ∀ p : RP, ltD n (enc p) = true
  | .num i => by simp [enc, ltD, ltDs]
  | .name x => by simp [enc, ltD, ltDs]
  | .fun_ a x b => by simp [enc, ltD, ltDs, lt_enc n b]
  | .call a f x => by simp [enc, ltD, ltDs, lt_enc n f, lt_enc n x]
  | .plus a x y => by simp [enc, ltD, ltDs, lt_enc n x, lt_enc n y]
  | .pick a c x y => by simp [enc, ltD, ltDs, lt_enc n c, lt_enc n x, lt_enc n y]
  | .round b => by simp [enc, ltD, ltDs, lt_enc n b]
  | .take a x b => by simp [enc, ltD, ltDs, lt_enc n b]
  | .shut a x b => by simp [enc, ltD, ltDs, lt_enc n b]
  | .kept a fs => by simp [enc, ltD, ltDs, lt_encFs n fs]
theorem lt_encF (n : Nat) : ∀ f : Fr, ltD n (encF f) = true
  | .caller a x => by simp [encF, ltD, ltDs, lt_enc n x]
  | .given a f => by simp [encF, ltD, ltDs, lt_enc n f]
  | .adder a y => by simp [encF, ltD, ltDs, lt_enc n y]
  | .added a x => by simp [encF, ltD, ltDs, lt_enc n x]
  | .picker a x y => by simp [encF, ltD, ltDs, lt_enc n x, lt_enc n y]
  | .round => by simp [encF, ltD, ltDs]
theorem lt_encFs (n : Nat) : ∀ fs : List Fr, ltDs n (encFs fs) = true
  | [] => by simp [encFs, ltDs]
  | f :: fs => by simp [encFs, ltDs, lt_encF n f, lt_encFs n fs]
end
def RP.isVal : RP → Bool
  | .num _ => true | .shut _ _ _ => true | .kept _ _ => true
  | _ => false
/-- how deep, but for what stands within values -/
def RP.dp : RP → Nat
  | .fun_ _ _ b => b.dp + 1
  | .call _ f x => max f.dp x.dp + 1
  | .plus _ f x => max f.dp x.dp + 1
  | .pick _ c x y => max c.dp (max x.dp y.dp) + 1
  | .round b => b.dp + 1
  | .take _ _ b => b.dp + 1
  | _ => 0
/-- v put in for x -/
def RP.put (x : Str) (v : RP) : RP → RP
  | .name y => if y == x then v else .name y
  | .fun_ a y b => if y == x then .fun_ a y b else .fun_ a y (RP.put x v b)
  | .call a f c => .call a (RP.put x v f) (RP.put x v c)
  | .plus a f c => .plus a (RP.put x v f) (RP.put x v c)
  | .pick a c f g => .pick a (RP.put x v c) (RP.put x v f) (RP.put x v g)
  | .round b => .round (RP.put x v b)
  | .take a y b => if y == x then .take a y b else .take a y (RP.put x v b)
  | p => p
/-- the texts that stand in it are texts -/
def RP.sok : RP → Bool
  | .name x => PyData.strOk x
  | .fun_ _ x b => PyData.strOk x && b.sok
  | .call _ f x => f.sok && x.sok
  | .plus _ f x => f.sok && x.sok
  | .pick _ c x y => c.sok && x.sok && y.sok
  | .round b => b.sok
  | .take _ x b => PyData.strOk x && b.sok
  | _ => true
end Mi
namespace Mi
open PySem PySem.Spec PyProof.Rows L2

/-! ### a state that is written -/
theorem gc_set {m l : List SO} {s : Nat} {xs : List D} {d : D} (h : ltD m.length d = true) (hx : ltDs m.length xs = true) (hs : s < m.length) : gc m d (m.set s (.lst xs) ++ l) = (d, m.set s (.lst xs)) := by
  have hk : Kept m (m.set s (.lst xs) ++ l) := by
    refine ⟨by simp, fun i hi => ?_⟩
    rw [List.getElem?_append_left (by simpa using hi)]
    by_cases e : s = i
    · subst e
      right
      exact ⟨xs, by rw [List.getElem?_set_self hs], hx⟩
    · left
      rw [List.getElem?_set_ne e]
  unfold gc
  rw [if_pos hk, if_pos h, List.take_left']
  simp
theorem gc_set0 {m : List SO} {s : Nat} {xs : List D} {d : D} (h : ltD m.length d = true) (hx : ltDs m.length xs = true) (hs : s < m.length) : gc m d (m.set s (.lst xs)) = (d, m.set s (.lst xs)) := by
  have := gc_set (l := []) h hx hs
  rwa [List.append_nil] at this
section
variable (m l : List SO) (s : Nat) (o : SO)
@[simp] theorem sset_app0 (o' : SO) : (m.set s o ++ l).set m.length o' = m.set s o ++ l.set 0 o' := by
  have := set_app0 (m.set s o) l o'
  rwa [List.length_set] at this
@[simp] theorem sset_appn (j : Nat) (o' : SO) : (m.set s o ++ l).set (m.length + j) o' = m.set s o ++ l.set j o' := by
  have := set_appn (m.set s o) l j o'
  rwa [List.length_set] at this
@[simp] theorem sgetL_app0 (xs : List D) : getL (m.set s o ++ .lst xs :: l) m.length = some xs := by
  have := getL_app0 (m.set s o) xs l
  rwa [List.length_set] at this
@[simp] theorem sgetL_appn (j : Nat) : getL (m.set s o ++ l) (m.length + j) = getL l j := by
  have := getL_appn (m.set s o) l j
  rwa [List.length_set] at this
@[simp] theorem sget_app0 : (m.set s o ++ l)[m.length]? = l[0]? := by
  have := get_app0 (m.set s o) l
  rwa [List.length_set] at this
@[simp] theorem sget_appn (j : Nat) : (m.set s o ++ l)[m.length + j]? = l[j]? := by
  have := get_appn (m.set s o) l j
  rwa [List.length_set] at this
end
theorem getL_lt {m : List SO} {s : Nat} {xs : List D} (h : getL m s = some xs) : s < m.length := by
  unfold getL at h
  rcases Nat.lt_or_ge s m.length with h1 | h1
  · exact h1
  · rw [List.getElem?_eq_none h1] at h; cases h
theorem getL_set_same {m : List SO} {s : Nat} (h : s < m.length) (xs : List D) : getL (m.set s (.lst xs)) s = some xs := by
  unfold getL; rw [List.getElem?_set_self h]
theorem getL_set_ne {m : List SO} {s c : Nat} (h : s ≠ c) (o : SO) : getL (m.set s o) c = getL m c := by
  unfold getL; rw [List.getElem?_set_ne h]
theorem set_in {m l : List SO} {s : Nat} (h : s < m.length) (o : SO) : (m ++ l).set s o = m.set s o ++ l := List.set_append_left _ _ h
theorem set_in2 {m l : List SO} {s : Nat} (h : s < m.length) (o o' : SO) : (m.set s o ++ l).set s o' = m.set s o' ++ l := by
  rw [List.set_append_left _ _ (by simpa using h), List.set_set]
end Mi
namespace Mi
open PySem PySem.Spec PyProof.Rows L2

/-! ### names -/
def Low (x : Str) : Prop := ∀ c ∈ x.cps.toList, 97 ≤ c ∧ c ≤ 122
def Nm (x : Str) : Prop := Low x ∧ 0 < x.length ∧ x.length ≤ 8
theorem Low.sok {x : Str} (h : Low x) : PyData.strOk x = true := by
  unfold PyData.strOk
  rw [← Array.all_toList, List.all_eq_true]
  intro c hc
  have := h c hc
  simp only [decide_eq_true_eq]
  omega
theorem Nm.sok {x : Str} (h : Nm x) : PyData.strOk x = true := h.1.sok
theorem app_cps (a b : Str) : (a ++ b).cps.toList = a.cps.toList ++ b.cps.toList := by
  show (a.cps ++ b.cps).toList = _
  simp
theorem len_cps (a : Str) : a.length = a.cps.toList.length := by
  show a.cps.size = _
  simp
theorem Low.app {a b : Str} (ha : Low a) (hb : Low b) : Low (a ++ b) := by
  intro c hc
  rw [app_cps, List.mem_append] at hc
  rcases hc with h | h
  · exact ha c h
  · exact hb c h
theorem Low.cut {a : Str} (ha : Low a) (lo hi : Option Int) : Low (cutS a lo hi) := by
  intro c hc
  unfold cutS at hc
  exact ha c (List.mem_of_mem_drop (List.mem_of_mem_take hc))
@[simp] theorem len_app (a b : Str) : (a ++ b).length = a.length + b.length := by
  rw [len_cps, len_cps, len_cps, app_cps, List.length_append]
def sg (c : Nat) : Str := ⟨#[c]⟩
@[simp] theorem len_sg (c : Nat) : (sg c).length = 1 := rfl
theorem Low.one {c : Nat} (h : 97 ≤ c ∧ c ≤ 122) : Low (sg c) := by
  intro d hd
  have : d = c := by simpa [sg] using hd
  rw [this]; exact h
theorem len_cutTo {a : Str} {i : Int} (h0 : 0 ≤ i) (h : i ≤ a.length) : (cutS a none (some i)).length = i.toNat := by
  obtain ⟨n, rfl⟩ : ∃ n : Nat, i = n := ⟨i.toNat, by omega⟩
  have hl := len_cps a
  have hs : a.cps.size = a.length := rfl
  rw [len_cps]
  unfold cutS
  rw [HT.sIx_none, HT.sIx_nat]
  simp
  omega
theorem len_cutFrom {a : Str} {i : Int} (h0 : 0 ≤ i) (h : i ≤ a.length) : (cutS a (some i) none).length = a.length - i.toNat := by
  obtain ⟨n, rfl⟩ : ∃ n : Nat, i = n := ⟨i.toNat, by omega⟩
  have hl := len_cps a
  have hs : a.cps.size = a.length := rfl
  rw [len_cps]
  unfold cutS
  rw [HT.sIx_none, HT.sIx_nat]
  simp
  omega
theorem len_cutLast {a : Str} : (cutS a none (some (-1))).length = a.length - 1 := by
  have hl := len_cps a
  have hs : a.cps.size = a.length := rfl
  have e : HT.sIx a.length a.length (some (-1)) = a.length - 1 := by
    unfold HT.sIx
    simp only
    rw [if_pos (by decide)]
    omega
  rw [len_cps]
  unfold cutS
  rw [HT.sIx_none, e]
  simp
  omega
def alpha : Str := Str.ofString "abcdefghijklmnopqrstuvwxyz"
theorem alpha_list : alpha.cps.toList = (List.range 26).map (· + 97) := by decide +kernel
theorem alpha_len : alpha.length = 26 := by decide +kernel
theorem at_alpha {i : Int} (h0 : 0 ≤ i) (h : i < 26) : atI alpha.cps.toList i = some (97 + i.toNat) := by
  obtain ⟨n, rfl⟩ : ∃ n : Nat, i = n := ⟨i.toNat, by omega⟩
  rw [alpha_list]
  unfold atI ixN
  have hn : n < 26 := by omega
  simp [hn, show ((n : Int) < 26) from by omega]
  omega
theorem idx_alpha {i : Int} (h0 : 0 ≤ i) (h : i < 26) (m : List SO) : idxD (.str (Str.ofString "abcdefghijklmnopqrstuvwxyz")) (.int i) m = some (D.str (sg (97 + i.toNat)), m) := by
  show (if alpha.length ≤ sizeLine then (match atI alpha.cps.toList i with
      | some c => some (D.str ⟨#[c]⟩, m)
      | none => none) else none) = _
  rw [at_alpha h0 h, alpha_len, if_pos (by decide)]
  rfl
theorem join_low : ∀ l : List Str, (∀ a ∈ l, Low a) → Low (Str.join (Str.ofString "") l)
  | [], _ => by intro c hc; simp [Str.join, Str.empty] at hc
  | [a], h => h a (by simp)
  | a :: b :: l, h => by
    show Low ((a ++ Str.ofString "") ++ Str.join (Str.ofString "") (b :: l))
    refine Low.app (Low.app (h a (by simp)) ?_) (join_low (b :: l) fun x hx => h x (by simp [hx]))
    intro c hc
    have e : (Str.ofString "").cps.toList = [] := by decide +kernel
    rw [e] at hc; cases hc
theorem join_low' {l : List Str} (h : ∀ a ∈ l, Low a) : Low (Txt.join (Str.ofString "") l) := by
  have e : Txt.join (Str.ofString "") l = Str.join (Str.ofString "") l := StrLaws.glued_eq_join _ l
  rw [e]; exact join_low l h
theorem join_len {l : List Str} (h : ∀ a ∈ l, a.length = 1) : (Txt.join (Str.ofString "") l).length = l.length := by
  show (Builtin.Str.glued (Str.ofString "") l).length = _
  rw [StrLaws.glued_eq_join]
  cases l with
  | nil => rfl
  | cons a r =>
    have z : (Str.ofString "").length = 0 := by decide
    rw [len_join_cons, sumLen_of_ones (a :: r) h, z]
    simp
theorem set_getL {m : List SO} {n : Nat} {xs : List D} (h : getL m n = some xs) : m.set n (.lst xs) = m := by
  have hn := getL_lt h
  apply List.ext_getElem? 
  intro i
  by_cases e : n = i
  · subst e
    rw [List.getElem?_set_self hn]
    unfold getL at h
    rw [List.getElem?_eq_getElem hn] at h ⊢
    cases hm : m[n] with
    | lst ys => rw [hm] at h; simp at h; rw [h]
  · rw [List.getElem?_set_ne e]
/-- a comprehension whose turns change nothing -/
theorem compL_pure {f : D → M (Option D)} {n : Nat} (g : D → D) : ∀ (xs : List D) {m : List SO} {acc : List D}, (∀ x ∈ xs, ∀ m, f x m = some (some (g x), m)) → getL m n = some acc → acc.length + xs.length ≤ sizeLine →
    compL f none n xs m = some ((), m.set n (.lst (acc ++ xs.map g)))
  | [], m, acc, _, hg, _ => by
    unfold compL
    rw [if_pos (by trivial)]
    simp [set_getL hg]
  | x :: xs, m, acc, hf, hg, hl => by
    unfold compL
    have hn := getL_lt hg
    rw [if_pos (by trivial), hf x (by simp) m]
    simp only [hg]
    have hl' : acc.length + (xs.length + 1) ≤ sizeLine := by simpa using hl
    rw [if_pos (by omega), compL_pure g xs (fun y hy => hf y (by simp [hy])) (getL_set_same hn _) (by simp; omega)]
    simp
theorem strsOf_map (l : List Str) : strsOf (l.map D.str) = some l := by
  induction l with
  | nil => rfl
  | cons a l ih => simp [strsOf, ih]

/-! ### alike -/
theorem eqD_refl {k : Nat} {m : List SO} {d : D} {a : PyData} (h : pd m d = some a) (hl : a.canLay0 = true) (hd : a.depth ≤ 16 * k + 200) : eqD k m d d = some true := by
  unfold eqD
  rw [h]
  simp only
  rw [if_pos ⟨hl, hl, by simpa using hd⟩, SeqAt.eqv_refl a hl]
theorem pds_strs {l : List Str} : pds0 (l.map D.str) = some (l.map PyData.str) := by
  induction l with
  | nil => rfl
  | cons a l ih => simp [pds0, pd0, ih]
theorem lay_strs {l : List Str} (h : ∀ x ∈ l, PyData.strOk x = true) : PyData.canLayAll0 (l.map PyData.str) = true := by
  induction l with
  | nil => rfl
  | cons a l ih =>
    have h1 := ih fun x hx => h x (by simp [hx])
    simp [PyData.canLayAll0, PyData.canLay0, h a (by simp), h1]
theorem eqD_strs {k : Nat} {m : List SO} {c j : Nat} {l : List Str} (h : ∀ x ∈ l, PyData.strOk x = true) (hc : getL m c = some (l.map .str)) (hj : getL m j = some []) : eqD k m (.loc c) (.loc j) = some l.isEmpty := by
  have p1 : pd m (.loc c) = some (.list (l.map PyData.str)) := by
    unfold getL at hc
    unfold pd
    revert hc
    cases hm : m[c]? with
    | none => intro h; cases h
    | some o =>
      cases o with
      | lst xs =>
        intro e
        have e : xs = l.map .str := by simpa using e
        subst e
        simp [hm, pds_strs]
  have p2 : pd m (.loc j) = some (.list []) := by
    unfold getL at hj
    unfold pd
    revert hj
    cases hm : m[j]? with
    | none => intro h; cases h
    | some o =>
      cases o with
      | lst xs =>
        intro e
        have e : xs = [] := by simpa using e
        subst e
        simp [hm, pds0]
  unfold eqD
  rw [p1, p2]
  simp only
  rw [if_pos ⟨by simpa [PyData.canLay0] using lay_strs h, by simp [PyData.canLay0, PyData.canLayAll0], by
    have : (PyData.list []).depth = 1 := by simp [PyData.depth, PyData.depthAll]
    omega⟩]
  cases l <;> simp [PyData.eqv, PyData.eqvAll]
mutual
/-- all texts are texts -/
def RP.all : RP → Bool
  | .num _ => true
  | .name x => PyData.strOk x
  | .fun_ _ x b => PyData.strOk x && b.all
  | .call _ f x => f.all && x.all
  | .plus _ f x => f.all && x.all
  | .pick _ c x y => c.all && x.all && y.all
  | .round b => b.all
  | .take _ x b => PyData.strOk x && b.all
  | .shut _ x b => PyData.strOk x && b.all
  | .kept _ fs => RP.allFs fs
def RP.allF : Fr → Bool
  | .caller _ x => x.all
  | .given _ x => x.all
  | .adder _ x => x.all
  | .added _ x => x.all
  | .picker _ x y => x.all && y.all
  | .round => true
def RP.allFs : List Fr → Bool
  | [] => true
  | f :: fs => RP.allF f && RP.allFs fs
end
mutual
def RP.dep : RP → Nat
  | .num _ => 1
  | .name x => 1
  | .fun_ _ x b => b.dep + 1
  | .call _ f x => max f.dep x.dep + 1
  | .plus _ f x => max f.dep x.dep + 1
  | .pick _ c x y => max c.dep (max x.dep y.dep) + 1
  | .round b => b.dep + 1
  | .take _ x b => b.dep + 1
  | .shut _ x b => b.dep + 1
  | .kept _ fs => RP.depFs fs + 2
def RP.depF : Fr → Nat
  | .caller _ x => x.dep + 1
  | .given _ x => x.dep + 1
  | .adder _ x => x.dep + 1
  | .added _ x => x.dep + 1
  | .picker _ x y => max x.dep y.dep + 1
  | .round => 1
def RP.depFs : List Fr → Nat
  | [] => 0
  | f :: fs => max (RP.depF f) (RP.depFs fs)
end
mutual
theorem lay_enc : ∀ p : RP, p.all = true → ∃ a, pd0 (enc p) = some a ∧ a.canLay0 = true ∧ a.depth ≤ p.dep
  | .num i, _ => by simp [enc, pd0, pds0, PyData.canLay0, PyData.canLayAll0, PyData.depth, PyData.depthAll, RP.dep]
  | .name x, h => by
    have h : PyData.strOk x = true := by simpa [RP.all] using h
    simp [enc, pd0, pds0, PyData.canLay0, PyData.canLayAll0, PyData.depth, PyData.depthAll, RP.dep, h]
  | .fun_ a x b, h => by
    have h : PyData.strOk x = true ∧ b.all = true := by simpa [RP.all] using h
    obtain ⟨u, h1, h2, h3⟩ := lay_enc b h.2
    simp [enc, pd0, pds0, PyData.canLay0, PyData.canLayAll0, PyData.depth, PyData.depthAll, RP.dep, h, h1, h2]
    omega
  | .take a x b, h => by
    have h : PyData.strOk x = true ∧ b.all = true := by simpa [RP.all] using h
    obtain ⟨u, h1, h2, h3⟩ := lay_enc b h.2
    simp [enc, pd0, pds0, PyData.canLay0, PyData.canLayAll0, PyData.depth, PyData.depthAll, RP.dep, h, h1, h2]
    omega
  | .shut a x b, h => by
    have h : PyData.strOk x = true ∧ b.all = true := by simpa [RP.all] using h
    obtain ⟨u, h1, h2, h3⟩ := lay_enc b h.2
    simp [enc, pd0, pds0, PyData.canLay0, PyData.canLayAll0, PyData.depth, PyData.depthAll, RP.dep, h, h1, h2]
    omega
  | .round b, h => by
    have h : b.all = true := by simpa [RP.all] using h
    obtain ⟨u, h1, h2, h3⟩ := lay_enc b h
    simp [enc, pd0, pds0, PyData.canLay0, PyData.canLayAll0, PyData.depth, PyData.depthAll, RP.dep, h, h1, h2]
    omega
  | .call a f x, h => by
    have h : f.all = true ∧ x.all = true := by simpa [RP.all] using h
    obtain ⟨u, h1, h2, h3⟩ := lay_enc f h.1
    obtain ⟨v, i1, i2, i3⟩ := lay_enc x h.2
    simp [enc, pd0, pds0, PyData.canLay0, PyData.canLayAll0, PyData.depth, PyData.depthAll, RP.dep, h1, h2, i1, i2]
    omega
  | .plus a f x, h => by
    have h : f.all = true ∧ x.all = true := by simpa [RP.all] using h
    obtain ⟨u, h1, h2, h3⟩ := lay_enc f h.1
    obtain ⟨v, i1, i2, i3⟩ := lay_enc x h.2
    simp [enc, pd0, pds0, PyData.canLay0, PyData.canLayAll0, PyData.depth, PyData.depthAll, RP.dep, h1, h2, i1, i2]
    omega
  | .pick a c f x, h => by
    have h : (c.all = true ∧ f.all = true) ∧ x.all = true := by simpa [RP.all] using h
    obtain ⟨w, j1, j2, j3⟩ := lay_enc c h.1.1
    obtain ⟨u, h1, h2, h3⟩ := lay_enc f h.1.2
    obtain ⟨v, i1, i2, i3⟩ := lay_enc x h.2
    simp [enc, pd0, pds0, PyData.canLay0, PyData.canLayAll0, PyData.depth, PyData.depthAll, RP.dep, h1, h2, i1, i2, j1, j2]
    omega
  | .kept a fs, h => by
    obtain ⟨u, h1, h2, h3⟩ := lay_encFs fs (by simpa [RP.all] using h)
    simp [enc, pd0, pds0, PyData.canLay0, PyData.canLayAll0, PyData.depth, PyData.depthAll, RP.dep, h1, h2]
    omega
theorem lay_encF : ∀ p : Fr, RP.allF p = true → ∃ a, pd0 (encF p) = some a ∧ a.canLay0 = true ∧ a.depth ≤ RP.depF p
  | .round, _ => by simp [encF, pd0, pds0, PyData.canLay0, PyData.canLayAll0, PyData.depth, PyData.depthAll, RP.depF]
  | .caller a b, h => by
    have h : b.all = true := by simpa [RP.allF] using h
    obtain ⟨u, h1, h2, h3⟩ := lay_enc b h
    simp [encF, pd0, pds0, PyData.canLay0, PyData.canLayAll0, PyData.depth, PyData.depthAll, RP.depF, h, h1, h2]
    omega
  | .given a b, h => by
    have h : b.all = true := by simpa [RP.allF] using h
    obtain ⟨u, h1, h2, h3⟩ := lay_enc b h
    simp [encF, pd0, pds0, PyData.canLay0, PyData.canLayAll0, PyData.depth, PyData.depthAll, RP.depF, h, h1, h2]
    omega
  | .adder a b, h => by
    have h : b.all = true := by simpa [RP.allF] using h
    obtain ⟨u, h1, h2, h3⟩ := lay_enc b h
    simp [encF, pd0, pds0, PyData.canLay0, PyData.canLayAll0, PyData.depth, PyData.depthAll, RP.depF, h, h1, h2]
    omega
  | .added a b, h => by
    have h : b.all = true := by simpa [RP.allF] using h
    obtain ⟨u, h1, h2, h3⟩ := lay_enc b h
    simp [encF, pd0, pds0, PyData.canLay0, PyData.canLayAll0, PyData.depth, PyData.depthAll, RP.depF, h, h1, h2]
    omega
  | .picker a f x, h => by
    have h : f.all = true ∧ x.all = true := by simpa [RP.allF] using h
    obtain ⟨u, h1, h2, h3⟩ := lay_enc f h.1
    obtain ⟨v, i1, i2, i3⟩ := lay_enc x h.2
    simp [encF, pd0, pds0, PyData.canLay0, PyData.canLayAll0, PyData.depth, PyData.depthAll, RP.depF, h1, h2, i1, i2]
    omega
theorem lay_encFs : ∀ fs : List Fr, RP.allFs fs = true → ∃ as, pds0 (encFs fs) = some as ∧ PyData.canLayAll0 as = true ∧ PyData.depthAll as ≤ RP.depFs fs
  | [], _ => by simp [encFs, pds0, PyData.canLayAll0, PyData.depthAll, RP.depFs]
  | f :: fs, h => by
    have h : RP.allF f = true ∧ RP.allFs fs = true := by simpa [RP.allFs] using h
    obtain ⟨u, h1, h2, h3⟩ := lay_encF f h.1
    obtain ⟨v, i1, i2, i3⟩ := lay_encFs fs h.2
    simp [encFs, pds0, PyData.canLayAll0, PyData.depthAll, RP.depFs, h1, h2, i1, i2]
    omega
end
theorem pd_enc (m : List SO) (p : RP) : pd m (enc p) = pd0 (enc p) := by
  cases p <;> rfl
theorem eqD_enc {k : Nat} {m : List SO} {p : RP} (h : p.all = true) (hd : p.dep ≤ 16 * k + 200) : eqD k m (enc p) (enc p) = some true := by
  obtain ⟨a, h1, h2, h3⟩ := lay_enc p h
  exact eqD_refl (by rw [pd_enc]; exact h1) h2 (by omega)
theorem RP.all_put {x : Str} {v : RP} (hv : v.all = true) : ∀ p : RP, p.all = true → (RP.put x v p).all = true
  | .num i, h => h
  | .shut _ _ _, h => h
  | .kept _ _, h => h
  | .name y, h => by unfold RP.put; split <;> assumption
  | .fun_ a y b, h => by
    have h' : PyData.strOk y = true ∧ b.all = true := by simpa [RP.all] using h
    unfold RP.put; split
    · exact h
    · simp [RP.all, h'.1, RP.all_put hv b h'.2]
  | .take a y b, h => by
    have h' : PyData.strOk y = true ∧ b.all = true := by simpa [RP.all] using h
    unfold RP.put; split
    · exact h
    · simp [RP.all, h'.1, RP.all_put hv b h'.2]
  | .round b, h => by
    have h' : b.all = true := by simpa [RP.all] using h
    simp [RP.put, RP.all, RP.all_put hv b h']
  | .call a f g, h => by
    have h' : f.all = true ∧ g.all = true := by simpa [RP.all] using h
    simp [RP.put, RP.all, RP.all_put hv f h'.1, RP.all_put hv g h'.2]
  | .plus a f g, h => by
    have h' : f.all = true ∧ g.all = true := by simpa [RP.all] using h
    simp [RP.put, RP.all, RP.all_put hv f h'.1, RP.all_put hv g h'.2]
  | .pick a c f g, h => by
    have h' : (c.all = true ∧ f.all = true) ∧ g.all = true := by simpa [RP.all] using h
    simp [RP.put, RP.all, RP.all_put hv c h'.1.1, RP.all_put hv f h'.1.2, RP.all_put hv g h'.2]
theorem RP.dep_put {x : Str} {v : RP} : ∀ p : RP, (RP.put x v p).dep ≤ p.dep + v.dep
  | .num i => by simp [RP.put]
  | .shut _ _ _ => by simp [RP.put]
  | .kept _ _ => by simp [RP.put]
  | .name y => by unfold RP.put; split <;> simp
  | .fun_ a y b => by
    have := RP.dep_put (x := x) (v := v) b
    unfold RP.put; split <;> simp [RP.dep] <;> omega
  | .take a y b => by
    have := RP.dep_put (x := x) (v := v) b
    unfold RP.put; split <;> simp [RP.dep] <;> omega
  | .round b => by
    have := RP.dep_put (x := x) (v := v) b
    simp [RP.put, RP.dep]; omega
  | .call a f g => by
    have := RP.dep_put (x := x) (v := v) f
    have := RP.dep_put (x := x) (v := v) g
    simp [RP.put, RP.dep]; omega
  | .plus a f g => by
    have := RP.dep_put (x := x) (v := v) f
    have := RP.dep_put (x := x) (v := v) g
    simp [RP.put, RP.dep]; omega
  | .pick a c f g => by
    have := RP.dep_put (x := x) (v := v) c
    have := RP.dep_put (x := x) (v := v) f
    have := RP.dep_put (x := x) (v := v) g
    simp [RP.put, RP.dep]; omega
theorem RP.dp_put {x : Str} {v : RP} : ∀ p : RP, (RP.put x v p).dp ≤ p.dp + v.dp
  | .num i => by simp [RP.put]
  | .shut _ _ _ => by simp [RP.put]
  | .kept _ _ => by simp [RP.put]
  | .name y => by unfold RP.put; split <;> simp
  | .fun_ a y b => by
    have := RP.dp_put (x := x) (v := v) b
    unfold RP.put; split <;> simp [RP.dp] <;> omega
  | .take a y b => by
    have := RP.dp_put (x := x) (v := v) b
    unfold RP.put; split <;> simp [RP.dp] <;> omega
  | .round b => by
    have := RP.dp_put (x := x) (v := v) b
    simp [RP.put, RP.dp]; omega
  | .call a f g => by
    have := RP.dp_put (x := x) (v := v) f
    have := RP.dp_put (x := x) (v := v) g
    simp [RP.put, RP.dp]; omega
  | .plus a f g => by
    have := RP.dp_put (x := x) (v := v) f
    have := RP.dp_put (x := x) (v := v) g
    simp [RP.put, RP.dp]; omega
  | .pick a c f g => by
    have := RP.dp_put (x := x) (v := v) c
    have := RP.dp_put (x := x) (v := v) f
    have := RP.dp_put (x := x) (v := v) g
    simp [RP.put, RP.dp]; omega
theorem RP.all_sok : ∀ p : RP, p.all = true → p.sok = true
  | .num _, _ => rfl
  | .name _, h => h
  | .shut _ _ _, _ => rfl
  | .kept _ _, _ => rfl
  | .fun_ a y b, h => by
    have h' : PyData.strOk y = true ∧ b.all = true := by simpa [RP.all] using h
    simp [RP.sok, h'.1, RP.all_sok b h'.2]
  | .take a y b, h => by
    have h' : PyData.strOk y = true ∧ b.all = true := by simpa [RP.all] using h
    simp [RP.sok, h'.1, RP.all_sok b h'.2]
  | .round b, h => by
    have h' : b.all = true := by simpa [RP.all] using h
    simp [RP.sok, RP.all_sok b h']
  | .call a f g, h => by
    have h' : f.all = true ∧ g.all = true := by simpa [RP.all] using h
    simp [RP.sok, RP.all_sok f h'.1, RP.all_sok g h'.2]
  | .plus a f g, h => by
    have h' : f.all = true ∧ g.all = true := by simpa [RP.all] using h
    simp [RP.sok, RP.all_sok f h'.1, RP.all_sok g h'.2]
  | .pick a c f g, h => by
    have h' : (c.all = true ∧ f.all = true) ∧ g.all = true := by simpa [RP.all] using h
    simp [RP.sok, RP.all_sok c h'.1.1, RP.all_sok f h'.1.2, RP.all_sok g h'.2]
theorem RP.dep_dp : ∀ p : RP, p.dp ≤ p.dep
  | .num _ => by simp [RP.dp]
  | .name _ => by simp [RP.dp]
  | .shut _ _ _ => by simp [RP.dp]
  | .kept _ _ => by simp [RP.dp]
  | .fun_ a y b => by have := RP.dep_dp b; simp [RP.dp, RP.dep]; omega
  | .take a y b => by have := RP.dep_dp b; simp [RP.dp, RP.dep]; omega
  | .round b => by have := RP.dep_dp b; simp [RP.dp, RP.dep]; omega
  | .call a f g => by have := RP.dep_dp f; have := RP.dep_dp g; simp [RP.dp, RP.dep]; omega
  | .plus a f g => by have := RP.dep_dp f; have := RP.dep_dp g; simp [RP.dp, RP.dep]; omega
  | .pick a c f g => by have := RP.dep_dp c; have := RP.dep_dp f; have := RP.dep_dp g; simp [RP.dp, RP.dep]; omega
end Mi
namespace Mi
open PySem PySem.Spec PyProof.Rows L2

section
variable (i j : Int) (m : List SO)
@[simp] theorem bin_add : binD .add (.int i) (.int j) m = some (.int (i + j), m) := rfl
@[simp] theorem bin_sub : binD .sub (.int i) (.int j) m = some (.int (i - j), m) := rfl
theorem bin_mul {i j : Int} (h : (-(2 ^ 64) < i ∧ i < 2 ^ 64) ∨ (-(2 ^ 64) < j ∧ j < 2 ^ 64)) : binD .mul (.int i) (.int j) m = some (.int (i * j), m) := by
  show (match Mi.binI .mul i j with
    | some k => some (D.int k, m)
    | none => none) = _
  unfold Mi.binI
  simp only
  rw [if_pos h]
@[simp] theorem bin_mul_l {i j : Int} (h : -(2 ^ 64) < i ∧ i < 2 ^ 64) : binD .mul (.int i) (.int j) m = some (.int (i * j), m) := bin_mul m (.inl h)
@[simp] theorem bin_mul_r {i j : Int} (h : -(2 ^ 64) < j ∧ j < 2 ^ 64) : binD .mul (.int i) (.int j) m = some (.int (i * j), m) := bin_mul m (.inr h)
@[simp] theorem bin_fdiv {i j : Int} (h : 0 < j ∧ j < 1073741824) : binD .fdiv (.int i) (.int j) m = some (.int (i / j), m) := by
  show (match Mi.binI .fdiv i j with
    | some k => some (D.int k, m)
    | none => none) = _
  unfold Mi.binI
  simp only
  rw [if_pos h]
@[simp] theorem bin_mod {i j : Int} (h : 0 < j) : binD .mod (.int i) (.int j) m = some (.int (i % j), m) := by
  show (match Mi.binI .mod i j with
    | some k => some (D.int k, m)
    | none => none) = _
  unfold Mi.binI
  simp only
  rw [if_pos h]
@[simp] theorem bin_pow {i j : Int} (h : 0 ≤ j ∧ j ≤ 1000000 ∧ i.natAbs < 2 ^ 64) : binD .pow (.int i) (.int j) m = some (.int (i ^ j.toNat), m) := by
  show (match Mi.binI .pow i j with
    | some k => some (D.int k, m)
    | none => none) = _
  unfold Mi.binI
  simp only
  rw [if_pos h]
@[simp] theorem bin_strs {a b : Str} (h : a.length + b.length ≤ 16777216) : binD .add (.str a) (.str b) m = some (.str (a ++ b), m) := if_pos h
@[simp] theorem bin_tups {a b : List D} (h : a.length + b.length ≤ 16777216) : binD .add (.tup a) (.tup b) m = some (.tup (a ++ b), m) := if_pos h
theorem bin_locs {a b : Nat} {xs ys : List D} {m : List SO} (ha : getL m a = some xs) (hb : getL m b = some ys) (h : xs.length + ys.length ≤ sizeLine) : binD .add (.loc a) (.loc b) m = some (.loc m.length, m ++ [.lst (xs ++ ys)]) := by
  show (match getL m a, getL m b with
    | some xs, some ys => if xs.length + ys.length ≤ sizeLine then newL (xs ++ ys) m else none
    | _, _ => none) = _
  rw [ha, hb]
  simp only
  rw [if_pos h]
  unfold newL
  rw [if_pos (by simpa using h)]
theorem compL_nil {f : D → M (Option D)} {n : Nat} : compL f none n [] m = some ((), m) := by
  unfold compL
  rw [if_pos (by trivial)]
theorem compL_cons {f : D → M (Option D)} {n : Nat} {x : D} {xs : List D} : compL f none n (x :: xs) m = match f x m with
    | some (none, m') => compL f none n xs m'
    | some (some d, m') => match getL m' n with
      | some acc => if acc.length < sizeLine then compL f none n xs (m'.set n (.lst (acc ++ [d]))) else none
      | none => none
    | none => none := by
  rw [compL]
  exact if_pos (by trivial)
theorem itemsR {j : Int} {m : List SO} (h : -(2 ^ 62) ≤ j ∧ j < 2 ^ 62) : itemsD .rng1 [.int j] m = some (((List.range j.toNat).map fun (i : Nat) => D.int i, none), m) := if_pos h
theorem meth_join {m : List SO} {n : Nat} {zs : List Str} {a : Str} (h : getL m n = some (zs.map .str)) (hb : (zs.map (·.length)).sum + zs.length * a.length ≤ 16777216) : methD .join (.str a) [.loc n] m = some (.str (Txt.join a zs), m) := by
  unfold methD
  have e : seqOf m (.loc n) = some (zs.map .str) := h
  simp only
  rw [e]
  simp only
  rw [strsOf_map]
  simp only
  rw [if_pos hb]
theorem slc_str {z : Str} {lo hi : Option Int} (m : List SO) (h : z.length ≤ 16777216) : slcD lo hi (.str z) m = some (.str (cutS z lo hi), m) := if_pos h
end
end Mi
namespace K2
open PySem PySem.Spec PyProof.Rows L2 Mi
def gd_FORMS : List (Str × D) := [("num", (.tup [(.str "number")])), ("name", (.tup [(.str "name")])), ("fun", (.tup [(.str "mark"), (.str "name"), (.str "piece")])), ("call", (.tup [(.str "mark"), (.str "piece"), (.str "piece")])), ("plus", (.tup [(.str "mark"), (.str "piece"), (.str "piece")])), ("pick", (.tup [(.str "mark"), (.str "piece"), (.str "piece"), (.str "piece")])), ("round", (.tup [(.str "piece")])), ("take", (.tup [(.str "mark"), (.str "name"), (.str "piece")]))]
def fn_put_in : Fn where
  ps := ["piece", "name", "value"]
  N := ["piece", "name", "value", "word", "parts", "part", "kind"]
  body := (.seq (.set 3 (.idx (.var 0) (.cst (.int (0)))))
  (.seq (.ifs (.cmp .eq (.var 3) (.cst (.str "name"))) (.ret (.ifx (.cmp .eq (.idx (.var 0) (.cst (.int (1)))) (.var 1)) (.var 2) (.var 0))) .pass)
  (.seq (.ifs (.or (.cmp .in_ (.var 3) (.glb "VALUES" (.tup [(.str "num"), (.str "shut"), (.str "kept")]))) (.and (.cmp .in_ (.var 3) (.glb "BINDERS" (.tup [(.str "fun"), (.str "take")]))) (.cmp .eq (.idx (.var 0) (.cst (.int (2)))) (.var 1)))) (.ret (.var 0)) .pass)
  (.seq (.set 4 (.lst (.cons (.var 3) .nil)))
  (.seq (.for_ (.tp [5, 6]) .zip (.cons (.slc (.var 0) (.cons (.cst (.int (1))) .nil) .nil) (.cons (.gget "FORMS" gd_FORMS (.var 3)) .nil)) (.expr (.meth .append (.var 4) (.cons (.ifx (.cmp .eq (.var 6) (.cst (.str "piece"))) (.call "put_in" (.cons (.var 5) (.cons (.var 1) (.cons (.var 2) .nil)))) (.var 5)) .nil))))
  (.ret (.blt .tuple (.cons (.var 4) .nil))))))))
def fn__law_cell_at : Fn where
  ps := ["_law_script", "_law_k"]
  N := ["_law_script", "_law_k"]
  body := (.seq (.ifs (.cmp .lt (.var 1) (.blt .len (.cons (.var 0) .nil))) (.ret (.idx (.var 0) (.var 1))) .pass)
  (.ret (.cst (.int (0)))))
def fn__law_mixed : Fn where
  ps := ["_law_number"]
  N := ["_law_number", "_law_first"]
  body := (.seq (.set 1 (.bin .mod (.bin .add (.bin .mul (.var 0) (.cst (.int (48271)))) (.cst (.int (7919)))) (.cst (.int (2147483647)))))
  (.ret (.bin .mod (.bin .add (.bin .mul (.var 1) (.var 1)) (.bin .fdiv (.var 1) (.cst (.int (7))))) (.cst (.int (2147483647))))))
def fn__law_name_by : Fn where
  ps := ["_law_mix"]
  N := ["_law_mix", "_law_some", "_law_size", "_law_row", "_law_at", "_law_k"]
  body := (.seq (.set 1 (.cst (.str "abcdefghijklmnopqrstuvwxyz")))
  (.seq (.ifs (.cmp .eq (.bin .mod (.var 0) (.cst (.int (3)))) (.cst (.int (0)))) (.ret (.idx (.var 1) (.bin .mod (.bin .fdiv (.var 0) (.cst (.int (3)))) (.cst (.int (4)))))) .pass)
  (.seq (.set 2 (.bin .add (.cst (.int (1))) (.bin .mod (.bin .fdiv (.var 0) (.cst (.int (3)))) (.cst (.int (8))))))
  (.seq (.set 3 (.meth .join (.cst (.str "")) (.cons (.comp [("_law_k", 5)] (.nm 5) .rng1 (.cons (.var 2) .nil) .nil (.idx (.var 1) (.bin .mod (.bin .add (.bin .fdiv (.var 0) (.cst (.int (24)))) (.bin .mul (.cst (.int (5))) (.var 5))) (.cst (.int (26)))))) .nil)))
  (.seq (.set 4 (.bin .mod (.bin .fdiv (.var 0) (.cst (.int (624)))) (.var 2)))
  (.ret (.bin .add (.bin .add (.slc (.var 3) .nil (.cons (.var 4) .nil)) (.idx (.var 1) (.bin .mod (.bin .fdiv (.var 0) (.cst (.int (5)))) (.cst (.int (26)))))) (.slc (.var 3) (.cons (.bin .add (.var 4) (.cst (.int (1)))) .nil) .nil))))))))
def fn__law_mark_by : Fn where
  ps := ["_law_mix"]
  N := ["_law_mix"]
  body := (.seq (.ifs (.cmp .eq (.bin .mod (.var 0) (.cst (.int (2)))) (.cst (.int (0)))) (.ret (.bin .mod (.bin .fdiv (.var 0) (.cst (.int (2)))) (.cst (.int (10000))))) .pass)
  (.ret (.bin .mod (.bin .fdiv (.var 0) (.cst (.int (2)))) (.cst (.int (6))))))
def fn__law_leaf : Fn where
  ps := ["_law_mix", "_law_scope"]
  N := ["_law_mix", "_law_scope"]
  body := (.seq (.ifs (.and (.cmp .ne (.var 1) (.lst .nil)) (.cmp .gt (.bin .mod (.var 0) (.cst (.int (3)))) (.cst (.int (0))))) (.ret (.tup (.cons (.cst (.str "name")) (.cons (.idx (.var 1) (.bin .mod (.bin .fdiv (.var 0) (.cst (.int (3)))) (.blt .len (.cons (.var 1) .nil)))) .nil)))) .pass)
  (.seq (.ifs (.cmp .eq (.bin .mod (.var 0) (.cst (.int (11)))) (.cst (.int (0)))) (.ret (.tup (.cons (.cst (.str "num")) (.cons (.bin .add (.bin .sub (.bin .mod (.bin .mul (.var 0) (.cst (.int (65537)))) (.bin .sub (.bin .mul (.cst (.int (2))) (.bin .pow (.cst (.int (10))) (.cst (.int (12))))) (.cst (.int (1))))) (.bin .pow (.cst (.int (10))) (.cst (.int (12))))) (.cst (.int (1)))) .nil)))) .pass)
  (.ret (.tup (.cons (.cst (.str "num")) (.cons (.bin .sub (.bin .mod (.bin .fdiv (.var 0) (.cst (.int (3)))) (.cst (.int (7)))) (.cst (.int (2)))) .nil))))))
def fn__law_gone_on : Fn where
  ps := ["_law_script", "_law_state", "_law_deep", "_law_scope"]
  N := ["_law_script", "_law_state", "_law_deep", "_law_scope", "_law_mix", "_law_inner", "_law_other"]
  body := (.seq (.set 4 (.call "_law_mixed" (.cons (.bin .add (.call "_law_cell_at" (.cons (.var 0) (.cons (.bin .mod (.idx (.var 1) (.cst (.int (0)))) (.cst (.int (60)))) .nil))) (.cst (.int (104729)))) .nil)))
  (.seq (.set 5 (.call "_law_made" (.cons (.var 0) (.cons (.var 1) (.cons (.bin .sub (.var 2) (.bin .mul (.cst (.int (2))) (.blt .int (.cons (.and (.cmp .gt (.bin .mod (.var 4) (.cst (.int (4)))) (.cst (.int (0)))) (.cmp .gt (.var 2) (.cst (.int (2))))) .nil)))) (.cons (.var 3) .nil))))))
  (.seq (.ifs (.or (.cmp .eq (.bin .mod (.var 4) (.cst (.int (4)))) (.cst (.int (0)))) (.cmp .lt (.var 2) (.cst (.int (3))))) (.ret (.var 5)) .pass)
  (.seq (.set 5 (.tup (.cons (.cst (.str "call")) (.cons (.bin .mod (.bin .fdiv (.var 4) (.cst (.int (4)))) (.cst (.int (10000)))) (.cons (.tup (.cons (.cst (.str "name")) (.cons (.idx (.var 3) (.cst (.int (0)))) .nil))) (.cons (.var 5) .nil))))))
  (.seq (.ifs (.cmp .eq (.bin .mod (.var 4) (.cst (.int (4)))) (.cst (.int (1)))) (.ret (.tup (.cons (.cst (.str "call")) (.cons (.bin .mod (.bin .fdiv (.var 4) (.cst (.int (8)))) (.cst (.int (10000)))) (.cons (.tup (.cons (.cst (.str "name")) (.cons (.idx (.var 3) (.cst (.int (0)))) .nil))) (.cons (.var 5) .nil)))))) .pass)
  (.seq (.ifs (.cmp .eq (.bin .mod (.var 4) (.cst (.int (4)))) (.cst (.int (2)))) (.seq (.set 6 (.tup (.cons (.cst (.str "call")) (.cons (.bin .mod (.bin .fdiv (.var 4) (.cst (.int (9)))) (.cst (.int (10000)))) (.cons (.tup (.cons (.cst (.str "name")) (.cons (.idx (.var 3) (.cst (.int (0)))) .nil))) (.cons (.tup (.cons (.cst (.str "num")) (.cons (.bin .mod (.bin .fdiv (.var 4) (.cst (.int (5)))) (.cst (.int (7)))) .nil))) .nil))))))
  (.ret (.idx (.lst (.cons (.tup (.cons (.cst (.str "plus")) (.cons (.bin .mod (.bin .fdiv (.var 4) (.cst (.int (7)))) (.cst (.int (10000)))) (.cons (.var 5) (.cons (.var 6) .nil))))) (.cons (.tup (.cons (.cst (.str "plus")) (.cons (.bin .mod (.bin .fdiv (.var 4) (.cst (.int (7)))) (.cst (.int (10000)))) (.cons (.var 6) (.cons (.var 5) .nil))))) .nil))) (.bin .mod (.bin .fdiv (.var 4) (.cst (.int (4)))) (.cst (.int (2))))))) .pass)
  (.ret (.var 5))))))))
def fn__law_made : Fn where
  ps := ["_law_script", "_law_state", "_law_deep", "_law_scope"]
  N := ["_law_script", "_law_state", "_law_deep", "_law_scope", "_law_mix", "_law_way", "_law_mark", "_law_name", "_law_body", "_law_first", "_law_parts", "_law_k"]
  body := (.seq (.set 4 (.call "_law_mixed" (.cons (.bin .add (.call "_law_cell_at" (.cons (.var 0) (.cons (.bin .mod (.idx (.var 1) (.cst (.int (0)))) (.cst (.int (60)))) .nil))) (.bin .mul (.cst (.int (7919))) (.idx (.var 1) (.cst (.int (0)))))) .nil)))
  (.seq (.setIx (.var 1) (.cst (.int (0))) (.bin .add (.idx (.var 1) (.cst (.int (0)))) (.cst (.int (1)))))
  (.seq (.set 5 (.bin .mod (.var 4) (.cst (.int (14)))))
  (.seq (.set 6 (.call "_law_mark_by" (.cons (.bin .fdiv (.var 4) (.cst (.int (14)))) .nil)))
  (.seq (.set 7 (.call "_law_name_by" (.cons (.bin .fdiv (.var 4) (.cst (.int (28)))) .nil)))
  (.seq (.ifs (.and (.cmp .ne (.var 3) (.lst .nil)) (.cmp .eq (.bin .mod (.bin .fdiv (.var 4) (.cst (.int (14)))) (.cst (.int (4)))) (.cst (.int (1))))) (.set 7 (.idx (.var 3) (.bin .mod (.bin .fdiv (.var 4) (.cst (.int (56)))) (.blt .len (.cons (.var 3) .nil))))) .pass)
  (.seq (.ifs (.or (.cmp .eq (.var 2) (.cst (.int (0)))) (.or (.cmp .eq (.var 5) (.cst (.int (0)))) (.cmp .gt (.idx (.var 1) (.cst (.int (0)))) (.cst (.int (22)))))) (.ret (.call "_law_leaf" (.cons (.bin .fdiv (.var 4) (.cst (.int (14)))) (.cons (.var 3) .nil)))) .pass)
  (.seq (.ifs (.cmp .eq (.var 5) (.cst (.int (1)))) (.ret (.tup (.cons (.cst (.str "fun")) (.cons (.var 6) (.cons (.var 7) (.cons (.call "_law_made" (.cons (.var 0) (.cons (.var 1) (.cons (.bin .sub (.var 2) (.cst (.int (1)))) (.cons (.bin .add (.lst (.cons (.var 7) .nil)) (.var 3)) .nil))))) .nil)))))) .pass)
  (.seq (.ifs (.cmp .lt (.var 5) (.cst (.int (5)))) (.seq (.set 8 (.call "_law_made" (.cons (.var 0) (.cons (.var 1) (.cons (.bin .add (.bin .sub (.var 2) (.cst (.int (2)))) (.blt .int (.cons (.cmp .eq (.var 2) (.cst (.int (1)))) .nil))) (.cons (.bin .add (.lst (.cons (.var 7) .nil)) (.var 3)) .nil))))))
  (.ret (.tup (.cons (.cst (.str "call")) (.cons (.var 6) (.cons (.tup (.cons (.cst (.str "fun")) (.cons (.call "_law_mark_by" (.cons (.bin .fdiv (.var 4) (.cst (.int (41)))) .nil)) (.cons (.var 7) (.cons (.var 8) .nil))))) (.cons (.call "_law_made" (.cons (.var 0) (.cons (.var 1) (.cons (.bin .sub (.var 2) (.cst (.int (1)))) (.cons (.var 3) .nil))))) .nil))))))) .pass)
  (.seq (.ifs (.and (.cmp .lt (.var 5) (.cst (.int (7)))) (.cmp .ne (.var 3) (.lst .nil))) (.seq (.set 9 (.tup (.cons (.cst (.str "name")) (.cons (.idx (.var 3) (.bin .mod (.bin .fdiv (.var 4) (.cst (.int (14)))) (.blt .min (.cons (.cst (.int (2))) (.cons (.blt .len (.cons (.var 3) .nil)) .nil))))) .nil))))
  (.ret (.tup (.cons (.cst (.str "call")) (.cons (.var 6) (.cons (.var 9) (.cons (.call "_law_made" (.cons (.var 0) (.cons (.var 1) (.cons (.bin .sub (.var 2) (.cst (.int (1)))) (.cons (.var 3) .nil))))) .nil))))))) .pass)
  (.seq (.ifs (.cmp .eq (.var 5) (.cst (.int (7)))) (.seq (.set 10 (.comp [("_law_k", 11)] (.nm 11) .rng1 (.cons (.cst (.int (3))) .nil) .nil (.call "_law_made" (.cons (.var 0) (.cons (.var 1) (.cons (.bin .sub (.var 2) (.cst (.int (1)))) (.cons (.var 3) .nil)))))))
  (.seq (.ifs (.cmp .eq (.bin .mod (.bin .fdiv (.var 4) (.cst (.int (14)))) (.cst (.int (2)))) (.cst (.int (1)))) (.setIx (.var 10) (.cst (.int (0))) (.tup (.cons (.cst (.str "num")) (.cons (.bin .sub (.bin .mod (.bin .fdiv (.var 4) (.cst (.int (28)))) (.cst (.int (5)))) (.cst (.int (2)))) .nil)))) .pass)
  (.ret (.tup (.cons (.cst (.str "pick")) (.cons (.var 6) (.cons (.idx (.var 10) (.cst (.int (0)))) (.cons (.idx (.var 10) (.cst (.int (1)))) (.cons (.idx (.var 10) (.cst (.int (2)))) .nil))))))))) .pass)
  (.seq (.ifs (.cmp .lt (.var 5) (.cst (.int (10)))) (.ret (.tup (.cons (.cst (.str "round")) (.cons (.call "_law_made" (.cons (.var 0) (.cons (.var 1) (.cons (.bin .sub (.var 2) (.cst (.int (1)))) (.cons (.var 3) .nil))))) .nil)))) .pass)
  (.seq (.ifs (.cmp .lt (.var 5) (.cst (.int (12)))) (.ret (.tup (.cons (.cst (.str "take")) (.cons (.var 6) (.cons (.var 7) (.cons (.call "_law_gone_on" (.cons (.var 0) (.cons (.var 1) (.cons (.bin .sub (.var 2) (.cst (.int (1)))) (.cons (.bin .add (.lst (.cons (.var 7) .nil)) (.var 3)) .nil))))) .nil)))))) .pass)
  (.seq (.ifs (.cmp .eq (.bin .mod (.bin .fdiv (.var 4) (.cst (.int (14)))) (.cst (.int (7)))) (.cst (.int (1)))) (.ret (.tup (.cons (.cst (.str "call")) (.cons (.var 6) (.cons (.call "_law_made" (.cons (.var 0) (.cons (.var 1) (.cons (.bin .sub (.var 2) (.cst (.int (1)))) (.cons (.var 3) .nil))))) (.cons (.call "_law_made" (.cons (.var 0) (.cons (.var 1) (.cons (.bin .sub (.var 2) (.cst (.int (1)))) (.cons (.var 3) .nil))))) .nil)))))) .pass)
  (.ret (.tup (.cons (.cst (.str "plus")) (.cons (.var 6) (.cons (.call "_law_made" (.cons (.var 0) (.cons (.var 1) (.cons (.bin .sub (.var 2) (.cst (.int (1)))) (.cons (.var 3) .nil))))) (.cons (.call "_law_made" (.cons (.var 0) (.cons (.var 1) (.cons (.bin .sub (.var 2) (.cst (.int (1)))) (.cons (.var 3) .nil))))) .nil))))))))))))))))))))
def fn__law_piece : Fn where
  ps := ["_law_script", "_law_first", "_law_cell"]
  N := ["_law_script", "_law_first", "_law_cell", "_law_piece_here", "_law_k"]
  body := (.seq (.set 3 (.call "_law_made" (.cons (.var 0) (.cons (.lst (.cons (.var 1) .nil)) (.cons (.bin .add (.cst (.int (1))) (.bin .mod (.var 2) (.cst (.int (7))))) (.cons (.lst .nil) .nil))))))
  (.seq (.ifs (.cmp .gt (.bin .mod (.bin .fdiv (.var 2) (.cst (.int (7)))) (.cst (.int (4)))) (.cst (.int (0)))) (.set 3 (.tup (.cons (.cst (.str "round")) (.cons (.var 3) .nil)))) .pass)
  (.seq (.for_ (.nm 4) .rng1 (.cons (.idx (.lst (.cons (.cst (.int (0))) (.cons (.cst (.int (0))) (.cons (.cst (.int (1))) (.cons (.cst (.int (18))) .nil))))) (.bin .mod (.bin .fdiv (.var 2) (.cst (.int (28)))) (.cst (.int (4))))) .nil) (.set 3 (.tup (.cons (.cst (.str "plus")) (.cons (.call "_law_mark_by" (.cons (.bin .add (.var 2) (.var 4)) .nil)) (.cons (.tup (.cons (.cst (.str "num")) (.cons (.var 4) .nil))) (.cons (.var 3) .nil)))))))
  (.ret (.var 3)))))
def fn__law_value : Fn where
  ps := ["_law_piece_here"]
  N := ["_law_piece_here"]
  body := (.ret (.cmp .in_ (.idx (.var 0) (.cst (.int (0)))) (.tup (.cons (.cst (.str "num")) (.cons (.cst (.str "shut")) (.cons (.cst (.str "kept")) .nil))))))
def fn__law_put : Fn where
  ps := ["_law_piece_here", "_law_name", "_law_value_here"]
  N := ["_law_piece_here", "_law_name", "_law_value_here", "_law_parts", "_law_part"]
  body := (.seq (.ifs (.call "_law_value" (.cons (.var 0) .nil)) (.ret (.var 0)) .pass)
  (.seq (.ifs (.cmp .eq (.idx (.var 0) (.cst (.int (0)))) (.cst (.str "name"))) (.ret (.idx (.lst (.cons (.var 0) (.cons (.var 2) .nil))) (.blt .int (.cons (.cmp .eq (.idx (.var 0) (.cst (.int (1)))) (.var 1)) .nil)))) .pass)
  (.seq (.ifs (.cmp .in_ (.idx (.var 0) (.cst (.int (0)))) (.tup (.cons (.cst (.str "fun")) (.cons (.cst (.str "take")) .nil)))) (.seq (.ifs (.cmp .eq (.idx (.var 0) (.cst (.int (2)))) (.var 1)) (.ret (.var 0)) .pass)
  (.ret (.tup (.cons (.idx (.var 0) (.cst (.int (0)))) (.cons (.idx (.var 0) (.cst (.int (1)))) (.cons (.idx (.var 0) (.cst (.int (2)))) (.cons (.call "_law_put" (.cons (.idx (.var 0) (.cst (.int (3)))) (.cons (.var 1) (.cons (.var 2) .nil)))) .nil))))))) .pass)
  (.seq (.ifs (.cmp .eq (.idx (.var 0) (.cst (.int (0)))) (.cst (.str "round"))) (.ret (.tup (.cons (.cst (.str "round")) (.cons (.call "_law_put" (.cons (.idx (.var 0) (.cst (.int (1)))) (.cons (.var 1) (.cons (.var 2) .nil)))) .nil)))) .pass)
  (.seq (.set 3 (.comp [("_law_part", 4)] (.nm 4) .one (.cons (.slc (.var 0) (.cons (.cst (.int (2))) .nil) .nil) .nil) .nil (.call "_law_put" (.cons (.var 4) (.cons (.var 1) (.cons (.var 2) .nil))))))
  (.ret (.bin .add (.tup (.cons (.idx (.var 0) (.cst (.int (0)))) (.cons (.idx (.var 0) (.cst (.int (1)))) .nil))) (.blt .tuple (.cons (.var 3) .nil)))))))))
def fn__law_value_by : Fn where
  ps := ["_law_mix", "_law_name"]
  N := ["_law_mix", "_law_name"]
  body := (.seq (.ifs (.cmp .eq (.bin .mod (.var 0) (.cst (.int (3)))) (.cst (.int (0)))) (.ret (.tup (.cons (.cst (.str "num")) (.cons (.bin .sub (.bin .mul (.var 0) (.bin .pow (.cst (.int (65537))) (.cst (.int (3))))) (.bin .pow (.cst (.int (10))) (.cst (.int (20))))) .nil)))) .pass)
  (.seq (.ifs (.cmp .eq (.bin .mod (.var 0) (.cst (.int (3)))) (.cst (.int (1)))) (.ret (.tup (.cons (.cst (.str "shut")) (.cons (.bin .mod (.bin .fdiv (.var 0) (.cst (.int (3)))) (.cst (.int (10000)))) (.cons (.var 1) (.cons (.tup (.cons (.cst (.str "plus")) (.cons (.cst (.int (3))) (.cons (.tup (.cons (.cst (.str "name")) (.cons (.var 1) .nil))) (.cons (.tup (.cons (.cst (.str "num")) (.cons (.bin .mod (.bin .fdiv (.var 0) (.cst (.int (7)))) (.cst (.int (9)))) .nil))) .nil))))) .nil)))))) .pass)
  (.ret (.tup (.cons (.cst (.str "kept")) (.cons (.bin .mod (.bin .fdiv (.var 0) (.cst (.int (3)))) (.cst (.int (10000)))) (.cons (.tup (.cons (.tup (.cons (.cst (.str "adder")) (.cons (.cst (.int (4))) (.cons (.tup (.cons (.cst (.str "take")) (.cons (.cst (.int (5))) (.cons (.var 1) (.cons (.tup (.cons (.cst (.str "name")) (.cons (.var 1) .nil))) .nil))))) .nil)))) (.cons (.tup (.cons (.cst (.str "round")) .nil)) .nil))) .nil)))))))
def fn_law : Fn where
  ps := ["_law_script"]
  N := ["_law_script", "_law_cell", "_law_names", "_law_at", "_law_sign", "_law_piece_here", "_law_k", "_law_values", "_law_name", "_law_other", "_law_handed", "_law_found", "_law_due"]
  body := (.seq (.set 1 (.call "_law_mixed" (.cons (.call "_law_cell_at" (.cons (.var 0) (.cons (.cst (.int (0))) .nil))) .nil)))
  (.seq (.set 2 (.comp [("_law_k", 6)] (.nm 6) .rng1 (.cons (.cst (.int (4))) .nil) .nil (.call "_law_name_by" (.cons (.call "_law_mixed" (.cons (.bin .add (.call "_law_cell_at" (.cons (.var 0) (.cons (.cst (.int (1))) .nil))) (.var 6)) .nil)) .nil))))
  (.seq (.ifs (.cmp .eq (.bin .mod (.var 1) (.cst (.int (2)))) (.cst (.int (1)))) (.seq (.set 3 (.bin .mod (.bin .fdiv (.var 1) (.cst (.int (2)))) (.blt .len (.cons (.idx (.var 2) (.cst (.int (0)))) .nil))))
  (.seq (.set 4 (.idx (.cst (.str "abcdefghijklmnopqrstuvwxyz")) (.bin .mod (.bin .fdiv (.var 1) (.cst (.int (16)))) (.cst (.int (26))))))
  (.seq (.setIx (.var 2) (.cst (.int (1))) (.bin .add (.bin .add (.slc (.idx (.var 2) (.cst (.int (0)))) .nil (.cons (.var 3) .nil)) (.var 4)) (.slc (.idx (.var 2) (.cst (.int (0)))) (.cons (.bin .add (.var 3) (.cst (.int (1)))) .nil) .nil)))
  (.seq (.setIx (.var 2) (.cst (.int (2))) (.slc (.bin .add (.idx (.var 2) (.cst (.int (0)))) (.cst (.str "q"))) .nil (.cons (.cst (.int (8))) .nil)))
  (.setIx (.var 2) (.cst (.int (3))) (.or (.slc (.idx (.var 2) (.cst (.int (0)))) .nil (.cons (.neg (.cst (.int (1)))) .nil)) (.cst (.str "z")))))))) .pass)
  (.seq (.set 5 (.call "_law_made" (.cons (.var 0) (.cons (.lst (.cons (.cst (.int (4))) .nil)) (.cons (.bin .add (.cst (.int (1))) (.bin .mod (.var 1) (.cst (.int (7))))) (.cons (.slc (.var 2) .nil (.cons (.cst (.int (3))) .nil)) .nil))))))
  (.seq (.for_ (.nm 6) .rng1 (.cons (.idx (.lst (.cons (.cst (.int (0))) (.cons (.cst (.int (0))) (.cons (.cst (.int (1))) (.cons (.cst (.int (18))) .nil))))) (.bin .mod (.bin .fdiv (.var 1) (.cst (.int (7)))) (.cst (.int (4))))) .nil) (.set 5 (.tup (.cons (.cst (.str "plus")) (.cons (.call "_law_mark_by" (.cons (.bin .add (.var 1) (.var 6)) .nil)) (.cons (.tup (.cons (.cst (.str "name")) (.cons (.idx (.var 2) (.bin .mod (.var 6) (.cst (.int (3))))) .nil))) (.cons (.var 5) .nil)))))))
  (.seq (.set 7 (.comp [("_law_k", 6)] (.nm 6) .rng1 (.cons (.cst (.int (2))) .nil) .nil (.call "_law_value_by" (.cons (.call "_law_mixed" (.cons (.bin .add (.call "_law_cell_at" (.cons (.var 0) (.cons (.cst (.int (2))) .nil))) (.var 6)) .nil)) (.cons (.idx (.var 2) (.var 6)) .nil)))))
  (.seq (.set 8 (.idx (.var 2) (.bin .mod (.bin .fdiv (.var 1) (.cst (.int (28)))) (.cst (.int (4))))))
  (.seq (.set 9 (.idx (.var 2) (.bin .mod (.bin .fdiv (.var 1) (.cst (.int (112)))) (.cst (.int (4))))))
  (.seq (.set 10 (.var 5))
  (.seq (.set 11 (.call "put_in" (.cons (.var 10) (.cons (.var 8) (.cons (.idx (.var 7) (.cst (.int (0)))) .nil)))))
  (.seq (.set 12 (.call "_law_put" (.cons (.var 5) (.cons (.var 8) (.cons (.idx (.var 7) (.cst (.int (0)))) .nil)))))
  (.seq (.ifs (.or (.cmp .ne (.var 11) (.var 12)) (.cmp .ne (.var 10) (.var 5))) (.ret (.cst (.bl false))) .pass)
  (.ret (.and (.cmp .eq (.call "put_in" (.cons (.var 11) (.cons (.var 9) (.cons (.idx (.var 7) (.cst (.int (1)))) .nil)))) (.call "_law_put" (.cons (.var 12) (.cons (.var 9) (.cons (.idx (.var 7) (.cst (.int (1)))) .nil))))) (.cmp .eq (.var 11) (.var 12))))))))))))))))
def sx : Sx where
  blt := ["int", "len", "min", "range", "tuple", "zip"]
  gl := [("BINDERS", (.tup [(.str "fun"), (.str "take")])), ("VALUES", (.tup [(.str "num"), (.str "shut"), (.str "kept")]))]
  gd := [("FORMS", gd_FORMS)]
  fns := ["put_in", "_law_cell_at", "_law_mixed", "_law_name_by", "_law_mark_by", "_law_leaf", "_law_gone_on", "_law_made", "_law_piece", "_law_value", "_law_put", "_law_value_by", "law"]
def tb (f : Str) : Option Fn :=
  bif f == "put_in" then some fn_put_in
  else bif f == "_law_cell_at" then some fn__law_cell_at
  else bif f == "_law_mixed" then some fn__law_mixed
  else bif f == "_law_name_by" then some fn__law_name_by
  else bif f == "_law_mark_by" then some fn__law_mark_by
  else bif f == "_law_leaf" then some fn__law_leaf
  else bif f == "_law_gone_on" then some fn__law_gone_on
  else bif f == "_law_made" then some fn__law_made
  else bif f == "_law_piece" then some fn__law_piece
  else bif f == "_law_value" then some fn__law_value
  else bif f == "_law_put" then some fn__law_put
  else bif f == "_law_value_by" then some fn__law_value_by
  else bif f == "law" then some fn_law
  else none
@[simp] theorem gdl_FORMS_num : gd_FORMS.lookup (Str.ofString "num") = some (.tup [(.str "number")]) := by rfl
@[simp] theorem gdl_FORMS_name : gd_FORMS.lookup (Str.ofString "name") = some (.tup [(.str "name")]) := by rfl
@[simp] theorem gdl_FORMS_fun : gd_FORMS.lookup (Str.ofString "fun") = some (.tup [(.str "mark"), (.str "name"), (.str "piece")]) := by rfl
@[simp] theorem gdl_FORMS_call : gd_FORMS.lookup (Str.ofString "call") = some (.tup [(.str "mark"), (.str "piece"), (.str "piece")]) := by rfl
@[simp] theorem gdl_FORMS_plus : gd_FORMS.lookup (Str.ofString "plus") = some (.tup [(.str "mark"), (.str "piece"), (.str "piece")]) := by rfl
@[simp] theorem gdl_FORMS_pick : gd_FORMS.lookup (Str.ofString "pick") = some (.tup [(.str "mark"), (.str "piece"), (.str "piece"), (.str "piece")]) := by rfl
@[simp] theorem gdl_FORMS_round : gd_FORMS.lookup (Str.ofString "round") = some (.tup [(.str "piece")]) := by rfl
@[simp] theorem gdl_FORMS_take : gd_FORMS.lookup (Str.ofString "take") = some (.tup [(.str "mark"), (.str "name"), (.str "piece")]) := by rfl
theorem tb_put_in : tb "put_in" = some fn_put_in := by rfl
theorem tb__law_cell_at : tb "_law_cell_at" = some fn__law_cell_at := by rfl
theorem tb__law_mixed : tb "_law_mixed" = some fn__law_mixed := by rfl
theorem tb__law_name_by : tb "_law_name_by" = some fn__law_name_by := by rfl
theorem tb__law_mark_by : tb "_law_mark_by" = some fn__law_mark_by := by rfl
theorem tb__law_leaf : tb "_law_leaf" = some fn__law_leaf := by rfl
theorem tb__law_gone_on : tb "_law_gone_on" = some fn__law_gone_on := by rfl
theorem tb__law_made : tb "_law_made" = some fn__law_made := by rfl
theorem tb__law_piece : tb "_law_piece" = some fn__law_piece := by rfl
theorem tb__law_value : tb "_law_value" = some fn__law_value := by rfl
theorem tb__law_put : tb "_law_put" = some fn__law_put := by rfl
theorem tb__law_value_by : tb "_law_value_by" = some fn__law_value_by := by rfl
theorem tb_law : tb "law" = some fn_law := by rfl
def topS (i : Nat) : Stmt := PySem.Challenge.pw_cutback_k02_put_in.main.body.getD i (.Pass ⟨0, 0, 0, 0⟩)
theorem sc_put_in : FnScope fn_put_in.N fn_put_in.ps (defScope (topS 4)) := ⟨rfl, rfl, rfl, by decide +kernel, rfl, by decide +kernel, by decide +kernel⟩
theorem ck_put_in : (chkS sx fn_put_in.N true (defScope (topS 4)).names fn_put_in.body).b (defBody (topS 4)) = true := by decide +kernel
theorem df_put_in {K : PySem.W.Frag} {mg : Str → Option Value} {a : Addr} {oc : Value} {od an : Option Addr} {osl : Array (Option Value)} {kV doc pm cdv ct : Value} (hm : mg "put_in" = some (.ref a))
    (l : K.lookup a = some ⟨oc, od, .func (PySem.W.fnOf "put_in" "put_in" (defArgs (topS 4)) (defBody (topS 4)) (defScope (topS 4)) .none kV doc pm an cdv ct), osl⟩) (c : PySem.W.codeIn K cdv "put_in" = true) (k : PySem.W.keepIn K (.ref a) = true) : DefOk sx tb K mg "put_in" :=
  defOk_mk tb_put_in hm l c k sc_put_in (fun _ _ _ _ _ _ us hl => match us, hl with | [_, _, _], _ => rfl) ck_put_in
theorem sc__law_cell_at : FnScope fn__law_cell_at.N fn__law_cell_at.ps (defScope (topS 6)) := ⟨rfl, rfl, rfl, by decide +kernel, rfl, by decide +kernel, by decide +kernel⟩
theorem ck__law_cell_at : (chkS sx fn__law_cell_at.N true (defScope (topS 6)).names fn__law_cell_at.body).b (defBody (topS 6)) = true := by decide +kernel
theorem df__law_cell_at {K : PySem.W.Frag} {mg : Str → Option Value} {a : Addr} {oc : Value} {od an : Option Addr} {osl : Array (Option Value)} {kV doc pm cdv ct : Value} (hm : mg "_law_cell_at" = some (.ref a))
    (l : K.lookup a = some ⟨oc, od, .func (PySem.W.fnOf "_law_cell_at" "_law_cell_at" (defArgs (topS 6)) (defBody (topS 6)) (defScope (topS 6)) .none kV doc pm an cdv ct), osl⟩) (c : PySem.W.codeIn K cdv "_law_cell_at" = true) (k : PySem.W.keepIn K (.ref a) = true) : DefOk sx tb K mg "_law_cell_at" :=
  defOk_mk tb__law_cell_at hm l c k sc__law_cell_at (fun _ _ _ _ _ _ us hl => match us, hl with | [_, _], _ => rfl) ck__law_cell_at
theorem sc__law_mixed : FnScope fn__law_mixed.N fn__law_mixed.ps (defScope (topS 7)) := ⟨rfl, rfl, rfl, by decide +kernel, rfl, by decide +kernel, by decide +kernel⟩
theorem ck__law_mixed : (chkS sx fn__law_mixed.N true (defScope (topS 7)).names fn__law_mixed.body).b (defBody (topS 7)) = true := by decide +kernel
theorem df__law_mixed {K : PySem.W.Frag} {mg : Str → Option Value} {a : Addr} {oc : Value} {od an : Option Addr} {osl : Array (Option Value)} {kV doc pm cdv ct : Value} (hm : mg "_law_mixed" = some (.ref a))
    (l : K.lookup a = some ⟨oc, od, .func (PySem.W.fnOf "_law_mixed" "_law_mixed" (defArgs (topS 7)) (defBody (topS 7)) (defScope (topS 7)) .none kV doc pm an cdv ct), osl⟩) (c : PySem.W.codeIn K cdv "_law_mixed" = true) (k : PySem.W.keepIn K (.ref a) = true) : DefOk sx tb K mg "_law_mixed" :=
  defOk_mk tb__law_mixed hm l c k sc__law_mixed (fun _ _ _ _ _ _ us hl => match us, hl with | [_], _ => rfl) ck__law_mixed
theorem sc__law_name_by : FnScope fn__law_name_by.N fn__law_name_by.ps (defScope (topS 8)) := ⟨rfl, rfl, rfl, by decide +kernel, rfl, by decide +kernel, by decide +kernel⟩
theorem ck__law_name_by : (chkS sx fn__law_name_by.N true (defScope (topS 8)).names fn__law_name_by.body).b (defBody (topS 8)) = true := by decide +kernel
theorem df__law_name_by {K : PySem.W.Frag} {mg : Str → Option Value} {a : Addr} {oc : Value} {od an : Option Addr} {osl : Array (Option Value)} {kV doc pm cdv ct : Value} (hm : mg "_law_name_by" = some (.ref a))
    (l : K.lookup a = some ⟨oc, od, .func (PySem.W.fnOf "_law_name_by" "_law_name_by" (defArgs (topS 8)) (defBody (topS 8)) (defScope (topS 8)) .none kV doc pm an cdv ct), osl⟩) (c : PySem.W.codeIn K cdv "_law_name_by" = true) (k : PySem.W.keepIn K (.ref a) = true) : DefOk sx tb K mg "_law_name_by" :=
  defOk_mk tb__law_name_by hm l c k sc__law_name_by (fun _ _ _ _ _ _ us hl => match us, hl with | [_], _ => rfl) ck__law_name_by
theorem sc__law_mark_by : FnScope fn__law_mark_by.N fn__law_mark_by.ps (defScope (topS 9)) := ⟨rfl, rfl, rfl, by decide +kernel, rfl, by decide +kernel, by decide +kernel⟩
theorem ck__law_mark_by : (chkS sx fn__law_mark_by.N true (defScope (topS 9)).names fn__law_mark_by.body).b (defBody (topS 9)) = true := by decide +kernel
theorem df__law_mark_by {K : PySem.W.Frag} {mg : Str → Option Value} {a : Addr} {oc : Value} {od an : Option Addr} {osl : Array (Option Value)} {kV doc pm cdv ct : Value} (hm : mg "_law_mark_by" = some (.ref a))
    (l : K.lookup a = some ⟨oc, od, .func (PySem.W.fnOf "_law_mark_by" "_law_mark_by" (defArgs (topS 9)) (defBody (topS 9)) (defScope (topS 9)) .none kV doc pm an cdv ct), osl⟩) (c : PySem.W.codeIn K cdv "_law_mark_by" = true) (k : PySem.W.keepIn K (.ref a) = true) : DefOk sx tb K mg "_law_mark_by" :=
  defOk_mk tb__law_mark_by hm l c k sc__law_mark_by (fun _ _ _ _ _ _ us hl => match us, hl with | [_], _ => rfl) ck__law_mark_by
theorem sc__law_leaf : FnScope fn__law_leaf.N fn__law_leaf.ps (defScope (topS 10)) := ⟨rfl, rfl, rfl, by decide +kernel, rfl, by decide +kernel, by decide +kernel⟩
theorem ck__law_leaf : (chkS sx fn__law_leaf.N true (defScope (topS 10)).names fn__law_leaf.body).b (defBody (topS 10)) = true := by decide +kernel
theorem df__law_leaf {K : PySem.W.Frag} {mg : Str → Option Value} {a : Addr} {oc : Value} {od an : Option Addr} {osl : Array (Option Value)} {kV doc pm cdv ct : Value} (hm : mg "_law_leaf" = some (.ref a))
    (l : K.lookup a = some ⟨oc, od, .func (PySem.W.fnOf "_law_leaf" "_law_leaf" (defArgs (topS 10)) (defBody (topS 10)) (defScope (topS 10)) .none kV doc pm an cdv ct), osl⟩) (c : PySem.W.codeIn K cdv "_law_leaf" = true) (k : PySem.W.keepIn K (.ref a) = true) : DefOk sx tb K mg "_law_leaf" :=
  defOk_mk tb__law_leaf hm l c k sc__law_leaf (fun _ _ _ _ _ _ us hl => match us, hl with | [_, _], _ => rfl) ck__law_leaf
theorem sc__law_gone_on : FnScope fn__law_gone_on.N fn__law_gone_on.ps (defScope (topS 11)) := ⟨rfl, rfl, rfl, by decide +kernel, rfl, by decide +kernel, by decide +kernel⟩
theorem ck__law_gone_on : (chkS sx fn__law_gone_on.N true (defScope (topS 11)).names fn__law_gone_on.body).b (defBody (topS 11)) = true := by decide +kernel
theorem df__law_gone_on {K : PySem.W.Frag} {mg : Str → Option Value} {a : Addr} {oc : Value} {od an : Option Addr} {osl : Array (Option Value)} {kV doc pm cdv ct : Value} (hm : mg "_law_gone_on" = some (.ref a))
    (l : K.lookup a = some ⟨oc, od, .func (PySem.W.fnOf "_law_gone_on" "_law_gone_on" (defArgs (topS 11)) (defBody (topS 11)) (defScope (topS 11)) .none kV doc pm an cdv ct), osl⟩) (c : PySem.W.codeIn K cdv "_law_gone_on" = true) (k : PySem.W.keepIn K (.ref a) = true) : DefOk sx tb K mg "_law_gone_on" :=
  defOk_mk tb__law_gone_on hm l c k sc__law_gone_on (fun _ _ _ _ _ _ us hl => match us, hl with | [_, _, _, _], _ => rfl) ck__law_gone_on
theorem sc__law_made : FnScope fn__law_made.N fn__law_made.ps (defScope (topS 12)) := ⟨rfl, rfl, rfl, by decide +kernel, rfl, by decide +kernel, by decide +kernel⟩
theorem ck__law_made : (chkS sx fn__law_made.N true (defScope (topS 12)).names fn__law_made.body).b (defBody (topS 12)) = true := by decide +kernel
theorem df__law_made {K : PySem.W.Frag} {mg : Str → Option Value} {a : Addr} {oc : Value} {od an : Option Addr} {osl : Array (Option Value)} {kV doc pm cdv ct : Value} (hm : mg "_law_made" = some (.ref a))
    (l : K.lookup a = some ⟨oc, od, .func (PySem.W.fnOf "_law_made" "_law_made" (defArgs (topS 12)) (defBody (topS 12)) (defScope (topS 12)) .none kV doc pm an cdv ct), osl⟩) (c : PySem.W.codeIn K cdv "_law_made" = true) (k : PySem.W.keepIn K (.ref a) = true) : DefOk sx tb K mg "_law_made" :=
  defOk_mk tb__law_made hm l c k sc__law_made (fun _ _ _ _ _ _ us hl => match us, hl with | [_, _, _, _], _ => rfl) ck__law_made
theorem sc__law_piece : FnScope fn__law_piece.N fn__law_piece.ps (defScope (topS 13)) := ⟨rfl, rfl, rfl, by decide +kernel, rfl, by decide +kernel, by decide +kernel⟩
theorem ck__law_piece : (chkS sx fn__law_piece.N true (defScope (topS 13)).names fn__law_piece.body).b (defBody (topS 13)) = true := by decide +kernel
theorem df__law_piece {K : PySem.W.Frag} {mg : Str → Option Value} {a : Addr} {oc : Value} {od an : Option Addr} {osl : Array (Option Value)} {kV doc pm cdv ct : Value} (hm : mg "_law_piece" = some (.ref a))
    (l : K.lookup a = some ⟨oc, od, .func (PySem.W.fnOf "_law_piece" "_law_piece" (defArgs (topS 13)) (defBody (topS 13)) (defScope (topS 13)) .none kV doc pm an cdv ct), osl⟩) (c : PySem.W.codeIn K cdv "_law_piece" = true) (k : PySem.W.keepIn K (.ref a) = true) : DefOk sx tb K mg "_law_piece" :=
  defOk_mk tb__law_piece hm l c k sc__law_piece (fun _ _ _ _ _ _ us hl => match us, hl with | [_, _, _], _ => rfl) ck__law_piece
theorem sc__law_value : FnScope fn__law_value.N fn__law_value.ps (defScope (topS 14)) := ⟨rfl, rfl, rfl, by decide +kernel, rfl, by decide +kernel, by decide +kernel⟩
theorem ck__law_value : (chkS sx fn__law_value.N true (defScope (topS 14)).names fn__law_value.body).b (defBody (topS 14)) = true := by decide +kernel
theorem df__law_value {K : PySem.W.Frag} {mg : Str → Option Value} {a : Addr} {oc : Value} {od an : Option Addr} {osl : Array (Option Value)} {kV doc pm cdv ct : Value} (hm : mg "_law_value" = some (.ref a))
    (l : K.lookup a = some ⟨oc, od, .func (PySem.W.fnOf "_law_value" "_law_value" (defArgs (topS 14)) (defBody (topS 14)) (defScope (topS 14)) .none kV doc pm an cdv ct), osl⟩) (c : PySem.W.codeIn K cdv "_law_value" = true) (k : PySem.W.keepIn K (.ref a) = true) : DefOk sx tb K mg "_law_value" :=
  defOk_mk tb__law_value hm l c k sc__law_value (fun _ _ _ _ _ _ us hl => match us, hl with | [_], _ => rfl) ck__law_value
theorem sc__law_put : FnScope fn__law_put.N fn__law_put.ps (defScope (topS 15)) := ⟨rfl, rfl, rfl, by decide +kernel, rfl, by decide +kernel, by decide +kernel⟩
theorem ck__law_put : (chkS sx fn__law_put.N true (defScope (topS 15)).names fn__law_put.body).b (defBody (topS 15)) = true := by decide +kernel
theorem df__law_put {K : PySem.W.Frag} {mg : Str → Option Value} {a : Addr} {oc : Value} {od an : Option Addr} {osl : Array (Option Value)} {kV doc pm cdv ct : Value} (hm : mg "_law_put" = some (.ref a))
    (l : K.lookup a = some ⟨oc, od, .func (PySem.W.fnOf "_law_put" "_law_put" (defArgs (topS 15)) (defBody (topS 15)) (defScope (topS 15)) .none kV doc pm an cdv ct), osl⟩) (c : PySem.W.codeIn K cdv "_law_put" = true) (k : PySem.W.keepIn K (.ref a) = true) : DefOk sx tb K mg "_law_put" :=
  defOk_mk tb__law_put hm l c k sc__law_put (fun _ _ _ _ _ _ us hl => match us, hl with | [_, _, _], _ => rfl) ck__law_put
theorem sc__law_value_by : FnScope fn__law_value_by.N fn__law_value_by.ps (defScope (topS 16)) := ⟨rfl, rfl, rfl, by decide +kernel, rfl, by decide +kernel, by decide +kernel⟩
theorem ck__law_value_by : (chkS sx fn__law_value_by.N true (defScope (topS 16)).names fn__law_value_by.body).b (defBody (topS 16)) = true := by decide +kernel
theorem df__law_value_by {K : PySem.W.Frag} {mg : Str → Option Value} {a : Addr} {oc : Value} {od an : Option Addr} {osl : Array (Option Value)} {kV doc pm cdv ct : Value} (hm : mg "_law_value_by" = some (.ref a))
    (l : K.lookup a = some ⟨oc, od, .func (PySem.W.fnOf "_law_value_by" "_law_value_by" (defArgs (topS 16)) (defBody (topS 16)) (defScope (topS 16)) .none kV doc pm an cdv ct), osl⟩) (c : PySem.W.codeIn K cdv "_law_value_by" = true) (k : PySem.W.keepIn K (.ref a) = true) : DefOk sx tb K mg "_law_value_by" :=
  defOk_mk tb__law_value_by hm l c k sc__law_value_by (fun _ _ _ _ _ _ us hl => match us, hl with | [_, _], _ => rfl) ck__law_value_by
theorem sc_law : FnScope fn_law.N fn_law.ps (defScope (topS 17)) := ⟨rfl, rfl, rfl, by decide +kernel, rfl, by decide +kernel, by decide +kernel⟩
theorem ck_law : (chkS sx fn_law.N true (defScope (topS 17)).names fn_law.body).b (defBody (topS 17)) = true := by decide +kernel
theorem df_law {K : PySem.W.Frag} {mg : Str → Option Value} {a : Addr} {oc : Value} {od an : Option Addr} {osl : Array (Option Value)} {kV doc pm cdv ct : Value} (hm : mg "law" = some (.ref a))
    (l : K.lookup a = some ⟨oc, od, .func (PySem.W.fnOf "law" "law" (defArgs (topS 17)) (defBody (topS 17)) (defScope (topS 17)) .none kV doc pm an cdv ct), osl⟩) (c : PySem.W.codeIn K cdv "law" = true) (k : PySem.W.keepIn K (.ref a) = true) : DefOk sx tb K mg "law" :=
  defOk_mk tb_law hm l c k sc_law (fun _ _ _ _ _ _ us hl => match us, hl with | [_], _ => rfl) ck_law
end K2
namespace K2
open PySem PySem.Spec PyProof.Rows L2 Mi
variable {m : List SO} {k : Nat}

theorem run_value (p : RP) : run tb (k + 1) "_law_value" [enc p] m = some (.bl p.isVal, m) := by
  rw [run_at tb__law_value k rfl]
  cases p <;> simp [fn__law_value, ex, ev, dst, den, denB, M.bnd, M.ret, M.no, idxD, seqOf, atI, ixN, cmpM, cmpD, cmpI, newT, newL, flatD, inD, eqF, fini, gc_same, gc_app, truthM, truth, Mi.isNon, bltD, methD, itemsD, tgt, setsR, wipeR, slcD, cut, HT.sIx, ptO, binD, Mi.binI, Still, forL, compL, isiD, sizeLine, getL_app0, enc, RP.isVal]

set_option maxHeartbeats 4000000 in
theorem run_put {x : Str} (hx : PyData.strOk x = true) (v : RP) : ∀ (p : RP) {k : Nat} {m : List SO}, p.sok = true → p.dp ≤ k → run tb (k + 1) "put_in" [enc p, .str x, enc v] m = some (enc (RP.put x v p), m)
  | .num i, k, m, hs, hd => by
    rw [run_at tb_put_in k rfl]
    simp [fn_put_in, ex, ev, dst, den, denB, M.bnd, M.ret, M.no, idxD, seqOf, atI, ixN, cmpM, cmpD, cmpI, newT, newL, flatD, inD, eqF, fini, gc_same, gc_app, truthM, truth, Mi.isNon, bltD, methD, itemsD, tgt, setsR, wipeR, slcD, cut, HT.sIx, ptO, binD, Mi.binI, Still, forL, compL, isiD, sizeLine, getL_app0, enc, eqD_str, RP.put]
  | .shut a y b, k, m, hs, hd => by
    rw [run_at tb_put_in k rfl]
    simp [fn_put_in, ex, ev, dst, den, denB, M.bnd, M.ret, M.no, idxD, seqOf, atI, ixN, cmpM, cmpD, cmpI, newT, newL, flatD, inD, eqF, fini, gc_same, gc_app, truthM, truth, Mi.isNon, bltD, methD, itemsD, tgt, setsR, wipeR, slcD, cut, HT.sIx, ptO, binD, Mi.binI, Still, forL, compL, isiD, sizeLine, getL_app0, enc, eqD_str, RP.put, lt_enc]
  | .kept a fs, k, m, hs, hd => by
    rw [run_at tb_put_in k rfl]
    simp [fn_put_in, ex, ev, dst, den, denB, M.bnd, M.ret, M.no, idxD, seqOf, atI, ixN, cmpM, cmpD, cmpI, newT, newL, flatD, inD, eqF, fini, gc_same, gc_app, truthM, truth, Mi.isNon, bltD, methD, itemsD, tgt, setsR, wipeR, slcD, cut, HT.sIx, ptO, binD, Mi.binI, Still, forL, compL, isiD, sizeLine, getL_app0, enc, eqD_str, RP.put, lt_encFs]
  | .name y, k, m, hs, hd => by
    have hy : PyData.strOk y = true := hs
    rw [run_at tb_put_in k rfl]
    by_cases e : (y == x) = true
    · simp [fn_put_in, ex, ev, dst, den, denB, M.bnd, M.ret, M.no, idxD, seqOf, atI, ixN, cmpM, cmpD, cmpI, newT, newL, flatD, inD, eqF, fini, gc_same, gc_app, truthM, truth, Mi.isNon, bltD, methD, itemsD, tgt, setsR, wipeR, slcD, cut, HT.sIx, ptO, binD, Mi.binI, Still, forL, compL, isiD, sizeLine, getL_app0, enc, eqD_str, RP.put, hx, hy, e, lt_enc]
    · simp [fn_put_in, ex, ev, dst, den, denB, M.bnd, M.ret, M.no, idxD, seqOf, atI, ixN, cmpM, cmpD, cmpI, newT, newL, flatD, inD, eqF, fini, gc_same, gc_app, truthM, truth, Mi.isNon, bltD, methD, itemsD, tgt, setsR, wipeR, slcD, cut, HT.sIx, ptO, binD, Mi.binI, Still, forL, compL, isiD, sizeLine, getL_app0, enc, eqD_str, RP.put, hx, hy, e]
  | .fun_ a y b, k, m, hs, hd => by
    have hs' : PyData.strOk y = true ∧ b.sok = true := by simpa [RP.sok] using hs
    rw [run_at tb_put_in k rfl]
    cases k with
    | zero => simp [RP.dp] at hd
    | succ k =>
      have ih : ∀ m, run tb (k + 1) "put_in" [enc b, .str x, enc v] m = some (enc (RP.put x v b), m) := fun m => run_put hx v b hs'.2 (by simpa [RP.dp] using hd)
      by_cases e : (y == x) = true
      · simp [fn_put_in, ex, ev, dst, den, denB, M.bnd, M.ret, M.no, idxD, seqOf, atI, ixN, cmpM, cmpD, cmpI, newT, newL, flatD, inD, eqF, fini, gc_same, gc_app, truthM, truth, Mi.isNon, bltD, methD, itemsD, tgt, setsR, wipeR, slcD, cut, HT.sIx, ptO, binD, Mi.binI, Still, forL, compL, isiD, sizeLine, getL_app0, enc, eqD_str, RP.put, hx, hs'.1, e, lt_enc]
      · simp [fn_put_in, ex, ev, dst, den, denB, M.bnd, M.ret, M.no, idxD, seqOf, atI, ixN, cmpM, cmpD, cmpI, newT, newL, flatD, inD, eqF, fini, gc_same, gc_app, truthM, truth, Mi.isNon, bltD, methD, itemsD, tgt, setsR, wipeR, slcD, cut, HT.sIx, ptO, binD, Mi.binI, Still, forL, compL, isiD, sizeLine, getL_app0, enc, eqD_str, RP.put, hx, hs'.1, e, lt_enc, ih]
  | .take a y b, k, m, hs, hd => by
    have hs' : PyData.strOk y = true ∧ b.sok = true := by simpa [RP.sok] using hs
    rw [run_at tb_put_in k rfl]
    cases k with
    | zero => simp [RP.dp] at hd
    | succ k =>
      have ih : ∀ m, run tb (k + 1) "put_in" [enc b, .str x, enc v] m = some (enc (RP.put x v b), m) := fun m => run_put hx v b hs'.2 (by simpa [RP.dp] using hd)
      by_cases e : (y == x) = true
      · simp [fn_put_in, ex, ev, dst, den, denB, M.bnd, M.ret, M.no, idxD, seqOf, atI, ixN, cmpM, cmpD, cmpI, newT, newL, flatD, inD, eqF, fini, gc_same, gc_app, truthM, truth, Mi.isNon, bltD, methD, itemsD, tgt, setsR, wipeR, slcD, cut, HT.sIx, ptO, binD, Mi.binI, Still, forL, compL, isiD, sizeLine, getL_app0, enc, eqD_str, RP.put, hx, hs'.1, e, lt_enc]
      · simp [fn_put_in, ex, ev, dst, den, denB, M.bnd, M.ret, M.no, idxD, seqOf, atI, ixN, cmpM, cmpD, cmpI, newT, newL, flatD, inD, eqF, fini, gc_same, gc_app, truthM, truth, Mi.isNon, bltD, methD, itemsD, tgt, setsR, wipeR, slcD, cut, HT.sIx, ptO, binD, Mi.binI, Still, forL, compL, isiD, sizeLine, getL_app0, enc, eqD_str, RP.put, hx, hs'.1, e, lt_enc, ih]
  | .call a f g, k, m, hs, hd => by
    have hs' : f.sok = true ∧ g.sok = true := by simpa [RP.sok] using hs
    rw [run_at tb_put_in k rfl]
    cases k with
    | zero => simp [RP.dp] at hd
    | succ k =>
      have hd' : max f.dp g.dp ≤ k := by simpa [RP.dp] using hd
      have i1 : ∀ m, run tb (k + 1) "put_in" [enc f, .str x, enc v] m = some (enc (RP.put x v f), m) := fun m => run_put hx v f hs'.1 (by omega)
      have i2 : ∀ m, run tb (k + 1) "put_in" [enc g, .str x, enc v] m = some (enc (RP.put x v g), m) := fun m => run_put hx v g hs'.2 (by omega)
      simp [fn_put_in, ex, ev, dst, den, denB, M.bnd, M.ret, M.no, idxD, seqOf, atI, ixN, cmpM, cmpD, cmpI, newT, newL, flatD, inD, eqF, fini, gc_same, gc_app, truthM, truth, Mi.isNon, bltD, methD, itemsD, tgt, setsR, wipeR, slcD, cut, HT.sIx, ptO, binD, Mi.binI, Still, forL, compL, isiD, sizeLine, getL_app0, enc, eqD_str, RP.put, lt_enc, i1, i2]
  | .plus a f g, k, m, hs, hd => by
    have hs' : f.sok = true ∧ g.sok = true := by simpa [RP.sok] using hs
    rw [run_at tb_put_in k rfl]
    cases k with
    | zero => simp [RP.dp] at hd
    | succ k =>
      have hd' : max f.dp g.dp ≤ k := by simpa [RP.dp] using hd
      have i1 : ∀ m, run tb (k + 1) "put_in" [enc f, .str x, enc v] m = some (enc (RP.put x v f), m) := fun m => run_put hx v f hs'.1 (by omega)
      have i2 : ∀ m, run tb (k + 1) "put_in" [enc g, .str x, enc v] m = some (enc (RP.put x v g), m) := fun m => run_put hx v g hs'.2 (by omega)
      simp [fn_put_in, ex, ev, dst, den, denB, M.bnd, M.ret, M.no, idxD, seqOf, atI, ixN, cmpM, cmpD, cmpI, newT, newL, flatD, inD, eqF, fini, gc_same, gc_app, truthM, truth, Mi.isNon, bltD, methD, itemsD, tgt, setsR, wipeR, slcD, cut, HT.sIx, ptO, binD, Mi.binI, Still, forL, compL, isiD, sizeLine, getL_app0, enc, eqD_str, RP.put, lt_enc, i1, i2]
  | .pick a c f g, k, m, hs, hd => by
    have hs' : (c.sok = true ∧ f.sok = true) ∧ g.sok = true := by simpa [RP.sok] using hs
    rw [run_at tb_put_in k rfl]
    cases k with
    | zero => simp [RP.dp] at hd
    | succ k =>
      have hd' : max c.dp (max f.dp g.dp) ≤ k := by simpa [RP.dp] using hd
      have i0 : ∀ m, run tb (k + 1) "put_in" [enc c, .str x, enc v] m = some (enc (RP.put x v c), m) := fun m => run_put hx v c hs'.1.1 (by omega)
      have i1 : ∀ m, run tb (k + 1) "put_in" [enc f, .str x, enc v] m = some (enc (RP.put x v f), m) := fun m => run_put hx v f hs'.1.2 (by omega)
      have i2 : ∀ m, run tb (k + 1) "put_in" [enc g, .str x, enc v] m = some (enc (RP.put x v g), m) := fun m => run_put hx v g hs'.2 (by omega)
      simp [fn_put_in, ex, ev, dst, den, denB, M.bnd, M.ret, M.no, idxD, seqOf, atI, ixN, cmpM, cmpD, cmpI, newT, newL, flatD, inD, eqF, fini, gc_same, gc_app, truthM, truth, Mi.isNon, bltD, methD, itemsD, tgt, setsR, wipeR, slcD, cut, HT.sIx, ptO, binD, Mi.binI, Still, forL, compL, isiD, sizeLine, getL_app0, enc, eqD_str, RP.put, lt_enc, i0, i1, i2]
  | .round b, k, m, hs, hd => by
    rw [run_at tb_put_in k rfl]
    cases k with
    | zero => simp [RP.dp] at hd
    | succ k =>
      have ih : ∀ m, run tb (k + 1) "put_in" [enc b, .str x, enc v] m = some (enc (RP.put x v b), m) := fun m => run_put hx v b (by simpa [RP.sok] using hs) (by simpa [RP.dp] using hd)
      simp [fn_put_in, ex, ev, dst, den, denB, M.bnd, M.ret, M.no, idxD, seqOf, atI, ixN, cmpM, cmpD, cmpI, newT, newL, flatD, inD, eqF, fini, gc_same, gc_app, truthM, truth, Mi.isNon, bltD, methD, itemsD, tgt, setsR, wipeR, slcD, cut, HT.sIx, ptO, binD, Mi.binI, Still, forL, compL, isiD, sizeLine, getL_app0, enc, eqD_str, RP.put, lt_enc, ih]
end K2
namespace K2
open PySem PySem.Spec PyProof.Rows L2 Mi
variable {m : List SO} {k : Nat}

def mixed (i : Int) : Int := let a := (i * 48271 + 7919) % 2147483647; (a * a + a / 7) % 2147483647
theorem mixed_lo (i : Int) : 0 ≤ mixed i := Int.emod_nonneg _ (by decide)
theorem mixed_hi (i : Int) : mixed i < 2147483647 := Int.emod_lt_of_pos _ (by decide)
theorem run_mixed (i : Int) : run tb (k + 1) "_law_mixed" [.int i] m = some (.int (mixed i), m) := by
  rw [run_at tb__law_mixed k rfl]
  have h0 : 0 ≤ (i * 48271 + 7919) % 2147483647 := Int.emod_nonneg _ (by decide)
  have h1 : (i * 48271 + 7919) % 2147483647 < 2147483647 := Int.emod_lt_of_pos _ (by decide)
  have h2 : -(2 ^ 64) < (i * 48271 + 7919) % 2147483647 ∧ (i * 48271 + 7919) % 2147483647 < 2 ^ 64 := by omega
  simp [fn__law_mixed, ex, ev, dst, den, denB, M.bnd, M.ret, M.no, seqOf, cmpM, cmpD, cmpI, newT, newL, flatD, inD, eqF, fini, truthM, truth, Mi.isNon, bltD, tgt, setsR, wipeR, ptO, isiD, sizeLine, getL_app0, mixed, bin_mul_l _ h2, gc_same]
def cell (ns : List Int) (j : Int) : Int := if j < ns.length then ns[j.toNat]?.getD 0 else 0
theorem run_cell {ns : List Int} (hn : ns.length ≤ 63) {j : Int} (hj : 0 ≤ j) : run tb (k + 1) "_law_cell_at" [.fz (ns.map .int), .int j] m = some (.int (cell ns j), m) := by
  rw [run_at tb__law_cell_at k rfl]
  by_cases h : j < ns.length
  · have hj' : j.toNat < ns.length := by omega
    simp [fn__law_cell_at, ex, ev, dst, den, denB, M.bnd, M.ret, M.no, idxD, seqOf, atI, ixN, cmpM, cmpD, cmpI, newT, newL, flatD, inD, eqF, fini, gc_same, gc_app, truthM, truth, Mi.isNon, bltD, methD, itemsD, tgt, setsR, wipeR, slcD, cut, HT.sIx, ptO, binD, Mi.binI, Still, forL, compL, isiD, sizeLine, getL_app0, cell, h, hj, List.getElem?_eq_getElem hj']
  · simp [fn__law_cell_at, ex, ev, dst, den, denB, M.bnd, M.ret, M.no, idxD, seqOf, atI, ixN, cmpM, cmpD, cmpI, newT, newL, flatD, inD, eqF, fini, gc_same, gc_app, truthM, truth, Mi.isNon, bltD, methD, itemsD, tgt, setsR, wipeR, slcD, cut, HT.sIx, ptO, binD, Mi.binI, Still, forL, compL, isiD, sizeLine, getL_app0, cell, h]
def markBy (i : Int) : Int := if i % 2 = 0 then i / 2 % 10000 else i / 2 % 6
theorem run_mark {i : Int} : run tb (k + 1) "_law_mark_by" [.int i] m = some (.int (markBy i), m) := by
  rw [run_at tb__law_mark_by k rfl]
  by_cases h : i % 2 = 0 <;> simp [fn__law_mark_by, ex, ev, dst, den, denB, M.bnd, M.ret, M.no, seqOf, cmpM, cmpD, cmpI, newT, newL, flatD, inD, eqF, fini, truthM, truth, Mi.isNon, bltD, tgt, setsR, wipeR, ptO, isiD, sizeLine, getL_app0, eqD_int, markBy, h, gc_same]
theorem run_name {i : Int} (hi : 0 ≤ i) : ∃ x, run tb (k + 1) "_law_name_by" [.int i] m = some (.str x, m) ∧ Nm x := by
  rw [run_at tb__law_name_by k rfl]
  by_cases h : i % 3 = 0
  · have hb : 0 ≤ i / 3 % 4 ∧ i / 3 % 4 < 26 := by omega
    refine ⟨sg (97 + (i / 3 % 4).toNat), ?_, Low.one (by omega), by simp, by simp⟩
    have e := idx_alpha hb.1 hb.2
    simp [fn__law_name_by, ex, ev, dst, den, denB, M.bnd, M.ret, M.no, seqOf, cmpM, cmpD, cmpI, newT, newL, flatD, inD, eqF, fini, truthM, truth, Mi.isNon, bltD, tgt, setsR, wipeR, ptO, isiD, sizeLine, getL_app0, eqD_int, h, gc_same, e]
  · have hz : 0 ≤ i / 3 % 8 ∧ i / 3 % 8 < 8 := by omega
    have hbb : 0 ≤ i / 5 % 26 ∧ i / 5 % 26 < 26 := by omega
    have e := idx_alpha hbb.1 hbb.2
    have hr := itemsR (j := 1 + i / 3 % 8) (m := m) (by omega)
    simp [fn__law_name_by, ex, ev, dst, den, denB, M.bnd, M.ret, M.no, seqOf, cmpM, cmpD, cmpI, newT, newL, flatD, inD, eqF, fini, truthM, truth, Mi.isNon, bltD, tgt, setsR, wipeR, ptO, isiD, sizeLine, getL_app0, eqD_int, h, gc_same, e, hr]
    rw [compL_pure (fun d => match d with | .int j => .str (sg (97 + ((i / 24 + 5 * j) % 26).toNat)) | d => d) _ ?_ (acc := []) (by simp) (by simp [sizeLine]; omega)]
    rotate_left
    · intro x hx m'
      obtain ⟨j, hj, rfl⟩ := List.mem_map.mp hx
      have hb : 0 ≤ (i / 24 + 5 * (j : Int)) % 26 ∧ (i / 24 + 5 * (j : Int)) % 26 < 26 := ⟨Int.emod_nonneg _ (by decide), Int.emod_lt_of_pos _ (by decide)⟩
      have e2 := idx_alpha hb.1 hb.2 m'
      simp [e2]
    obtain ⟨zs, hzs⟩ : ∃ zs : List Str, zs = (List.range (1 + i / 3 % 8).toNat).map fun (j : Nat) => sg (97 + ((i / 24 + 5 * (j : Int)) % 26).toNat) := ⟨_, rfl⟩
    have hm : (List.map (fun d => match d with | D.int j => D.str (sg (97 + ((i / 24 + 5 * j) % 26).toNat)) | d => d) (List.map (fun (i : Nat) => D.int i) (List.range (1 + i / 3 % 8).toNat))) = zs.map .str := by
      rw [hzs, List.map_map, List.map_map]; rfl
    have hl1 : ∀ a ∈ zs, a.length = 1 := by
      intro a ha; rw [hzs] at ha; obtain ⟨j, hj, rfl⟩ := List.mem_map.mp ha; rfl
    have hl2 : ∀ a ∈ zs, Low a := by
      intro a ha; rw [hzs] at ha; obtain ⟨j, hj, rfl⟩ := List.mem_map.mp ha
      exact Low.one (by omega)
    have hln : zs.length = (1 + i / 3 % 8).toNat := by rw [hzs]; simp
    have hj1 := join_low' hl2
    have hj2 : (Txt.join (Str.ofString "") zs).length = (1 + i / 3 % 8).toNat := by rw [join_len hl1, hln]
    have hjj : ∀ M : List SO, getL M m.length = some (zs.map .str) → methD .join (.str (Str.ofString "")) [.loc m.length] M = some (.str (Txt.join (Str.ofString "") zs), M) := fun M hM => meth_join hM (by
      have e0 : (Str.ofString "").length = 0 := by decide
      rw [sumLen_of_ones zs hl1, e0]; omega)
    rw [hm]
    revert hj1 hj2 hjj
    generalize Txt.join (Str.ofString "") zs = y
    intro hj1 hj2 hjj
    have hq : 0 < 1 + i / 3 % 8 := by omega
    have ha : 0 ≤ i / 624 % (1 + i / 3 % 8) ∧ i / 624 % (1 + i / 3 % 8) < 1 + i / 3 % 8 := ⟨Int.emod_nonneg _ (by omega), Int.emod_lt_of_pos _ hq⟩
    have hs1 : y.length ≤ 16777216 := by rw [hj2]; omega
    have hyi : (y.length : Int) = 1 + i / 3 % 8 := by rw [hj2]; omega
    have l1 := len_cutTo (a := y) ha.1 (by omega)
    have l2 := len_cutFrom (a := y) (i := i / 624 % (1 + i / 3 % 8) + 1) (by omega) (by omega)
    have hw : ∀ M, binD .add (.str (cutS y none (some (i / 624 % (1 + i / 3 % 8))))) (.str (sg (97 + (i / 5 % 26).toNat))) M = some (.str (cutS y none (some (i / 624 % (1 + i / 3 % 8))) ++ sg (97 + (i / 5 % 26).toNat)), M) := fun M => bin_strs M (by simp; omega)
    have hw2 : ∀ M, binD .add (.str (cutS y none (some (i / 624 % (1 + i / 3 % 8))) ++ sg (97 + (i / 5 % 26).toNat))) (.str (cutS y (some (i / 624 % (1 + i / 3 % 8) + 1)) none)) M = some (.str (cutS y none (some (i / 624 % (1 + i / 3 % 8))) ++ sg (97 + (i / 5 % 26).toNat) ++ cutS y (some (i / 624 % (1 + i / 3 % 8) + 1)) none), M) := fun M => bin_strs M (by simp; omega)
    simp [hjj, hq, slc_str, hs1, e, hw, hw2, gc_app]
    refine ⟨((hj1.cut _ _).app (Low.one (by omega))).app (hj1.cut _ _), ?_, ?_⟩
    · simp
      omega
    · simp
      rw [l1, l2]; omega
end K2
namespace K2
open PySem PySem.Spec PyProof.Rows L2 Mi
variable {m : List SO} {k : Nat}

theorem idx_loc {m : List SO} {c : Nat} {xs : List D} {i : Int} (h : getL m c = some xs) (h0 : 0 ≤ i) {d : D} (hd : xs[i.toNat]? = some d) : idxD (.loc c) (.int i) m = some (d, m) := by
  have hl : i.toNat < xs.length := by
    rcases Nat.lt_or_ge i.toNat xs.length with h1 | h1
    · exact h1
    · rw [List.getElem?_eq_none h1] at hd; cases hd
  unfold idxD
  simp only [seqOf, h]
  have e : atI xs i = some d := by
    unfold atI ixN
    rw [if_pos h0, if_pos (by omega)]
    exact hd
  rw [e]
theorem len_loc {m : List SO} {c : Nat} {xs : List D} (h : getL m c = some xs) : bltD .len [.loc c] m = some (.int xs.length, m) := by
  unfold bltD
  simp only [seqOf, h]
theorem mod_lt (i : Int) {n : Nat} (hn : 0 < n) : 0 ≤ i % (n : Int) ∧ (i % (n : Int)).toNat < n := by
  have h1 := Int.emod_nonneg i (b := (n : Int)) (by omega)
  have h2 := Int.emod_lt_of_pos i (b := (n : Int)) (by omega)
  omega
theorem numE {X : Option (D × List SO)} : (∃ n, X = some (enc (.num n), m)) → ∃ p, X = some (enc p, m) ∧ p.all = true ∧ p.dep ≤ 1 :=
  fun ⟨n, h⟩ => ⟨.num n, h, rfl, by simp [RP.dep]⟩
theorem numE2 {X : Option (D × List SO)} : (∃ n, X = some (enc (.num n), m)) → ∃ p, X = some (enc p, m) ∧ p.all = true ∧ p.dep ≤ 6 ∧ p.dp = 0 :=
  fun ⟨n, h⟩ => ⟨.num n, h, rfl, by simp [RP.dep], rfl⟩
theorem run_leaf {i : Int} {c : Nat} {sc : List Str} (hc : getL m c = some (sc.map .str)) (hs : ∀ x ∈ sc, Nm x) :
    ∃ p, run tb (k + 1) "_law_leaf" [.int i, .loc c] m = some (enc p, m) ∧ p.all = true ∧ p.dep ≤ 1 := by
  rw [run_at tb__law_leaf k rfl]
  have hcl := getL_lt hc
  have hc2 : ∀ l, getL (m ++ l) c = some (sc.map .str) := fun l => by rw [getL_old hcl]; exact hc
  have he : eqD k (m ++ [.lst []]) (.loc c) (.loc m.length) = some sc.isEmpty := eqD_strs (fun x hx => (hs x hx).sok) (hc2 _) (by simp)
  by_cases hz : sc = []
  · subst hz
    by_cases h11 : i % 11 = 0
    · refine numE ?_
      simp [fn__law_leaf, ex, ev, dst, den, denB, M.bnd, M.ret, M.no, seqOf, cmpM, cmpD, cmpI, newT, newL, flatD, inD, eqF, fini, truthM, truth, Mi.isNon, bltD, tgt, setsR, wipeR, ptO, isiD, sizeLine, getL_app0, eqD_int, he, h11, enc, gc_app, RP.all, RP.dep]
    · refine numE ?_
      simp [fn__law_leaf, ex, ev, dst, den, denB, M.bnd, M.ret, M.no, seqOf, cmpM, cmpD, cmpI, newT, newL, flatD, inD, eqF, fini, truthM, truth, Mi.isNon, bltD, tgt, setsR, wipeR, ptO, isiD, sizeLine, getL_app0, eqD_int, he, h11, enc, gc_app, RP.all, RP.dep]
  · have hz' : sc.isEmpty = false := by cases sc <;> simp_all
    by_cases h3 : 0 < i % 3
    · have hln : 0 < sc.length := by cases sc <;> simp_all
      have hb := mod_lt (i / 3) hln
      obtain ⟨y, hy⟩ : ∃ y, sc[(i / 3 % (sc.length : Int)).toNat]? = some y := ⟨_, List.getElem?_eq_getElem hb.2⟩
      have hi := idx_loc (hc2 [.lst []]) hb.1 (d := .str y) (by rw [List.getElem?_map, hy]; rfl)
      have hl := len_loc (hc2 [.lst []])
      have hy' : PyData.strOk y = true := (hs y (List.mem_of_getElem? hy)).sok
      refine ⟨.name y, ?_⟩
      simp [fn__law_leaf, ex, ev, dst, den, denB, M.bnd, M.ret, M.no, seqOf, cmpM, cmpD, cmpI, newT, newL, flatD, inD, eqF, fini, truthM, truth, Mi.isNon, bltD, tgt, setsR, wipeR, ptO, isiD, sizeLine, getL_app0, eqD_int, he, hz', h3, enc, gc_app, RP.all, RP.dep, hi, hc2, hy', hln]
    · by_cases h11 : i % 11 = 0
      · refine numE ?_
        simp [fn__law_leaf, ex, ev, dst, den, denB, M.bnd, M.ret, M.no, seqOf, cmpM, cmpD, cmpI, newT, newL, flatD, inD, eqF, fini, truthM, truth, Mi.isNon, bltD, tgt, setsR, wipeR, ptO, isiD, sizeLine, getL_app0, eqD_int, he, h11, hz', h3, enc, gc_app, RP.all, RP.dep]
      · refine numE ?_
        simp [fn__law_leaf, ex, ev, dst, den, denB, M.bnd, M.ret, M.no, seqOf, cmpM, cmpD, cmpI, newT, newL, flatD, inD, eqF, fini, truthM, truth, Mi.isNon, bltD, tgt, setsR, wipeR, ptO, isiD, sizeLine, getL_app0, eqD_int, he, h11, hz', h3, enc, gc_app, RP.all, RP.dep]
theorem run_value_by {i : Int} {x : Str} (hi : 0 ≤ i ∧ i < 2147483647) (hx : PyData.strOk x = true) :
    ∃ p, run tb (k + 1) "_law_value_by" [.int i, .str x] m = some (enc p, m) ∧ p.all = true ∧ p.dep ≤ 6 ∧ p.dp = 0 := by
  rw [run_at tb__law_value_by k rfl]
  by_cases h0 : i % 3 = 0
  · refine numE2 ?_
    have hm := fun M => bin_mul_l M (i := i) (j := 65537 ^ 3) (by omega)
    simp [fn__law_value_by, ex, ev, dst, den, denB, M.bnd, M.ret, M.no, seqOf, cmpM, cmpD, cmpI, newT, newL, flatD, inD, eqF, fini, truthM, truth, Mi.isNon, bltD, tgt, setsR, wipeR, ptO, isiD, sizeLine, getL_app0, eqD_int, h0, enc, gc_same, RP.all, RP.dep, RP.dp, hm]
  · by_cases h1 : i % 3 = 1
    · refine ⟨.shut (i / 3 % 10000) x (.plus 3 (.name x) (.num (i / 7 % 9))), ?_⟩
      simp [fn__law_value_by, ex, ev, dst, den, denB, M.bnd, M.ret, M.no, seqOf, cmpM, cmpD, cmpI, newT, newL, flatD, inD, eqF, fini, truthM, truth, Mi.isNon, bltD, tgt, setsR, wipeR, ptO, isiD, sizeLine, getL_app0, eqD_int, h0, h1, enc, gc_same, RP.all, RP.dep, RP.dp, hx]
    · refine ⟨.kept (i / 3 % 10000) [.adder 4 (.take 5 x (.name x)), .round], ?_⟩
      simp [fn__law_value_by, ex, ev, dst, den, denB, M.bnd, M.ret, M.no, seqOf, cmpM, cmpD, cmpI, newT, newL, flatD, inD, eqF, fini, truthM, truth, Mi.isNon, bltD, tgt, setsR, wipeR, ptO, isiD, sizeLine, getL_app0, eqD_int, h0, h1, enc, encF, encFs, gc_same, RP.all, RP.allF, RP.allFs, RP.dep, RP.depF, RP.depFs, RP.dp, hx]
end K2
namespace K2
open PySem PySem.Spec PyProof.Rows L2 Mi
variable {m : List SO} {k : Nat}

def bd (d : Int) : Int := if d = 0 then 1 else d + 2
theorem bd_pos {d : Int} (h : 0 < d) : bd d = d + 2 := if_neg (by omega)
theorem bd_zero : bd 0 = 1 := rfl
theorem bd_le {d : Int} (h : 0 ≤ d) : bd d ≤ d + 2 ∧ 1 ≤ bd d := by unfold bd; split <;> omega
def MadeR (m : List SO) (s : Nat) (d : Int) (X : Option (D × List SO)) : Prop :=
  ∃ p t', X = some (enc p, m.set s (.lst [.int t'])) ∧ 0 ≤ t' ∧ p.all = true ∧ (p.dep : Int) ≤ bd d
def MadeAt (ns : List Int) (n : Nat) : Prop := ∀ (d : Int) (m : List SO) (k s c : Nat) (t : Int) (sc : List Str), 0 ≤ d → d ≤ n → 2 * n + 2 ≤ k → getL m s = some [.int t] → 0 ≤ t → getL m c = some (sc.map .str) → (∀ x ∈ sc, Nm x) → sc.length + n ≤ 1000 →
  MadeR m s d (run tb k "_law_made" [.fz (ns.map .int), .loc s, .int d, .loc c] m)
def GoneAt (ns : List Int) (n : Nat) : Prop := ∀ (d : Int) (m : List SO) (k s c : Nat) (t : Int) (x0 : Str) (sc : List Str), 0 ≤ d → d ≤ n → 2 * n + 3 ≤ k → getL m s = some [.int t] → 0 ≤ t → getL m c = some ((x0 :: sc).map .str) → (∀ x ∈ x0 :: sc, Nm x) → (x0 :: sc).length + n ≤ 1000 →
  MadeR m s d (run tb k "_law_gone_on" [.fz (ns.map .int), .loc s, .int d, .loc c] m)
theorem loc_ne {m : List SO} {s c : Nat} {t : Int} {sc : List Str} (h : getL m s = some [.int t]) (hc : getL m c = some (sc.map .str)) : s ≠ c := by
  intro e
  subst e
  rw [h] at hc
  cases sc with
  | nil => cases hc
  | cons a l => injection hc with hc; injection hc with h1 h2; cases h1
theorem idx_new0 (m l : List SO) (s : Nat) (o : SO) (a : D) (xs : List D) : idxD (.loc m.length) (.int 0) (m.set s o ++ .lst (a :: xs) :: l) = some (a, m.set s o ++ .lst (a :: xs) :: l) := idx_loc (by simp; rfl) (by decide) rfl
theorem idx_new1 (m l : List SO) (s : Nat) (o : SO) (a b : D) (xs : List D) : idxD (.loc m.length) (.int 1) (m.set s o ++ .lst (a :: b :: xs) :: l) = some (b, m.set s o ++ .lst (a :: b :: xs) :: l) := idx_loc (by simp; rfl) (by decide) rfl
set_option maxHeartbeats 4000000 in
theorem gone_of {ns : List Int} (hn : ns.length ≤ 63) {n : Nat} (hM : MadeAt ns n) : GoneAt ns n := by
  intro d m k s c t x0 sc hd hdn hk hs ht hc hsc hlen
  obtain ⟨k, rfl⟩ : ∃ k', k = k' + 3 := ⟨k - 3, by omega⟩
  rw [run_at tb__law_gone_on (k + 2) rfl]
  have hsl := getL_lt hs
  have hcl := getL_lt hc
  have hne := loc_ne hs hc
  have h60 : 0 ≤ t % 60 := Int.emod_nonneg _ (by decide)
  have hcell : ∀ M, run tb (k + 2) "_law_cell_at" [.fz (ns.map .int), .int (t % 60)] M = some (.int (cell ns (t % 60)), M) := fun M => run_cell hn h60
  obtain ⟨x, hx⟩ : ∃ x, x = mixed (cell ns (t % 60) + 104729) := ⟨_, rfl⟩
  have hx0 : 0 ≤ x := by rw [hx]; exact mixed_lo _
  have hmix : ∀ M, run tb (k + 2) "_law_mixed" [.int (cell ns (t % 60) + 104729)] M = some (.int x, M) := fun M => by rw [hx]; exact run_mixed _
  have hi0 : idxD (.loc s) (.int 0) m = some (.int t, m) := idx_loc hs (by decide) rfl
  have hy0 : PyData.strOk x0 = true := (hsc x0 (by simp)).sok
  have hin : ∀ t', idxD (.loc c) (.int 0) (m.set s (.lst [.int t'])) = some (.str x0, m.set s (.lst [.int t'])) := fun t' => idx_loc (by rw [getL_set_ne hne]; exact hc) (by decide) rfl
  by_cases h4 : x % 4 = 0
  · obtain ⟨p, t', hr, h1, h2, h3⟩ := hM d m (k + 2) s c t (x0 :: sc) hd hdn (by omega) hs ht hc hsc hlen
    refine ⟨p, t', ?_, h1, h2, h3⟩
    simp [fn__law_gone_on, ex, ev, dst, den, denB, M.bnd, M.ret, M.no, seqOf, cmpM, cmpD, cmpI, newT, newL, flatD, inD, eqF, fini, truthM, truth, Mi.isNon, bltD, tgt, setsR, wipeR, ptO, isiD, sizeLine, getL_app0, eqD_int, hi0, hcell, hmix, h4, hr, lt_enc, gc_set0, hsl]
  · by_cases h5 : d < 3
    · obtain ⟨p, t', hr, h1, h2, h3⟩ := hM d m (k + 2) s c t (x0 :: sc) hd hdn (by omega) hs ht hc hsc hlen
      refine ⟨p, t', ?_, h1, h2, h3⟩
      have h6 : ¬ (2 < d) := by omega
      have h7 : 0 < x % 4 := by omega
      simp [fn__law_gone_on, ex, ev, dst, den, denB, M.bnd, M.ret, M.no, seqOf, cmpM, cmpD, cmpI, newT, newL, flatD, inD, eqF, fini, truthM, truth, Mi.isNon, bltD, tgt, setsR, wipeR, ptO, isiD, sizeLine, getL_app0, eqD_int, hi0, hcell, hmix, h4, h5, h6, h7, hr, lt_enc, gc_set0, hsl]
    · obtain ⟨p, t', hr, h1, h2, h3⟩ := hM (d - 2) m (k + 2) s c t (x0 :: sc) (by omega) (by omega) (by omega) hs ht hc hsc hlen
      have h6 : 2 < d := by omega
      have h7 : 0 < x % 4 := by omega
      have hb := bd_le (d := d - 2) (by omega)
      have hb2 := bd_pos (d := d) (by omega)
      by_cases e1 : x % 4 = 1
      · refine ⟨.call (x / 8 % 10000) (.name x0) (.call (x / 4 % 10000) (.name x0) p), t', ?_, h1, ?_, ?_⟩
        · simp [fn__law_gone_on, ex, ev, dst, den, denB, M.bnd, M.ret, M.no, seqOf, cmpM, cmpD, cmpI, newT, newL, flatD, inD, eqF, fini, truthM, truth, Mi.isNon, bltD, tgt, setsR, wipeR, ptO, isiD, sizeLine, getL_app0, eqD_int, hi0, hcell, hmix, h4, h5, h6, h7, hr, lt_enc, gc_set0, hsl, hin, e1, enc]
        · simp [RP.all, hy0, h2]
        · simp [RP.dep]; omega
      · by_cases e2 : x % 4 = 2
        · have h8 : x / 4 % 2 = 0 ∨ x / 4 % 2 = 1 := by omega
          rcases h8 with h8 | h8
          · refine ⟨.plus (x / 7 % 10000) (.call (x / 4 % 10000) (.name x0) p) (.call (x / 9 % 10000) (.name x0) (.num (x / 5 % 7))), t', ?_, h1, ?_, ?_⟩
            · simp [fn__law_gone_on, ex, ev, dst, den, denB, M.bnd, M.ret, M.no, seqOf, cmpM, cmpD, cmpI, newT, newL, flatD, inD, eqF, fini, truthM, truth, Mi.isNon, bltD, tgt, setsR, wipeR, ptO, isiD, sizeLine, getL_app0, eqD_int, hi0, hcell, hmix, h4, h5, h6, h7, hr, lt_enc, gc_set, hsl, hin, e1, e2, h8, enc, idx_new0, idx_new1]
            · simp [RP.all, hy0, h2]
            · simp [RP.dep]; omega
          · refine ⟨.plus (x / 7 % 10000) (.call (x / 9 % 10000) (.name x0) (.num (x / 5 % 7))) (.call (x / 4 % 10000) (.name x0) p), t', ?_, h1, ?_, ?_⟩
            · simp [fn__law_gone_on, ex, ev, dst, den, denB, M.bnd, M.ret, M.no, seqOf, cmpM, cmpD, cmpI, newT, newL, flatD, inD, eqF, fini, truthM, truth, Mi.isNon, bltD, tgt, setsR, wipeR, ptO, isiD, sizeLine, getL_app0, eqD_int, hi0, hcell, hmix, h4, h5, h6, h7, hr, lt_enc, gc_set, hsl, hin, e1, e2, h8, enc, idx_new0, idx_new1]
            · simp [RP.all, hy0, h2]
            · simp [RP.dep]; omega
        · refine ⟨.call (x / 4 % 10000) (.name x0) p, t', ?_, h1, ?_, ?_⟩
          · simp [fn__law_gone_on, ex, ev, dst, den, denB, M.bnd, M.ret, M.no, seqOf, cmpM, cmpD, cmpI, newT, newL, flatD, inD, eqF, fini, truthM, truth, Mi.isNon, bltD, tgt, setsR, wipeR, ptO, isiD, sizeLine, getL_app0, eqD_int, hi0, hcell, hmix, h4, h5, h6, h7, hr, lt_enc, gc_set0, hsl, hin, e1, e2, enc]
          · simp [RP.all, hy0, h2]
          · simp [RP.dep]; omega
end K2
namespace K2
open PySem PySem.Spec PyProof.Rows L2 Mi

def sq1 : Sm → Sm
  | .seq a _ => a
  | s => s
def sq2 : Sm → Sm
  | .seq _ b => b
  | s => s
def rest : Sm := sq2 (sq2 (sq2 (sq2 (sq2 (sq2 fn__law_made.body)))))
theorem made_body : fn__law_made.body = .seq (sq1 fn__law_made.body) (.seq (sq1 (sq2 fn__law_made.body)) (.seq (sq1 (sq2 (sq2 fn__law_made.body))) (.seq (sq1 (sq2 (sq2 (sq2 fn__law_made.body)))) (.seq (sq1 (sq2 (sq2 (sq2 (sq2 fn__law_made.body))))) (.seq (sq1 (sq2 (sq2 (sq2 (sq2 (sq2 fn__law_made.body)))))) rest))))) := rfl
set_option maxHeartbeats 4000000 in
theorem made_pre {ns : List Int} (hn : ns.length ≤ 63) {m : List SO} {k s c : Nat} {t : Int} {sc : List Str} {d : Int} (hs : getL m s = some [.int t]) (hc : getL m c = some (sc.map .str)) (hsc : ∀ x ∈ sc, Nm x) :
    ∃ x y, 0 ≤ x ∧ Nm y ∧ (ex (k + 1) (run tb (k + 1)) fn__law_made.body).x [some (.fz (ns.map .int)), some (.loc s), some (.int d), some (.loc c), none, none, none, none, none, none, none, none] m
      = (ex (k + 1) (run tb (k + 1)) rest).x [some (.fz (ns.map .int)), some (.loc s), some (.int d), some (.loc c), some (.int x), some (.int (x % 14)), some (.int (markBy (x / 14))), some (.str y), none, none, none, none] (m.set s (.lst [.int (t + 1)]) ++ [.lst []]) := by
  have hsl := getL_lt hs
  have hcl := getL_lt hc
  have hne := loc_ne hs hc
  have h60 : 0 ≤ t % 60 := Int.emod_nonneg _ (by decide)
  have hcell : ∀ M, run tb (k + 1) "_law_cell_at" [.fz (ns.map .int), .int (t % 60)] M = some (.int (cell ns (t % 60)), M) := fun M => run_cell hn h60
  obtain ⟨x, hx⟩ : ∃ x, x = mixed (cell ns (t % 60) + 7919 * t) := ⟨_, rfl⟩
  have hx0 : 0 ≤ x := by rw [hx]; exact mixed_lo _
  have hmix : ∀ M, run tb (k + 1) "_law_mixed" [.int (cell ns (t % 60) + 7919 * t)] M = some (.int x, M) := fun M => by rw [hx]; exact run_mixed _
  have hi0 : idxD (.loc s) (.int 0) m = some (.int t, m) := idx_loc hs (by decide) rfl
  have hmk : ∀ M, run tb (k + 1) "_law_mark_by" [.int (x / 14)] M = some (.int (markBy (x / 14)), M) := fun M => run_mark
  obtain ⟨y0, hy0, hny0⟩ := run_name (m := m.set s (.lst [.int (t + 1)])) (k := k) (i := x / 28) (by omega)
  have hc2 : ∀ o l, getL (m.set s o ++ l) c = some (sc.map .str) := fun o l => by rw [getL_old (by simpa using hcl), getL_set_ne hne]; exact hc
  have he : ∀ o, eqD (k + 1) (m.set s o ++ [.lst []]) (.loc c) (.loc m.length) = some sc.isEmpty := fun o => eqD_strs (fun x hx => (hsc x hx).sok) (hc2 _ _) (by simp)
  have hl := fun o l => len_loc (hc2 o l)
  by_cases hz : sc.isEmpty = true
  · refine ⟨x, y0, hx0, hny0, ?_⟩
    rw [made_body]
    simp [sq1, sq2, fn__law_made, ex, ev, dst, den, denB, M.bnd, M.ret, M.no, seqOf, cmpM, cmpD, cmpI, newT, newL, flatD, inD, eqF, fini, truthM, truth, Mi.isNon, bltD, tgt, setsR, wipeR, ptO, isiD, sizeLine, getL_app0, eqD_int, hi0, hcell, hmix, hmk, hs, hy0, he, hz, ixN]
  · have hz : sc.isEmpty = false := by simpa using hz
    by_cases h4 : x / 14 % 4 = 1
    · have hln : 0 < sc.length := by cases sc <;> simp_all
      have hb := mod_lt (x / 56) hln
      obtain ⟨y, hy⟩ : ∃ y, sc[(x / 56 % (sc.length : Int)).toNat]? = some y := ⟨_, List.getElem?_eq_getElem hb.2⟩
      have hi := fun o l => idx_loc (hc2 o l) hb.1 (d := .str y) (by rw [List.getElem?_map, hy]; rfl)
      refine ⟨x, y, hx0, hsc y (List.mem_of_getElem? hy), ?_⟩
      rw [made_body]
      simp [sq1, sq2, fn__law_made, ex, ev, dst, den, denB, M.bnd, M.ret, M.no, seqOf, cmpM, cmpD, cmpI, newT, newL, flatD, inD, eqF, fini, truthM, truth, Mi.isNon, bltD, tgt, setsR, wipeR, ptO, isiD, sizeLine, getL_app0, eqD_int, hi0, hcell, hmix, hmk, hs, hy0, he, hz, h4, hi, hc2, hln, ixN]
    · refine ⟨x, y0, hx0, hny0, ?_⟩
      rw [made_body]
      simp [sq1, sq2, fn__law_made, ex, ev, dst, den, denB, M.bnd, M.ret, M.no, seqOf, cmpM, cmpD, cmpI, newT, newL, flatD, inD, eqF, fini, truthM, truth, Mi.isNon, bltD, tgt, setsR, wipeR, ptO, isiD, sizeLine, getL_app0, eqD_int, hi0, hcell, hmix, hmk, hs, hy0, he, hz, h4, ixN]
end K2
namespace K2
open PySem PySem.Spec PyProof.Rows L2 Mi

theorem itemsR3 (m : List SO) : itemsD .rng1 [.int 3] m = some (([.int 0, .int 1, .int 2], none), m) := by
  rw [itemsR (by decide)]; rfl
section
variable (m l : List SO) (s : Nat) (o q : SO) (a b c : D) (xs : List D)
theorem idx_s0 : idxD (.loc (m.length + 1)) (.int 0) (m.set s o ++ q :: .lst (a :: xs) :: l) = some (a, m.set s o ++ q :: .lst (a :: xs) :: l) := idx_loc (xs := a :: xs) (by simp) (by decide) rfl
theorem idx_s1 : idxD (.loc (m.length + 1)) (.int 1) (m.set s o ++ q :: .lst (a :: b :: xs) :: l) = some (b, m.set s o ++ q :: .lst (a :: b :: xs) :: l) := idx_loc (xs := a :: b :: xs) (by simp) (by decide) rfl
theorem idx_s2 : idxD (.loc (m.length + 1)) (.int 2) (m.set s o ++ q :: .lst (a :: b :: c :: xs) :: l) = some (c, m.set s o ++ q :: .lst (a :: b :: c :: xs) :: l) := idx_loc (xs := a :: b :: c :: xs) (by simp) (by decide) rfl
end
/-- what a call gives, the state written -/
def Gv (m : List SO) (s : Nat) (l : List SO) (d : Int) (X : Option (D × List SO)) : Prop :=
  ∃ p t', X = some (enc p, m.set s (.lst [.int t']) ++ l) ∧ 0 ≤ t' ∧ p.all = true ∧ (p.dep : Int) ≤ bd d
set_option maxHeartbeats 8000000 in
theorem made_rest {ns : List Int} {n : Nat} (hM : MadeAt ns n) (hG : GoneAt ns n) {m : List SO} {k s c : Nat} {t1 : Int} {sc : List Str} {d x : Int} {y : Str}
    (hd : 0 ≤ d) (hdn : d ≤ n + 1) (hk : 2 * n + 2 ≤ k) (hs : s < m.length) (hcl : c < m.length) (ht : 0 ≤ t1) (hne : s ≠ c) (hc : getL m c = some (sc.map .str)) (hsc : ∀ x ∈ sc, Nm x) (hx : 0 ≤ x) (hy : Nm y) (hlen : sc.length + (n + 1) ≤ 1000) :
    MadeR m s d (fini m ((ex (k + 1) (run tb (k + 1)) rest).x [some (.fz (ns.map .int)), some (.loc s), some (.int d), some (.loc c), some (.int x), some (.int (x % 14)), some (.int (markBy (x / 14))), some (.str y), none, none, none, none] (m.set s (.lst [.int t1]) ++ [.lst []]))) := by
  have hc2 : ∀ o l, getL (m.set s o ++ l) c = some (sc.map .str) := fun o l => by rw [getL_old (by simpa using hcl), getL_set_ne hne]; exact hc
  have hs2 : ∀ t l, getL (m.set s (.lst [.int t]) ++ l) s = some [.int t] := fun t l => by rw [getL_old (by simpa using hs), getL_set_same hs]
  have hi0 : ∀ t l, idxD (.loc s) (.int 0) (m.set s (.lst [.int t]) ++ l) = some (.int t, m.set s (.lst [.int t]) ++ l) := fun t l => idx_loc (hs2 t l) (by decide) rfl
  have hl := fun o l => len_loc (hc2 o l)
  have hyo : PyData.strOk y = true := hy.sok
  have hmk : ∀ i M, run tb (k + 1) "_law_mark_by" [.int i] M = some (.int (markBy i), M) := fun i M => run_mark
  have hMs : ∀ (d' t : Int) (l : List SO) (c' : Nat) (sc' : List Str), 0 ≤ d' → d' ≤ n → 0 ≤ t → getL (m.set s (.lst [.int t]) ++ l) c' = some (sc'.map .str) → (∀ x ∈ sc', Nm x) → sc'.length + n ≤ 1000 →
      Gv m s l d' (run tb (k + 1) "_law_made" [.fz (ns.map .int), .loc s, .int d', .loc c'] (m.set s (.lst [.int t]) ++ l)) := by
    intro d' t l c' sc' h1 h2 h3 h4 h5 h6
    obtain ⟨p, t', g1, g2, g3, g4⟩ := hM d' (m.set s (.lst [.int t]) ++ l) (k + 1) s c' t sc' h1 h2 (by omega) (hs2 t l) h3 h4 h5 h6
    exact ⟨p, t', by rw [g1, set_in2 hs], g2, g3, g4⟩
  have hGs : ∀ (d' t : Int) (l : List SO) (c' : Nat) (x0 : Str) (sc' : List Str), 0 ≤ d' → d' ≤ n → 0 ≤ t → getL (m.set s (.lst [.int t]) ++ l) c' = some ((x0 :: sc').map .str) → (∀ x ∈ x0 :: sc', Nm x) → (x0 :: sc').length + n ≤ 1000 →
      Gv m s l d' (run tb (k + 1) "_law_gone_on" [.fz (ns.map .int), .loc s, .int d', .loc c'] (m.set s (.lst [.int t]) ++ l)) := by
    intro d' t l c' x0 sc' h1 h2 h3 h4 h5 h6
    obtain ⟨p, t', g1, g2, g3, g4⟩ := hG d' (m.set s (.lst [.int t]) ++ l) (k + 1) s c' t x0 sc' h1 h2 (by omega) (hs2 t l) h3 h4 h5 h6
    exact ⟨p, t', by rw [g1, set_in2 hs], g2, g3, g4⟩
  have hlt : ∀ p : RP, ltD m.length (enc p) = true := fun p => lt_enc _ p
  have hgc : ∀ t' l p, gc m (enc p) (m.set s (.lst [.int t']) ++ l) = (enc p, m.set s (.lst [.int t'])) := fun t' l p => gc_set (lt_enc _ p) (by simp) hs
  by_cases hleaf : d = 0 ∨ x % 14 = 0 ∨ 22 < t1
  · obtain ⟨p, hr, h1, h2⟩ := run_leaf (k := k) (m := m.set s (.lst [.int t1]) ++ [.lst []]) (i := x / 14) (hc2 _ _) hsc
    refine ⟨p, t1, ?_, ht, h1, by have := bd_le hd; omega⟩
    by_cases e0 : d = 0
    · simp [rest, sq2, fn__law_made, ex, ev, dst, den, denB, M.bnd, M.ret, M.no, seqOf, cmpM, cmpD, cmpI, newT, newL, flatD, inD, eqF, fini, truthM, truth, Mi.isNon, bltD, tgt, setsR, wipeR, ptO, isiD, sizeLine, getL_app0, eqD_int, e0, hr, hgc]
    · by_cases e1 : x % 14 = 0
      · simp [rest, sq2, fn__law_made, ex, ev, dst, den, denB, M.bnd, M.ret, M.no, seqOf, cmpM, cmpD, cmpI, newT, newL, flatD, inD, eqF, fini, truthM, truth, Mi.isNon, bltD, tgt, setsR, wipeR, ptO, isiD, sizeLine, getL_app0, eqD_int, e0, e1, hr, hgc]
      · have e2 : 22 < t1 := by omega
        simp [rest, sq2, fn__law_made, ex, ev, dst, den, denB, M.bnd, M.ret, M.no, seqOf, cmpM, cmpD, cmpI, newT, newL, flatD, inD, eqF, fini, truthM, truth, Mi.isNon, bltD, tgt, setsR, wipeR, ptO, isiD, sizeLine, getL_app0, eqD_int, e0, e1, e2, hi0, hr, hgc]
  · have e0 : ¬ d = 0 := fun e => hleaf (.inl e)
    have e1 : ¬ x % 14 = 0 := fun e => hleaf (.inr (.inl e))
    have e2 : ¬ 22 < t1 := fun e => hleaf (.inr (.inr e))
    have hb2 := bd_pos (d := d) (by omega)
    have hbm := bd_le (d := d - 1) (by omega)
    have hadd : ∀ o, binD .add (.loc (m.length + 1)) (.loc c) (m.set s o ++ [.lst [], .lst [.str y]]) = some (.loc (m.length + 2), m.set s o ++ [.lst [], .lst [.str y], .lst (.str y :: sc.map .str)]) := by
      intro o
      have e : getL (m.set s o ++ [.lst [], .lst [.str y]]) (m.length + 1) = some [.str y] := by simp
      rw [bin_locs e (hc2 _ _) (by simp [sizeLine]; omega)]
      simp
    have hsy : ∀ z ∈ y :: sc, Nm z := fun z hz => by
      rcases List.mem_cons.mp hz with h | h
      · exact h ▸ hy
      · exact hsc z h
    have hl3 : (y :: sc).length + n ≤ 1000 := by simp; omega
    have hl4 : sc.length + n ≤ 1000 := by omega
    by_cases w1 : x % 14 = 1
    · obtain ⟨p, t', hr, h1, h2, h3⟩ := hMs (d - 1) t1 [.lst [], .lst [.str y], .lst (.str y :: sc.map .str)] (m.length + 2) (y :: sc) (by omega) (by omega) ht (by simp) hsy hl3
      refine ⟨.fun_ (markBy (x / 14)) y p, t', ?_, h1, by simp [RP.all, hyo, h2], by simp [RP.dep]; omega⟩
      rw [← hgc t' [.lst [], .lst [.str y], .lst (.str y :: sc.map .str)]]
      simp [rest, sq2, fn__law_made, ex, ev, dst, den, denB, M.bnd, M.ret, M.no, seqOf, cmpM, cmpD, cmpI, newT, newL, flatD, inD, eqF, fini, truthM, truth, Mi.isNon, bltD, tgt, setsR, wipeR, ptO, isiD, sizeLine, getL_app0, eqD_int, e0, e1, e2, hi0, w1, hadd, hr, enc]
    by_cases w5 : x % 14 < 5
    · obtain ⟨d', hd', h01⟩ : ∃ d', d' = d - 2 + (if d = 1 then 1 else 0) ∧ 0 ≤ d' ∧ d' ≤ n ∧ bd d' + 2 ≤ d + 2 := by
        refine ⟨_, rfl, ?_⟩
        split
        · rename_i e; subst e; exact ⟨by decide, by omega, by decide⟩
        · have := bd_le (d := d - 2 + 0) (by omega)
          exact ⟨by omega, by omega, by omega⟩
      obtain ⟨p, t', hr, h1, h2, h3⟩ := hMs d' t1 [.lst [], .lst [.str y], .lst (.str y :: sc.map .str)] (m.length + 2) (y :: sc) h01.1 h01.2.1 ht (by simp) hsy hl3
      obtain ⟨q, t2, hr2, g1, g2, g3⟩ := hMs (d - 1) t' [.lst [], .lst [.str y], .lst (.str y :: sc.map .str)] c sc (by omega) (by omega) h1 (hc2 _ _) hsc hl4
      refine ⟨.call (markBy (x / 14)) (.fun_ (markBy (x / 41)) y p) q, t2, ?_, g1, by simp [RP.all, hyo, h2, g2], by simp [RP.dep]; omega⟩
      rw [← hgc t2 [.lst [], .lst [.str y], .lst (.str y :: sc.map .str)]]
      by_cases d1 : d = 1
      · subst d1
        have hd' : d' = 0 := by rw [hd']; rfl
        subst hd'
        simp at hr2
        simp [rest, sq2, fn__law_made, ex, ev, dst, den, denB, M.bnd, M.ret, M.no, seqOf, cmpM, cmpD, cmpI, newT, newL, flatD, inD, eqF, fini, truthM, truth, Mi.isNon, bltD, tgt, setsR, wipeR, ptO, isiD, sizeLine, getL_app0, eqD_int, e0, e1, e2, hi0, w1, w5, hadd, hr, hr2, hmk, enc]
      · have hd' : d' = d - 2 := by rw [hd', if_neg d1]; omega
        subst hd'
        simp [rest, sq2, fn__law_made, ex, ev, dst, den, denB, M.bnd, M.ret, M.no, seqOf, cmpM, cmpD, cmpI, newT, newL, flatD, inD, eqF, fini, truthM, truth, Mi.isNon, bltD, tgt, setsR, wipeR, ptO, isiD, sizeLine, getL_app0, eqD_int, e0, e1, e2, hi0, w1, w5, d1, hadd, hr, hr2, hmk, enc]
    have he : ∀ o, eqD (k + 1) (m.set s o ++ [.lst [], .lst []]) (.loc c) (.loc (m.length + 1)) = some sc.isEmpty := fun o => eqD_strs (fun x hx => (hsc x hx).sok) (hc2 _ _) (by simp)
    by_cases w7 : x % 14 < 7 ∧ sc.isEmpty = false
    · obtain ⟨w7, hz⟩ := w7
      have hln : 0 < sc.length := by cases sc <;> simp_all
      obtain ⟨z, hz2, hz3⟩ : ∃ z : Nat, (if (sc.length : Int) < 2 then (sc.length : Int) else 2) = z ∧ 0 < z ∧ z ≤ sc.length := by
        split
        · exact ⟨sc.length, rfl, by omega⟩
        · exact ⟨2, rfl, by omega⟩
      have hb := mod_lt (x / 14) hz3.1
      obtain ⟨v, hv⟩ : ∃ v, sc[(x / 14 % (z : Int)).toNat]? = some v := ⟨_, List.getElem?_eq_getElem (by omega)⟩
      have hi := fun o l => idx_loc (hc2 o l) hb.1 (d := .str v) (by rw [List.getElem?_map, hv]; rfl)
      have hvo : PyData.strOk v = true := (hsc v (List.mem_of_getElem? hv)).sok
      obtain ⟨q, t2, hr2, g1, g2, g3⟩ := hMs (d - 1) t1 [.lst [], .lst []] c sc (by omega) (by omega) ht (hc2 _ _) hsc hl4
      refine ⟨.call (markBy (x / 14)) (.name v) q, t2, ?_, g1, by simp [RP.all, hvo, g2], by simp [RP.dep]; omega⟩
      rw [← hgc t2 [.lst [], .lst []]]
      have hzp : 0 < z := hz3.1
      simp [rest, sq2, fn__law_made, ex, ev, dst, den, denB, M.bnd, M.ret, M.no, seqOf, cmpM, cmpD, cmpI, newT, newL, flatD, inD, eqF, fini, truthM, truth, Mi.isNon, bltD, tgt, setsR, wipeR, ptO, isiD, sizeLine, getL_app0, eqD_int, e0, e1, e2, hi0, w1, w5, w7, he, hz, hc2, hz2, hi, hzp, hr2, enc]
    by_cases wa : x % 14 < 7
    · have hz : sc.isEmpty = true := by
        cases h : sc.isEmpty with
        | true => rfl
        | false => exact absurd ⟨wa, h⟩ w7
      obtain ⟨p, t', hr, h1, h2, h3⟩ := hMs (d - 1) t1 [.lst [], .lst []] c sc (by omega) (by omega) ht (hc2 _ _) hsc hl4
      refine ⟨.round p, t', ?_, h1, by simp [RP.all, h2], by simp [RP.dep]; omega⟩
      rw [← hgc t' [.lst [], .lst []]]
      have w70 : ¬ x % 14 = 7 := by omega
      have w10 : x % 14 < 10 := by omega
      simp [rest, sq2, fn__law_made, ex, ev, dst, den, denB, M.bnd, M.ret, M.no, seqOf, cmpM, cmpD, cmpI, newT, newL, flatD, inD, eqF, fini, truthM, truth, Mi.isNon, bltD, tgt, setsR, wipeR, ptO, isiD, sizeLine, getL_app0, eqD_int, e0, e1, e2, hi0, w1, w5, wa, w70, w10, he, hz, hr, enc]
    by_cases w70 : x % 14 = 7
    · obtain ⟨p0, t0, hr0, f1, f2, f3⟩ := hMs (d - 1) t1 [.lst [], .lst []] c sc (by omega) (by omega) ht (hc2 _ _) hsc hl4
      obtain ⟨p1, t2, hr1, g1, g2, g3⟩ := hMs (d - 1) t0 [.lst [], .lst [enc p0]] c sc (by omega) (by omega) f1 (hc2 _ _) hsc hl4
      obtain ⟨p2, t3, hr2, j1, j2, j3⟩ := hMs (d - 1) t2 [.lst [], .lst [enc p0, enc p1]] c sc (by omega) (by omega) g1 (hc2 _ _) hsc hl4
      by_cases hpar : x / 14 % 2 = 1
      · refine ⟨.pick (markBy (x / 14)) (.num (x / 28 % 5 - 2)) p1 p2, t3, ?_, j1, by simp [RP.all, g2, j2], by simp [RP.dep]; omega⟩
        rw [← hgc t3 [.lst [], .lst [enc (.num (x / 28 % 5 - 2)), enc p1, enc p2]]]
        simp [rest, sq2, fn__law_made, ex, ev, dst, den, denB, M.bnd, M.ret, M.no, seqOf, cmpM, cmpD, cmpI, newT, newL, flatD, inD, eqF, fini, truthM, truth, Mi.isNon, bltD, tgt, setsR, wipeR, ptO, isiD, sizeLine, getL_app0, eqD_int, e0, e1, e2, hi0, w1, w5, wa, w70, hpar, itemsR3, compL_nil, compL_cons, hr0, hr1, hr2, ixN, idx_s0, idx_s1, idx_s2, enc]
      · refine ⟨.pick (markBy (x / 14)) p0 p1 p2, t3, ?_, j1, by simp [RP.all, f2, g2, j2], by simp [RP.dep]; omega⟩
        rw [← hgc t3 [.lst [], .lst [enc p0, enc p1, enc p2]]]
        simp [rest, sq2, fn__law_made, ex, ev, dst, den, denB, M.bnd, M.ret, M.no, seqOf, cmpM, cmpD, cmpI, newT, newL, flatD, inD, eqF, fini, truthM, truth, Mi.isNon, bltD, tgt, setsR, wipeR, ptO, isiD, sizeLine, getL_app0, eqD_int, e0, e1, e2, hi0, w1, w5, wa, w70, hpar, itemsR3, compL_nil, compL_cons, hr0, hr1, hr2, ixN, idx_s0, idx_s1, idx_s2, enc]
    by_cases w10 : x % 14 < 10
    · obtain ⟨p, t', hr, h1, h2, h3⟩ := hMs (d - 1) t1 [.lst []] c sc (by omega) (by omega) ht (hc2 _ _) hsc hl4
      refine ⟨.round p, t', ?_, h1, by simp [RP.all, h2], by simp [RP.dep]; omega⟩
      rw [← hgc t' [.lst []]]
      simp [rest, sq2, fn__law_made, ex, ev, dst, den, denB, M.bnd, M.ret, M.no, seqOf, cmpM, cmpD, cmpI, newT, newL, flatD, inD, eqF, fini, truthM, truth, Mi.isNon, bltD, tgt, setsR, wipeR, ptO, isiD, sizeLine, getL_app0, eqD_int, e0, e1, e2, hi0, w1, w5, wa, w70, w10, hr, enc]
    by_cases w12 : x % 14 < 12
    · obtain ⟨p, t', hr, h1, h2, h3⟩ := hGs (d - 1) t1 [.lst [], .lst [.str y], .lst (.str y :: sc.map .str)] (m.length + 2) y sc (by omega) (by omega) ht (by simp) hsy hl3
      refine ⟨.take (markBy (x / 14)) y p, t', ?_, h1, by simp [RP.all, hyo, h2], by simp [RP.dep]; omega⟩
      rw [← hgc t' [.lst [], .lst [.str y], .lst (.str y :: sc.map .str)]]
      simp [rest, sq2, fn__law_made, ex, ev, dst, den, denB, M.bnd, M.ret, M.no, seqOf, cmpM, cmpD, cmpI, newT, newL, flatD, inD, eqF, fini, truthM, truth, Mi.isNon, bltD, tgt, setsR, wipeR, ptO, isiD, sizeLine, getL_app0, eqD_int, e0, e1, e2, hi0, w1, w5, wa, w70, w10, w12, hadd, hr, enc]
    · obtain ⟨p, t', hr, h1, h2, h3⟩ := hMs (d - 1) t1 [.lst []] c sc (by omega) (by omega) ht (hc2 _ _) hsc hl4
      obtain ⟨q, t2, hr2, g1, g2, g3⟩ := hMs (d - 1) t' [.lst []] c sc (by omega) (by omega) h1 (hc2 _ _) hsc hl4
      by_cases h71 : x / 14 % 7 = 1
      · refine ⟨.call (markBy (x / 14)) p q, t2, ?_, g1, by simp [RP.all, h2, g2], by simp [RP.dep]; omega⟩
        rw [← hgc t2 [.lst []]]
        simp [rest, sq2, fn__law_made, ex, ev, dst, den, denB, M.bnd, M.ret, M.no, seqOf, cmpM, cmpD, cmpI, newT, newL, flatD, inD, eqF, fini, truthM, truth, Mi.isNon, bltD, tgt, setsR, wipeR, ptO, isiD, sizeLine, getL_app0, eqD_int, e0, e1, e2, hi0, w1, w5, wa, w70, w10, w12, h71, hr, hr2, enc]
      · refine ⟨.plus (markBy (x / 14)) p q, t2, ?_, g1, by simp [RP.all, h2, g2], by simp [RP.dep]; omega⟩
        rw [← hgc t2 [.lst []]]
        simp [rest, sq2, fn__law_made, ex, ev, dst, den, denB, M.bnd, M.ret, M.no, seqOf, cmpM, cmpD, cmpI, newT, newL, flatD, inD, eqF, fini, truthM, truth, Mi.isNon, bltD, tgt, setsR, wipeR, ptO, isiD, sizeLine, getL_app0, eqD_int, e0, e1, e2, hi0, w1, w5, wa, w70, w10, w12, h71, hr, hr2, enc]
theorem made_all {ns : List Int} (hn : ns.length ≤ 63) : ∀ n, MadeAt ns n
  | 0 => by
    intro d m k s c t sc hd hdn hk hs ht hc hsc hlen
    have d0 : d = 0 := by omega
    subst d0
    obtain ⟨k, rfl⟩ : ∃ k', k = k' + 2 := ⟨k - 2, by omega⟩
    rw [run_at tb__law_made (k + 1) rfl]
    obtain ⟨x, y, hx, hy, hp⟩ := made_pre (k := k) (d := 0) hn hs hc hsc
    have hsl := getL_lt hs
    have hc2 : ∀ o l, getL (m.set s o ++ l) c = some (sc.map .str) := fun o l => by rw [getL_old (by simpa using getL_lt hc), getL_set_ne (loc_ne hs hc)]; exact hc
    obtain ⟨p, hr, h1, h2⟩ := run_leaf (k := k) (m := m.set s (.lst [.int (t + 1)]) ++ [.lst []]) (i := x / 14) (hc2 _ _) hsc
    have hgc : ∀ t' l p, gc m (enc p) (m.set s (.lst [.int t']) ++ l) = (enc p, m.set s (.lst [.int t'])) := fun t' l p => gc_set (lt_enc _ p) (by simp) hsl
    refine ⟨p, t + 1, ?_, by omega, h1, by rw [bd_zero]; omega⟩
    refine (congrArg (fini m) hp).trans ?_
    simp [rest, sq2, fn__law_made, ex, ev, dst, den, denB, M.bnd, M.ret, M.no, seqOf, cmpM, cmpD, cmpI, newT, newL, flatD, inD, eqF, fini, truthM, truth, Mi.isNon, bltD, tgt, setsR, wipeR, ptO, isiD, sizeLine, getL_app0, eqD_int, hr, hgc]
  | n + 1 => by
    intro d m k s c t sc hd hdn hk hs ht hc hsc hlen
    obtain ⟨k, rfl⟩ : ∃ k', k = k' + 2 := ⟨k - 2, by omega⟩
    have hM := made_all hn n
    rw [run_at tb__law_made (k + 1) rfl]
    obtain ⟨x, y, hx, hy, hp⟩ := made_pre (k := k) (d := d) hn hs hc hsc
    have := made_rest hM (gone_of hn hM) (k := k) (t1 := t + 1) hd (by omega) (by omega) (getL_lt hs) (getL_lt hc) (by omega) (loc_ne hs hc) hc hsc hx hy hlen
    rw [← hp] at this
    exact this
end K2
namespace K2
open PySem PySem.Spec PyProof.Rows L2 Mi

theorem idx_n0 (m l : List SO) (a : D) (xs : List D) : idxD (.loc m.length) (.int 0) (m ++ .lst (a :: xs) :: l) = some (a, m ++ .lst (a :: xs) :: l) := idx_loc (xs := a :: xs) (by simp) (by decide) rfl
theorem idx_n1 (m l : List SO) (a b : D) (xs : List D) : idxD (.loc m.length) (.int 1) (m ++ .lst (a :: b :: xs) :: l) = some (b, m ++ .lst (a :: b :: xs) :: l) := idx_loc (xs := a :: b :: xs) (by simp) (by decide) rfl
theorem idx_tup {xs : List D} {i : Int} (m : List SO) (h0 : 0 ≤ i) {d : D} (hd : xs[i.toNat]? = some d) : idxD (.tup xs) (.int i) m = some (d, m) := by
  have hl : i.toNat < xs.length := by
    rcases Nat.lt_or_ge i.toNat xs.length with h1 | h1
    · exact h1
    · rw [List.getElem?_eq_none h1] at hd; cases hd
  unfold idxD
  simp only [seqOf]
  have e : atI xs i = some d := by
    unfold atI ixN
    rw [if_pos h0, if_pos (by omega)]
    exact hd
  rw [e]
theorem idx_t0 (m : List SO) (a : D) (xs : List D) : idxD (.tup (a :: xs)) (.int 0) m = some (a, m) := idx_tup m (by decide) rfl
theorem idx_t1 (m : List SO) (a b : D) (xs : List D) : idxD (.tup (a :: b :: xs)) (.int 1) m = some (b, m) := idx_tup m (by decide) rfl
theorem idx_t2 (m : List SO) (a b c : D) (xs : List D) : idxD (.tup (a :: b :: c :: xs)) (.int 2) m = some (c, m) := idx_tup m (by decide) rfl
theorem idx_t3 (m : List SO) (a b c d : D) (xs : List D) : idxD (.tup (a :: b :: c :: d :: xs)) (.int 3) m = some (d, m) := idx_tup m (by decide) rfl
theorem slc_t2 (m : List SO) (a b : D) (xs : List D) : slcD (some 2) none (.tup (a :: b :: xs)) m = some (.tup xs, m) := by
  show some (D.tup (cut (a :: b :: xs) (some 2) none), m) = _
  have e : cut (a :: b :: xs) (some 2) none = xs := by
    unfold cut
    have h : HT.sIx (a :: b :: xs).length 0 (some 2) = 2 := by
      have := HT.sIx_nat (a :: b :: xs).length 0 2
      rw [show ((2 : Nat) : Int) = 2 from rfl] at this
      rw [this]; simp
    rw [h, HT.sIx_none]
    simp
  rw [e]
theorem itemsT (m : List SO) (ys : List D) : itemsD .one [.tup ys] m = some ((ys, none), m) := rfl
set_option maxHeartbeats 4000000 in
theorem run_lput {x : Str} (hx : PyData.strOk x = true) (v : RP) : ∀ (p : RP) {k : Nat} {m : List SO}, p.sok = true → p.dp ≤ k → run tb (k + 2) "_law_put" [enc p, .str x, enc v] m = some (enc (RP.put x v p), m)
  | .num i, k, m, hs, hd => by
    rw [run_at tb__law_put (k + 1) rfl]
    have hv := run_value (m := m) (k := k) (.num i)
    simp [enc, RP.isVal] at hv
    simp [fn__law_put, ex, ev, dst, den, denB, M.bnd, M.ret, M.no, seqOf, cmpM, cmpD, cmpI, newT, newL, flatD, inD, eqF, fini, truthM, truth, Mi.isNon, bltD, tgt, setsR, wipeR, ptO, isiD, sizeLine, getL_app0, hv, RP.put, enc, gc_same]
  | .shut a y b, k, m, hs, hd => by
    rw [run_at tb__law_put (k + 1) rfl]
    have hv := run_value (m := m) (k := k) (.shut a y b)
    simp [enc, RP.isVal] at hv
    simp [fn__law_put, ex, ev, dst, den, denB, M.bnd, M.ret, M.no, seqOf, cmpM, cmpD, cmpI, newT, newL, flatD, inD, eqF, fini, truthM, truth, Mi.isNon, bltD, tgt, setsR, wipeR, ptO, isiD, sizeLine, getL_app0, hv, RP.put, enc, gc_same, lt_enc]
  | .kept a fs, k, m, hs, hd => by
    rw [run_at tb__law_put (k + 1) rfl]
    have hv := run_value (m := m) (k := k) (.kept a fs)
    simp [enc, RP.isVal] at hv
    simp [fn__law_put, ex, ev, dst, den, denB, M.bnd, M.ret, M.no, seqOf, cmpM, cmpD, cmpI, newT, newL, flatD, inD, eqF, fini, truthM, truth, Mi.isNon, bltD, tgt, setsR, wipeR, ptO, isiD, sizeLine, getL_app0, hv, RP.put, enc, gc_same, lt_encFs]
  | .name y, k, m, hs, hd => by
    have hy : PyData.strOk y = true := hs
    rw [run_at tb__law_put (k + 1) rfl]
    have hv := run_value (m := m) (k := k) (.name y)
    simp [enc, RP.isVal] at hv
    by_cases e : (y == x) = true
    · simp [fn__law_put, ex, ev, dst, den, denB, M.bnd, M.ret, M.no, seqOf, cmpM, cmpD, cmpI, newT, newL, flatD, inD, eqF, fini, truthM, truth, Mi.isNon, bltD, tgt, setsR, wipeR, ptO, isiD, sizeLine, getL_app0, enc, eqD_str, RP.put, hx, hy, e, lt_enc, hv, gc_app, idx_t0, idx_t1, idx_n0, idx_n1]
    · simp [fn__law_put, ex, ev, dst, den, denB, M.bnd, M.ret, M.no, seqOf, cmpM, cmpD, cmpI, newT, newL, flatD, inD, eqF, fini, truthM, truth, Mi.isNon, bltD, tgt, setsR, wipeR, ptO, isiD, sizeLine, getL_app0, enc, eqD_str, RP.put, hx, hy, e, lt_enc, hv, gc_app, idx_t0, idx_t1, idx_n0, idx_n1]
  | .fun_ a y b, k, m, hs, hd => by
    have hs' : PyData.strOk y = true ∧ b.sok = true := by simpa [RP.sok] using hs
    rw [run_at tb__law_put (k + 1) rfl]
    have hv := run_value (m := m) (k := k) (.fun_ a y b)
    simp [enc, RP.isVal] at hv
    cases k with
    | zero => simp [RP.dp] at hd
    | succ k =>
      have ih : ∀ m, run tb (k + 2) "_law_put" [enc b, .str x, enc v] m = some (enc (RP.put x v b), m) := fun m => run_lput hx v b hs'.2 (by simpa [RP.dp] using hd)
      by_cases e : (y == x) = true
      · simp [fn__law_put, ex, ev, dst, den, denB, M.bnd, M.ret, M.no, seqOf, cmpM, cmpD, cmpI, newT, newL, flatD, inD, eqF, fini, truthM, truth, Mi.isNon, bltD, tgt, setsR, wipeR, ptO, isiD, sizeLine, getL_app0, enc, eqD_str, RP.put, hx, hs'.1, e, lt_enc, hv, gc_same, idx_t0, idx_t1, idx_t2, idx_t3]
      · simp [fn__law_put, ex, ev, dst, den, denB, M.bnd, M.ret, M.no, seqOf, cmpM, cmpD, cmpI, newT, newL, flatD, inD, eqF, fini, truthM, truth, Mi.isNon, bltD, tgt, setsR, wipeR, ptO, isiD, sizeLine, getL_app0, enc, eqD_str, RP.put, hx, hs'.1, e, lt_enc, ih, hv, gc_same, idx_t0, idx_t1, idx_t2, idx_t3]
  | .take a y b, k, m, hs, hd => by
    have hs' : PyData.strOk y = true ∧ b.sok = true := by simpa [RP.sok] using hs
    rw [run_at tb__law_put (k + 1) rfl]
    have hv := run_value (m := m) (k := k) (.take a y b)
    simp [enc, RP.isVal] at hv
    cases k with
    | zero => simp [RP.dp] at hd
    | succ k =>
      have ih : ∀ m, run tb (k + 2) "_law_put" [enc b, .str x, enc v] m = some (enc (RP.put x v b), m) := fun m => run_lput hx v b hs'.2 (by simpa [RP.dp] using hd)
      by_cases e : (y == x) = true
      · simp [fn__law_put, ex, ev, dst, den, denB, M.bnd, M.ret, M.no, seqOf, cmpM, cmpD, cmpI, newT, newL, flatD, inD, eqF, fini, truthM, truth, Mi.isNon, bltD, tgt, setsR, wipeR, ptO, isiD, sizeLine, getL_app0, enc, eqD_str, RP.put, hx, hs'.1, e, lt_enc, hv, gc_same, idx_t0, idx_t1, idx_t2, idx_t3]
      · simp [fn__law_put, ex, ev, dst, den, denB, M.bnd, M.ret, M.no, seqOf, cmpM, cmpD, cmpI, newT, newL, flatD, inD, eqF, fini, truthM, truth, Mi.isNon, bltD, tgt, setsR, wipeR, ptO, isiD, sizeLine, getL_app0, enc, eqD_str, RP.put, hx, hs'.1, e, lt_enc, ih, hv, gc_same, idx_t0, idx_t1, idx_t2, idx_t3]
  | .round b, k, m, hs, hd => by
    rw [run_at tb__law_put (k + 1) rfl]
    have hv := run_value (m := m) (k := k) (.round b)
    simp [enc, RP.isVal] at hv
    cases k with
    | zero => simp [RP.dp] at hd
    | succ k =>
      have ih : ∀ m, run tb (k + 2) "_law_put" [enc b, .str x, enc v] m = some (enc (RP.put x v b), m) := fun m => run_lput hx v b (by simpa [RP.sok] using hs) (by simpa [RP.dp] using hd)
      simp [fn__law_put, ex, ev, dst, den, denB, M.bnd, M.ret, M.no, seqOf, cmpM, cmpD, cmpI, newT, newL, flatD, inD, eqF, fini, truthM, truth, Mi.isNon, bltD, tgt, setsR, wipeR, ptO, isiD, sizeLine, getL_app0, enc, eqD_str, RP.put, lt_enc, ih, hv, gc_same, idx_t0, idx_t1, idx_t2, idx_t3]
  | .call a f g, k, m, hs, hd => by
    have hs' : f.sok = true ∧ g.sok = true := by simpa [RP.sok] using hs
    rw [run_at tb__law_put (k + 1) rfl]
    have hv := run_value (m := m) (k := k) (.call a f g)
    simp [enc, RP.isVal] at hv
    cases k with
    | zero => simp [RP.dp] at hd
    | succ k =>
      have hd' : max f.dp g.dp ≤ k := by simpa [RP.dp] using hd
      have i1 : ∀ m, run tb (k + 2) "_law_put" [enc f, .str x, enc v] m = some (enc (RP.put x v f), m) := fun m => run_lput hx v f hs'.1 (by omega)
      have i2 : ∀ m, run tb (k + 2) "_law_put" [enc g, .str x, enc v] m = some (enc (RP.put x v g), m) := fun m => run_lput hx v g hs'.2 (by omega)
      simp [fn__law_put, ex, ev, dst, den, denB, M.bnd, M.ret, M.no, seqOf, cmpM, cmpD, cmpI, newT, newL, flatD, inD, eqF, fini, truthM, truth, Mi.isNon, bltD, tgt, setsR, wipeR, ptO, isiD, sizeLine, getL_app0, enc, eqD_str, RP.put, lt_enc, i1, i2, hv, gc_app, idx_t0, idx_t1, idx_t2, idx_t3, slc_t2, itemsT, compL_nil, compL_cons]
  | .plus a f g, k, m, hs, hd => by
    have hs' : f.sok = true ∧ g.sok = true := by simpa [RP.sok] using hs
    rw [run_at tb__law_put (k + 1) rfl]
    have hv := run_value (m := m) (k := k) (.plus a f g)
    simp [enc, RP.isVal] at hv
    cases k with
    | zero => simp [RP.dp] at hd
    | succ k =>
      have hd' : max f.dp g.dp ≤ k := by simpa [RP.dp] using hd
      have i1 : ∀ m, run tb (k + 2) "_law_put" [enc f, .str x, enc v] m = some (enc (RP.put x v f), m) := fun m => run_lput hx v f hs'.1 (by omega)
      have i2 : ∀ m, run tb (k + 2) "_law_put" [enc g, .str x, enc v] m = some (enc (RP.put x v g), m) := fun m => run_lput hx v g hs'.2 (by omega)
      simp [fn__law_put, ex, ev, dst, den, denB, M.bnd, M.ret, M.no, seqOf, cmpM, cmpD, cmpI, newT, newL, flatD, inD, eqF, fini, truthM, truth, Mi.isNon, bltD, tgt, setsR, wipeR, ptO, isiD, sizeLine, getL_app0, enc, eqD_str, RP.put, lt_enc, i1, i2, hv, gc_app, idx_t0, idx_t1, idx_t2, idx_t3, slc_t2, itemsT, compL_nil, compL_cons]
  | .pick a c f g, k, m, hs, hd => by
    have hs' : (c.sok = true ∧ f.sok = true) ∧ g.sok = true := by simpa [RP.sok] using hs
    rw [run_at tb__law_put (k + 1) rfl]
    have hv := run_value (m := m) (k := k) (.pick a c f g)
    simp [enc, RP.isVal] at hv
    cases k with
    | zero => simp [RP.dp] at hd
    | succ k =>
      have hd' : max c.dp (max f.dp g.dp) ≤ k := by simpa [RP.dp] using hd
      have i0 : ∀ m, run tb (k + 2) "_law_put" [enc c, .str x, enc v] m = some (enc (RP.put x v c), m) := fun m => run_lput hx v c hs'.1.1 (by omega)
      have i1 : ∀ m, run tb (k + 2) "_law_put" [enc f, .str x, enc v] m = some (enc (RP.put x v f), m) := fun m => run_lput hx v f hs'.1.2 (by omega)
      have i2 : ∀ m, run tb (k + 2) "_law_put" [enc g, .str x, enc v] m = some (enc (RP.put x v g), m) := fun m => run_lput hx v g hs'.2 (by omega)
      simp [fn__law_put, ex, ev, dst, den, denB, M.bnd, M.ret, M.no, seqOf, cmpM, cmpD, cmpI, newT, newL, flatD, inD, eqF, fini, truthM, truth, Mi.isNon, bltD, tgt, setsR, wipeR, ptO, isiD, sizeLine, getL_app0, enc, eqD_str, RP.put, lt_enc, i0, i1, i2, hv, gc_app, idx_t0, idx_t1, idx_t2, idx_t3, slc_t2, itemsT, compL_nil, compL_cons]
end K2
namespace K2
open PySem PySem.Spec PyProof.Rows L2 Mi

theorem itemsR4 (m : List SO) : itemsD .rng1 [.int 4] m = some (([.int 0, .int 1, .int 2, .int 3], none), m) := by
  rw [itemsR (by decide)]; rfl
theorem itemsR2 (m : List SO) : itemsD .rng1 [.int 2] m = some (([.int 0, .int 1], none), m) := by
  rw [itemsR (by decide)]; rfl
theorem nm_len {x : Str} (h : Nm x) : x.length ≤ 16777216 := by have := h.2.2; omega
theorem idx_c0 (l : List SO) (a : D) (xs : List D) : idxD (.loc 0) (.int 0) (.lst (a :: xs) :: l) = some (a, .lst (a :: xs) :: l) := idx_loc (xs := a :: xs) rfl (by decide) rfl
theorem idx_c1 (l : List SO) (a b : D) (xs : List D) : idxD (.loc 0) (.int 1) (.lst (a :: b :: xs) :: l) = some (b, .lst (a :: b :: xs) :: l) := idx_loc (xs := a :: b :: xs) rfl (by decide) rfl
theorem bin_q {x y : Str} (m : List SO) (h : x.length + y.length ≤ 100) : binD .add (.str x) (.str y) m = some (.str (x ++ y), m) := bin_strs m (by omega)
theorem len_str {x : Str} (m : List SO) (h : Nm x) : bltD .len [.str x] m = some (.int x.length, m) := if_pos (nm_len h)
theorem slc_nm {z : Str} {lo hi : Option Int} (m : List SO) (h : z.length ≤ 100) : slcD lo hi (.str z) m = some (.str (cutS z lo hi), m) := slc_str m (by omega)
def lrest : Sm := sq2 (sq2 (sq2 fn_law.body))
theorem law_body : fn_law.body = .seq (sq1 fn_law.body) (.seq (sq1 (sq2 fn_law.body)) (.seq (sq1 (sq2 (sq2 fn_law.body))) lrest)) := rfl
theorem low_q : Low (Str.ofString "q") := by
  intro c hc
  have e : (Str.ofString "q").cps.toList = [113] := by decide +kernel
  rw [e] at hc
  have : c = 113 := by simpa using hc
  omega
theorem nm_z : Nm (Str.ofString "z") := by
  refine ⟨?_, by decide, by decide⟩
  intro c hc
  have e : (Str.ofString "z").cps.toList = [122] := by decide +kernel
  rw [e] at hc
  have : c = 122 := by simpa using hc
  omega
set_option maxHeartbeats 8000000 in
theorem law_pre {ns : List Int} (hn : ns.length ≤ 63) {k : Nat} :
    ∃ x n0 n1 n2 n3 r3 r4, 0 ≤ x ∧ Nm n0 ∧ Nm n1 ∧ Nm n2 ∧ Nm n3 ∧
      (ex (k + 1) (run tb (k + 1)) fn_law.body).x [some (.fz (ns.map .int)), none, none, none, none, none, none, none, none, none, none, none, none] []
      = (ex (k + 1) (run tb (k + 1)) lrest).x [some (.fz (ns.map .int)), some (.int x), some (.loc 0), r3, r4, none, none, none, none, none, none, none, none] [.lst [.str n0, .str n1, .str n2, .str n3]] := by
  have hcell : ∀ j M, 0 ≤ j → run tb (k + 1) "_law_cell_at" [.fz (ns.map .int), .int j] M = some (.int (cell ns j), M) := fun j M h => run_cell hn h
  have hmix : ∀ i M, run tb (k + 1) "_law_mixed" [.int i] M = some (.int (mixed i), M) := fun i M => run_mixed i
  obtain ⟨x, hx⟩ : ∃ x, x = mixed (cell ns 0) := ⟨_, rfl⟩
  have hx0 : 0 ≤ x := by rw [hx]; exact mixed_lo _
  obtain ⟨n0, h0, e0⟩ := run_name (m := [.lst []]) (k := k) (mixed_lo (cell ns 1))
  obtain ⟨n1, h1, e1⟩ := run_name (m := [.lst [.str n0]]) (k := k) (mixed_lo (cell ns 1 + 1))
  obtain ⟨n2, h2, e2⟩ := run_name (m := [.lst [.str n0, .str n1]]) (k := k) (mixed_lo (cell ns 1 + 2))
  obtain ⟨n3, h3, e3⟩ := run_name (m := [.lst [.str n0, .str n1, .str n2]]) (k := k) (mixed_lo (cell ns 1 + 3))
  by_cases hodd : x % 2 = 1
  · obtain ⟨at_, hat⟩ : ∃ at_, at_ = x / 2 % (n0.length : Int) := ⟨_, rfl⟩
    have hat2 := mod_lt (x / 2) e0.2.1
    rw [← hat] at hat2
    have hz : 0 ≤ x / 16 % 26 ∧ x / 16 % 26 < 26 := by omega
    have hia := idx_alpha hz.1 hz.2
    have hl8 := e0.2.2
    have hl0 := e0.2.1
    have l1 := len_cutTo (a := n0) (i := at_) hat2.1 (by omega)
    have l2 := len_cutFrom (a := n0) (i := at_ + 1) (by omega) (by omega)
    have hlow : Low (sg (97 + (x / 16 % 26).toNat)) := Low.one (by omega)
    have b1 : ∀ M, binD .add (.str (cutS n0 none (some at_))) (.str (sg (97 + (x / 16 % 26).toNat))) M = some (.str (cutS n0 none (some at_) ++ sg (97 + (x / 16 % 26).toNat)), M) := fun M => bin_q M (by simp; omega)
    have b2 : ∀ M, binD .add (.str (cutS n0 none (some at_) ++ sg (97 + (x / 16 % 26).toNat))) (.str (cutS n0 (some (at_ + 1)) none)) M = some (.str (cutS n0 none (some at_) ++ sg (97 + (x / 16 % 26).toNat) ++ cutS n0 (some (at_ + 1)) none), M) := fun M => bin_q M (by simp; omega)
    have lq : (Str.ofString "q").length = 1 := by decide
    have b3 : ∀ M, binD .add (.str n0) (.str (Str.ofString "q")) M = some (.str (n0 ++ Str.ofString "q"), M) := fun M => bin_q M (by rw [lq]; omega)
    have s1 : ∀ lo hi M, slcD lo hi (.str n0) M = some (.str (cutS n0 lo hi), M) := fun lo hi M => slc_nm M (by omega)
    have s2 : ∀ lo hi M, slcD lo hi (.str (n0 ++ Str.ofString "q")) M = some (.str (cutS (n0 ++ Str.ofString "q") lo hi), M) := fun lo hi M => slc_nm M (by simp [lq]; omega)
    have hlen : n0.length ≤ 16777216 := by omega
    have hbm : ∀ M, binD .mod (.int (x / 2)) (.int n0.length) M = some (.int at_, M) := fun M => by rw [hat]; exact bin_mod M (by omega)
    have m1 : Nm (cutS n0 none (some at_) ++ sg (97 + (x / 16 % 26).toNat) ++ cutS n0 (some (at_ + 1)) none) := ⟨((e0.1.cut _ _).app hlow).app (e0.1.cut _ _), by simp; omega, by simp; omega⟩
    have m2 : Nm (cutS (n0 ++ Str.ofString "q") none (some 8)) := by
      refine ⟨(e0.1.app low_q).cut _ _, ?_, ?_⟩
      all_goals
        by_cases h : (8 : Int) ≤ (n0 ++ Str.ofString "q").length
        · rw [len_cutTo (by decide) h]; decide
        · unfold cutS
          rw [len_cps]
          rw [HT.sIx_none, show (some (8 : Int)) = some ((8 : Nat) : Int) from rfl, HT.sIx_nat]
          have hw : (n0 ++ Str.ofString "q").cps.toList.length = (n0 ++ Str.ofString "q").length := (len_cps _).symm
          have hw2 : (n0 ++ Str.ofString "q").length = n0.length + 1 := by simp [lq]
          simp
          simp at hw
          omega
    have hc3 := len_cutLast (a := n0)
    obtain ⟨n3', e3', hor⟩ : ∃ n3', Nm n3' ∧ (if ((cutS n0 none (some (-1))).length : Int) ≠ 0 then cutS n0 none (some (-1)) else Str.ofString "z") = n3' := by
      by_cases h : ((cutS n0 none (some (-1))).length : Int) ≠ 0
      · exact ⟨_, ⟨e0.1.cut _ _, by omega, by omega⟩, if_pos h⟩
      · exact ⟨_, nm_z, if_neg h⟩
    refine ⟨x, n0, _, _, n3', some (.int at_), some (.str (sg (97 + (x / 16 % 26).toNat))), hx0, e0, m1, m2, e3', ?_⟩
    rw [law_body]
    have hcl : (cutS n0 none (some (-1))).length ≤ 16777216 := by omega
    by_cases h : (cutS n0 none (some (-1))).length = 0
    · have hor : Str.ofString "z" = n3' := by rw [← hor, if_neg (by omega)]
      simp [sq1, sq2, fn_law, ex, ev, dst, den, denB, M.bnd, M.ret, M.no, seqOf, cmpM, cmpD, cmpI, newT, newL, flatD, inD, eqF, fini, truthM, truth, Mi.isNon, bltD, tgt, setsR, wipeR, ptO, isiD, sizeLine, getL_app0, eqD_int, hcell, hmix, ← hx, itemsR4, compL_nil, compL_cons, h0, h1, h2, h3, hodd, hia, b1, b2, b3, s1, s2, hlen, hbm, ixN, idx_c0, hcl, h, hor]
    · have hor : cutS n0 none (some (-1)) = n3' := by rw [← hor, if_pos (by omega)]
      rw [hor] at h hcl
      simp [sq1, sq2, fn_law, ex, ev, dst, den, denB, M.bnd, M.ret, M.no, seqOf, cmpM, cmpD, cmpI, newT, newL, flatD, inD, eqF, fini, truthM, truth, Mi.isNon, bltD, tgt, setsR, wipeR, ptO, isiD, sizeLine, getL_app0, eqD_int, hcell, hmix, ← hx, itemsR4, compL_nil, compL_cons, h0, h1, h2, h3, hodd, hia, b1, b2, b3, s1, s2, hlen, hbm, ixN, idx_c0, hcl, h, hor]
  · refine ⟨x, n0, n1, n2, n3, none, none, hx0, e0, e1, e2, e3, ?_⟩
    rw [law_body]
    simp [sq1, sq2, fn_law, ex, ev, dst, den, denB, M.bnd, M.ret, M.no, seqOf, cmpM, cmpD, cmpI, newT, newL, flatD, inD, eqF, fini, truthM, truth, Mi.isNon, bltD, tgt, setsR, wipeR, ptO, isiD, sizeLine, getL_app0, eqD_int, hcell, hmix, ← hx, itemsR4, compL_nil, compL_cons, h0, h1, h2, h3, hodd]
end K2
namespace K2
open PySem PySem.Spec PyProof.Rows L2 Mi

theorem gc_nil {M : List SO} {d : D} (h : ltD 0 d = true) : gc [] d M = (d, []) := gc_app (m := []) (l := M) h
theorem dep_pos (p : RP) : 1 ≤ p.dep := by
  cases p <;> simp [RP.dep] <;> omega
def fargs : Ex := match sq1 (sq2 lrest) with
  | .for_ _ _ a _ => a
  | _ => .nil
def fbody : Sm := match sq1 (sq2 lrest) with
  | .for_ _ _ _ b => b
  | _ => .pass
def lrest2 : Sm := sq2 (sq2 lrest)
theorem lrest_eq : lrest = .seq (sq1 lrest) (.seq (.for_ (.nm 6) .rng1 fargs fbody) lrest2) := rfl
theorem slc_l3 (a b c d : D) (l : List SO) : slcD none (some 3) (.loc 0) (SO.lst [a, b, c, d] :: l) = some (.loc (l.length + 1), SO.lst [a, b, c, d] :: (l ++ [SO.lst [a, b, c]])) := by
  show (match getL (SO.lst [a, b, c, d] :: l) 0 with
    | some xs => some (D.loc (SO.lst [a, b, c, d] :: l).length, (SO.lst [a, b, c, d] :: l) ++ [SO.lst (cut xs none (some 3))])
    | none => none) = _
  rw [getL_cons0]
  rfl
theorem idx_4 {n0 n1 n2 n3 : Str} (h0 : Nm n0) (h1 : Nm n1) (h2 : Nm n2) (h3 : Nm n3) {i : Int} (hi : 0 ≤ i) (hi4 : i < 4) : ∃ v, (∀ l, idxD (.loc 0) (.int i) (.lst [.str n0, .str n1, .str n2, .str n3] :: l) = some (.str v, .lst [.str n0, .str n1, .str n2, .str n3] :: l)) ∧ Nm v := by
  have : i = 0 ∨ i = 1 ∨ i = 2 ∨ i = 3 := by omega
  rcases this with rfl | rfl | rfl | rfl
  · exact ⟨n0, fun l => idx_loc (xs := [.str n0, .str n1, .str n2, .str n3]) rfl (by decide) rfl, h0⟩
  · exact ⟨n1, fun l => idx_loc (xs := [.str n0, .str n1, .str n2, .str n3]) rfl (by decide) rfl, h1⟩
  · exact ⟨n2, fun l => idx_loc (xs := [.str n0, .str n1, .str n2, .str n3]) rfl (by decide) rfl, h2⟩
  · exact ⟨n3, fun l => idx_loc (xs := [.str n0, .str n1, .str n2, .str n3]) rfl (by decide) rfl, h3⟩
theorem for_plus {f : D → MS} {E : RP → Option D → Rho} {S : List SO}
    (hf : ∀ (j : Nat) p r6, p.all = true → ∃ q, f (.int j) (E p r6) S = some ((.nx, E q (some (.int j))), S) ∧ q.all = true ∧ q.dep ≤ p.dep + 1) :
    ∀ (js : List Nat) p r6, p.all = true → ∃ q r6', forL f none (js.map fun (i : Nat) => D.int i) (E p r6) S = some ((.nx, E q r6'), S) ∧ q.all = true ∧ q.dep ≤ p.dep + js.length
  | [], p, r6, hp => ⟨p, r6, by simp [forL, Still], hp, by simp⟩
  | j :: js, p, r6, hp => by
    obtain ⟨q, h1, h2, h3⟩ := hf j p r6 hp
    obtain ⟨q2, r6', g1, g2, g3⟩ := for_plus hf js q (some (.int j)) h2
    refine ⟨q2, r6', ?_, g2, by simp; omega⟩
    simp [forL, Still, h1, g1]
theorem idx_18 {i : Int} (hi : 0 ≤ i) (hi4 : i < 4) (a b c : SO) : ∃ j : Int, idxD (.loc 3) (.int i) [a, b, c, .lst [.int 0, .int 0, .int 1, .int 18]] = some (.int j, [a, b, c, .lst [.int 0, .int 0, .int 1, .int 18]]) ∧ 0 ≤ j ∧ j ≤ 18 := by
  have : i = 0 ∨ i = 1 ∨ i = 2 ∨ i = 3 := by omega
  rcases this with rfl | rfl | rfl | rfl
  · exact ⟨0, idx_loc (xs := [.int 0, .int 0, .int 1, .int 18]) rfl (by decide) rfl, by decide, by decide⟩
  · exact ⟨0, idx_loc (xs := [.int 0, .int 0, .int 1, .int 18]) rfl (by decide) rfl, by decide, by decide⟩
  · exact ⟨1, idx_loc (xs := [.int 0, .int 0, .int 1, .int 18]) rfl (by decide) rfl, by decide, by decide⟩
  · exact ⟨18, idx_loc (xs := [.int 0, .int 0, .int 1, .int 18]) rfl (by decide) rfl, by decide, by decide⟩
set_option maxHeartbeats 8000000 in
theorem law_rest {ns : List Int} (hn : ns.length ≤ 63) {x : Int} {n0 n1 n2 n3 : Str} {r3 r4 : Option D} (hx : 0 ≤ x) (h0 : Nm n0) (h1 : Nm n1) (h2 : Nm n2) (h3 : Nm n3) :
    fini [] ((ex 199 (run tb 199) lrest).x [some (.fz (ns.map .int)), some (.int x), some (.loc 0), r3, r4, none, none, none, none, none, none, none, none] [.lst [.str n0, .str n1, .str n2, .str n3]]) = some (.bl true, []) := by
  have hcell : ∀ j M, 0 ≤ j → run tb 199 "_law_cell_at" [.fz (ns.map .int), .int j] M = some (.int (cell ns j), M) := fun j M h => run_cell hn h
  have hmix : ∀ i M, run tb 199 "_law_mixed" [.int i] M = some (.int (mixed i), M) := fun i M => run_mixed i
  obtain ⟨p, t, hp, ht, hpa, hpd⟩ := made_all hn 7 (1 + x % 7) [.lst [.str n0, .str n1, .str n2, .str n3], .lst [.int 4], .lst [.str n0, .str n1, .str n2]] 199 1 2 4 [n0, n1, n2] (by omega) (by omega) (by omega) rfl (by decide) rfl (by
    intro z hz
    simp at hz
    rcases hz with rfl | rfl | rfl <;> assumption) (by simp)
  have hb := bd_pos (d := 1 + x % 7) (by omega)
  have hp9 : p.dep ≤ 9 := by omega
  simp at hp
  obtain ⟨j, hj, hj0, hj1⟩ := idx_18 (i := x / 7 % 4) (by omega) (by omega) (.lst [.str n0, .str n1, .str n2, .str n3]) (.lst [.int t]) (.lst [.str n0, .str n1, .str n2])
  have hir := fun M => itemsR (j := j) (m := M) (by omega)
  obtain ⟨q, r6, hf, hqa, hqd⟩ := for_plus (f := fun d r m => (ex 199 (run tb 199) fbody).x (r.set 6 (some d)) m)
    (E := fun p r6 => [some (.fz (ns.map .int)), some (.int x), some (.loc 0), r3, r4, some (enc p), r6, none, none, none, none, none, none])
    (S := [.lst [.str n0, .str n1, .str n2, .str n3], .lst [.int t], .lst [.str n0, .str n1, .str n2], .lst [.int 0, .int 0, .int 1, .int 18]])
    (by
      intro j p r6 hp
      obtain ⟨v, hv, hvn⟩ := idx_4 h0 h1 h2 h3 (i := (j : Int) % 3) (by omega) (by omega)
      have hvo := hvn.sok
      refine ⟨.plus (markBy (x + j)) (.name v) p, ?_, by simp [RP.all, hvo, hp], ?_⟩
      · have hmk : ∀ i M, run tb 199 "_law_mark_by" [.int i] M = some (.int (markBy i), M) := fun i M => run_mark
        simp [fbody, lrest, sq1, sq2, fn_law, ex, ev, dst, den, denB, M.bnd, M.ret, M.no, seqOf, cmpM, cmpD, cmpI, newT, newL, flatD, inD, eqF, fini, truthM, truth, Mi.isNon, bltD, tgt, setsR, wipeR, ptO, isiD, sizeLine, getL_app0, hmk, hv, enc]
      · have := dep_pos p
        simp [RP.dep]; omega) (List.range j.toNat) p none hpa
  have hq27 : q.dep ≤ 27 := by simp at hqd; omega
  have hm0 := mixed_lo (cell ns 2)
  have hm1 := mixed_lo (cell ns 2 + 1)
  obtain ⟨v0, hv0, a0, b0, c0⟩ := run_value_by (k := 198) (m := [.lst [.str n0, .str n1, .str n2, .str n3], .lst [.int t], .lst [.str n0, .str n1, .str n2], .lst [.int 0, .int 0, .int 1, .int 18], .lst []]) (i := mixed (cell ns 2)) (x := n0) ⟨mixed_lo _, mixed_hi _⟩ h0.sok
  obtain ⟨v1, hv1, a1, b1, c1⟩ := run_value_by (k := 198) (m := [.lst [.str n0, .str n1, .str n2, .str n3], .lst [.int t], .lst [.str n0, .str n1, .str n2], .lst [.int 0, .int 0, .int 1, .int 18], .lst [enc v0]]) (i := mixed (cell ns 2 + 1)) (x := n1) ⟨mixed_lo _, mixed_hi _⟩ h1.sok
  obtain ⟨na, hna, hnan⟩ := idx_4 h0 h1 h2 h3 (i := x / 28 % 4) (by omega) (by omega)
  obtain ⟨nb, hnb, hnbn⟩ := idx_4 h0 h1 h2 h3 (i := x / 112 % 4) (by omega) (by omega)
  have hqs := q.all_sok hqa
  have hqdp := q.dep_dp
  have r1a := RP.all_put (x := na) a0 q hqa
  have r1d := RP.dep_put (x := na) (v := v0) q
  have r2a := RP.all_put (x := nb) a1 _ r1a
  have r2d := RP.dep_put (x := nb) (v := v1) (RP.put na v0 q)
  have r1dp := (RP.put na v0 q).dep_dp
  have hput : ∀ M, run tb 199 "put_in" [enc q, .str na, enc v0] M = some (enc (RP.put na v0 q), M) := fun M => run_put hnan.sok v0 q hqs (by omega)
  have hlput : ∀ M, run tb 199 "_law_put" [enc q, .str na, enc v0] M = some (enc (RP.put na v0 q), M) := fun M => run_lput hnan.sok v0 q hqs (by omega)
  have hput2 : ∀ M, run tb 199 "put_in" [enc (RP.put na v0 q), .str nb, enc v1] M = some (enc (RP.put nb v1 (RP.put na v0 q)), M) := fun M => run_put hnbn.sok v1 _ (RP.all_sok _ r1a) (by omega)
  have hlput2 : ∀ M, run tb 199 "_law_put" [enc (RP.put na v0 q), .str nb, enc v1] M = some (enc (RP.put nb v1 (RP.put na v0 q)), M) := fun M => run_lput hnbn.sok v1 _ (RP.all_sok _ r1a) (by omega)
  have q0 : ∀ M, eqD 199 M (enc q) (enc q) = some true := fun M => eqD_enc hqa (by omega)
  have q1 : ∀ M, eqD 199 M (enc (RP.put na v0 q)) (enc (RP.put na v0 q)) = some true := fun M => eqD_enc r1a (by omega)
  have q2 : ∀ M, eqD 199 M (enc (RP.put nb v1 (RP.put na v0 q))) (enc (RP.put nb v1 (RP.put na v0 q))) = some true := fun M => eqD_enc r2a (by omega)
  rw [lrest_eq]
  simp [sq1, lrest, sq2, fn_law, ex, ev, dst, den, denB, M.bnd, M.ret, M.no, seqOf, cmpM, cmpD, cmpI, newT, newL, flatD, inD, eqF, fini, truthM, truth, Mi.isNon, bltD, tgt, setsR, wipeR, ptO, isiD, sizeLine, getL_app0, slc_l3, hp, fargs, hj, hir, hf]
  simp only [Nat.reduceAdd] at hv0 hv1
  have w0 : ∀ a b c d, idxD (.loc 4) (.int 0) [a, b, c, d, SO.lst [enc v0, enc v1]] = some (enc v0, [a, b, c, d, SO.lst [enc v0, enc v1]]) := fun a b c d => idx_loc (xs := [enc v0, enc v1]) rfl (by decide) rfl
  have w1 : ∀ a b c d, idxD (.loc 4) (.int 1) [a, b, c, d, SO.lst [enc v0, enc v1]] = some (enc v1, [a, b, c, d, SO.lst [enc v0, enc v1]]) := fun a b c d => idx_loc (xs := [enc v0, enc v1]) rfl (by decide) rfl
  simp [lrest2, lrest, sq2, fn_law, ex, ev, dst, den, denB, M.bnd, M.ret, M.no, seqOf, cmpM, cmpD, cmpI, newT, newL, flatD, inD, eqF, fini, truthM, truth, Mi.isNon, bltD, tgt, setsR, wipeR, ptO, isiD, sizeLine, getL_app0, hcell, hmix, itemsR2, compL_nil, compL_cons, getL, idx_c0, idx_c1, hv0, hv1, hna, hnb, w0, w1, hput, hlput, hput2, hlput2, q0, q1, q2, gc_nil]
theorem law_true (ns : List Int) (h : ns.length ≤ 63) : run tb 200 "law" [.fz (ns.map D.int)] [] = some (.bl true, []) := by
  rw [run_at tb_law 199 rfl]
  obtain ⟨x, n0, n1, n2, n3, r3, r4, hx, h0, h1, h2, h3, hp⟩ := law_pre (k := 198) h
  refine (congrArg (fini []) hp).trans ?_
  exact law_rest h hx h0 h1 h2 h3
end K2
namespace K2
open PySem PySem.Spec PyProof.Rows L2 Mi
theorem end_law {P : Program} {w : World} {K : PySem.W.Frag} {mg : Str → Option Value} {fa a : Addr} {oc : Value} {od an : Option Addr} {osl : Array (Option Value)} {kV doc pm cdv ct : Value} (T : Top sx tb w K mg) (hfa : mg "law" = some (.ref fa)) (hm : mg "law" = some (.ref a))
    (l : K.lookup a = some ⟨oc, od, .func (PySem.W.fnOf "law" "law" (defArgs (topS 17)) (defBody (topS 17)) (defScope (topS 17)) .none kV doc pm an cdv ct), osl⟩) (c : PySem.W.codeIn K cdv "law" = true) (k : PySem.W.keepIn K (.ref a) = true) :
    ∃ fd : FuncData, (∀ (s : Shared) (v : Value), BindsTo s fd ⟨[v], []⟩ [("_law_script", v)]) ∧ ∀ base : Heap, K.In base → base.Ns mainGlobals mg → FnOk P w K mg base CX0 200 fa fd ["_law_script"] (spD K (run tb 200 "law")) := by
  have e := hfa.symm.trans hm
  cases e
  have F := fun_mk (st := topS 17) l c k
  exact ⟨_, fun s v => .of_eq rfl, fun base _ _ => ok_at T (all_ok T 199) tb_law F sc_law ck_law⟩
end K2
open PySem PySem.W PyProof.Rows
set_option maxHeartbeats 0 in
theorem PySem.Challenge.cw_cutback_k02_put_in_holds : PySem.Challenge.rw_cutback_k02_put_in.Holds := by
  w_on; o_law; k_head; (case hw => w_witness2)
  k_fill
  refine L2.walk_ofK (l := PySem.Challenge.rw_cutback_k02_put_in) (n := 63) (k := 200) (x := "_law_script") (CX := L2.CX0) (sp := fun K => Mi.spD K (Mi.run K2.tb 200 "law")) rfl (by decide) rfl ⟨rfl, by decide, by decide⟩ (fun w h Y => PySem.W.kIn_of Y) ?F (fun _ _ a ns hl hO hS => Mi.law_sp _ hO hS (K2.law_true ns hl)) (fun _ _ _ _ h => h)
  case F =>
    intro w mg fa h KX G hmg
    have d_put_in : Mi.DefOkX KX K2.sx K2.tb mg "put_in" := by
      refine' K2.df_put_in (PySem.W.mg_of KX G ?a) ?l ?c ?k
      (case a => k_is); (case l => k_is); (case c => k_is); (case k => k_is)
    have d__law_cell_at : Mi.DefOkX KX K2.sx K2.tb mg "_law_cell_at" := by
      refine' K2.df__law_cell_at (PySem.W.mg_of KX G ?a) ?l ?c ?k
      (case a => k_is); (case l => k_is); (case c => k_is); (case k => k_is)
    have d__law_mixed : Mi.DefOkX KX K2.sx K2.tb mg "_law_mixed" := by
      refine' K2.df__law_mixed (PySem.W.mg_of KX G ?a) ?l ?c ?k
      (case a => k_is); (case l => k_is); (case c => k_is); (case k => k_is)
    have d__law_name_by : Mi.DefOkX KX K2.sx K2.tb mg "_law_name_by" := by
      refine' K2.df__law_name_by (PySem.W.mg_of KX G ?a) ?l ?c ?k
      (case a => k_is); (case l => k_is); (case c => k_is); (case k => k_is)
    have d__law_mark_by : Mi.DefOkX KX K2.sx K2.tb mg "_law_mark_by" := by
      refine' K2.df__law_mark_by (PySem.W.mg_of KX G ?a) ?l ?c ?k
      (case a => k_is); (case l => k_is); (case c => k_is); (case k => k_is)
    have d__law_leaf : Mi.DefOkX KX K2.sx K2.tb mg "_law_leaf" := by
      refine' K2.df__law_leaf (PySem.W.mg_of KX G ?a) ?l ?c ?k
      (case a => k_is); (case l => k_is); (case c => k_is); (case k => k_is)
    have d__law_gone_on : Mi.DefOkX KX K2.sx K2.tb mg "_law_gone_on" := by
      refine' K2.df__law_gone_on (PySem.W.mg_of KX G ?a) ?l ?c ?k
      (case a => k_is); (case l => k_is); (case c => k_is); (case k => k_is)
    have d__law_made : Mi.DefOkX KX K2.sx K2.tb mg "_law_made" := by
      refine' K2.df__law_made (PySem.W.mg_of KX G ?a) ?l ?c ?k
      (case a => k_is); (case l => k_is); (case c => k_is); (case k => k_is)
    have d__law_piece : Mi.DefOkX KX K2.sx K2.tb mg "_law_piece" := by
      refine' K2.df__law_piece (PySem.W.mg_of KX G ?a) ?l ?c ?k
      (case a => k_is); (case l => k_is); (case c => k_is); (case k => k_is)
    have d__law_value : Mi.DefOkX KX K2.sx K2.tb mg "_law_value" := by
      refine' K2.df__law_value (PySem.W.mg_of KX G ?a) ?l ?c ?k
      (case a => k_is); (case l => k_is); (case c => k_is); (case k => k_is)
    have d__law_put : Mi.DefOkX KX K2.sx K2.tb mg "_law_put" := by
      refine' K2.df__law_put (PySem.W.mg_of KX G ?a) ?l ?c ?k
      (case a => k_is); (case l => k_is); (case c => k_is); (case k => k_is)
    have d__law_value_by : Mi.DefOkX KX K2.sx K2.tb mg "_law_value_by" := by
      refine' K2.df__law_value_by (PySem.W.mg_of KX G ?a) ?l ?c ?k
      (case a => k_is); (case l => k_is); (case c => k_is); (case k => k_is)
    have d_law : Mi.DefOkX KX K2.sx K2.tb mg "law" := by
      refine' K2.df_law (PySem.W.mg_of KX G ?a) ?l ?c ?k
      (case a => k_is); (case l => k_is); (case c => k_is); (case k => k_is)
    have g_FORMS : Mi.GdX KX w mg "FORMS" K2.gd_FORMS := by
      refine' ⟨_, PySem.W.mg_of KX G ?h, Mi.wdict_mk ?l ?kl ?lo ?e⟩
      (case h => k_is); (case l => k_is)
      case lo => decide
      case kl => exact ⟨⟨_, _, rfl, rfl⟩, ⟨⟨_, _, rfl, rfl⟩, ⟨⟨_, _, rfl, rfl⟩, ⟨⟨_, _, rfl, rfl⟩, ⟨⟨_, _, rfl, rfl⟩, ⟨⟨_, _, rfl, rfl⟩, ⟨⟨_, _, rfl, rfl⟩, ⟨⟨_, _, rfl, rfl⟩, trivial⟩⟩⟩⟩⟩⟩⟩⟩
      case e =>
        refine (.cons ⟨⟨_, rfl⟩, .ref _, rfl, ?_⟩ (.cons ⟨⟨_, rfl⟩, .ref _, rfl, ?_⟩ (.cons ⟨⟨_, rfl⟩, .ref _, rfl, ?_⟩ (.cons ⟨⟨_, rfl⟩, .ref _, rfl, ?_⟩ (.cons ⟨⟨_, rfl⟩, .ref _, rfl, ?_⟩ (.cons ⟨⟨_, rfl⟩, .ref _, rfl, ?_⟩ (.cons ⟨⟨_, rfl⟩, .ref _, rfl, ?_⟩ (.cons ⟨⟨_, rfl⟩, .ref _, rfl, ?_⟩ .nil))))))))
        · (refine' Mi.rd_strs ["number"] ?ql ?qc ?qd ?qz ?qv; (case ql => k_is); (case qc => rfl); (case qd => rfl); (case qz => decide); (case qv => exact (.cons ⟨_, rfl⟩ .nil)))
        · (refine' Mi.rd_strs ["name"] ?ql ?qc ?qd ?qz ?qv; (case ql => k_is); (case qc => rfl); (case qd => rfl); (case qz => decide); (case qv => exact (.cons ⟨_, rfl⟩ .nil)))
        · (refine' Mi.rd_strs ["mark", "name", "piece"] ?ql ?qc ?qd ?qz ?qv; (case ql => k_is); (case qc => rfl); (case qd => rfl); (case qz => decide); (case qv => exact (.cons ⟨_, rfl⟩ (.cons ⟨_, rfl⟩ (.cons ⟨_, rfl⟩ .nil)))))
        · (refine' Mi.rd_strs ["mark", "piece", "piece"] ?ql ?qc ?qd ?qz ?qv; (case ql => k_is); (case qc => rfl); (case qd => rfl); (case qz => decide); (case qv => exact (.cons ⟨_, rfl⟩ (.cons ⟨_, rfl⟩ (.cons ⟨_, rfl⟩ .nil)))))
        · (refine' Mi.rd_strs ["mark", "piece", "piece"] ?ql ?qc ?qd ?qz ?qv; (case ql => k_is); (case qc => rfl); (case qd => rfl); (case qz => decide); (case qv => exact (.cons ⟨_, rfl⟩ (.cons ⟨_, rfl⟩ (.cons ⟨_, rfl⟩ .nil)))))
        · (refine' Mi.rd_strs ["mark", "piece", "piece", "piece"] ?ql ?qc ?qd ?qz ?qv; (case ql => k_is); (case qc => rfl); (case qd => rfl); (case qz => decide); (case qv => exact (.cons ⟨_, rfl⟩ (.cons ⟨_, rfl⟩ (.cons ⟨_, rfl⟩ (.cons ⟨_, rfl⟩ .nil))))))
        · (refine' Mi.rd_strs ["piece"] ?ql ?qc ?qd ?qz ?qv; (case ql => k_is); (case qc => rfl); (case qd => rfl); (case qz => decide); (case qv => exact (.cons ⟨_, rfl⟩ .nil)))
        · (refine' Mi.rd_strs ["mark", "name", "piece"] ?ql ?qc ?qd ?qz ?qv; (case ql => k_is); (case qc => rfl); (case qd => rfl); (case qz => decide); (case qv => exact (.cons ⟨_, rfl⟩ (.cons ⟨_, rfl⟩ (.cons ⟨_, rfl⟩ .nil)))))
    have g_BINDERS : Mi.GlX KX mg "BINDERS" (Mi.D.tup [(Mi.D.str "fun"), (Mi.D.str "take")]) := by
      refine' Mi.gl_strs KX G ["fun", "take"] ?qh ?ql ?qc ?qd ?qz ?qv
      (case qh => k_is); (case ql => k_is); (case qc => rfl); (case qd => rfl); (case qz => decide); (case qv => exact (.cons ⟨_, rfl⟩ (.cons ⟨_, rfl⟩ .nil)))
    have g_VALUES : Mi.GlX KX mg "VALUES" (Mi.D.tup [(Mi.D.str "num"), (Mi.D.str "shut"), (Mi.D.str "kept")]) := by
      refine' Mi.gl_strs KX G ["num", "shut", "kept"] ?qh ?ql ?qc ?qd ?qz ?qv
      (case qh => k_is); (case ql => k_is); (case qc => rfl); (case qd => rfl); (case qz => decide); (case qv => exact (.cons ⟨_, rfl⟩ (.cons ⟨_, rfl⟩ (.cons ⟨_, rfl⟩ .nil))))
    have T : Mi.TopX KX K2.sx K2.tb w mg := by
      refine ⟨fun x hx => ?_, fun p hp => ?_, fun p hp => ?_, fun f hf => ?_⟩
      · simp only [K2.sx, List.mem_cons, List.not_mem_nil, or_false] at hx
        rcases hx with rfl | rfl | rfl | rfl | rfl | rfl <;> (refine PySem.W.mg_none_of KX G ?_; k_is)
      · simp only [K2.sx, List.mem_cons, List.not_mem_nil, or_false] at hp
        rcases hp with rfl | rfl
        · exact g_BINDERS
        · exact g_VALUES
      · simp only [K2.sx, List.mem_cons, List.not_mem_nil, or_false] at hp
        rcases hp with rfl
        · exact g_FORMS
      · simp only [K2.sx, List.mem_cons, List.not_mem_nil, or_false] at hf
        rcases hf with rfl | rfl | rfl | rfl | rfl | rfl | rfl | rfl | rfl | rfl | rfl | rfl | rfl
        · exact d_put_in
        · exact d__law_cell_at
        · exact d__law_mixed
        · exact d__law_name_by
        · exact d__law_mark_by
        · exact d__law_leaf
        · exact d__law_gone_on
        · exact d__law_made
        · exact d__law_piece
        · exact d__law_value
        · exact d__law_put
        · exact d__law_value_by
        · exact d_law
    refine' K2.end_law T hmg (PySem.W.mg_of KX G ?a) ?l ?c ?k
    (case a => k_is); (case l => k_is); (case c => k_is); (case k => k_is)
