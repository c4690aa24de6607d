import PyProof.Rows.All
import Wide.All
import OpenK.AllK
import Wide.FinOn
import HandS.ForMost
import HandS.Flow
import HandS.IsInst
import HandS.TupAny
import HandS.Zip
import HandS.Wide
import HandS.AnyAll
import HandS.Strs
import HandS.Dict
import HandS.Style
import KE.KRevSl
import HandS.More
import HandS.GenOver
import HandS.Star
import HandS.FStr
import HandS.CallLocal
import HandS.Defaults
import HandS.HeadHook4
import HandS.HeadWalk
import OpenK.XHead
import PySem.Challenge.RW_cutback_k13_many_frames
set_option Elab.async false
set_option linter.all false
set_option maxRecDepth 100000
/-! a small language of data and lists, its evaluation, and its soundness over the hand layer -/
namespace Mi
open PySem PySem.Spec PyProof.Rows L2

inductive D where
  | non | bl (b : Bool) | int (i : Int) | str (x : Str) | tup (xs : List D) | loc (n : Nat) | dloc (n : Nat) | fz (xs : List D) | set0 | fn (x : Str) | nd (d : D)
inductive SO where
  | lst (xs : List D) | dct (kvs : List (Key × D))

/-- what kind of thing stands there -/
def kindO : HO → Nat
  | .lst _ => 1
  | .dK _ => 2
  | _ => 0
theorem kind_lst {o : HO} (h : kindO o = 1) : ∃ vs, o = .lst vs := by
  cases o <;> simp [kindO] at h
  exact ⟨_, rfl⟩
theorem kind_dK {o : HO} (h : kindO o = 2) : ∃ vs, o = .dK vs := by
  cases o <;> simp [kindO] at h
  exact ⟨_, rfl⟩
/-- the tables of code objects that may grow; the world -/
class TabsC where
  C : List (Addr × Addr)
  w : World
/-- a locked list, or one of the written part -/
def SqZ (K : PySem.W.Frag) (A : List Addr) (H : Hp) (a : Addr) (vs : List V) : Prop :=
  ((∃ o, H a = some (.frz o (.lst vs))) ∨ (H a = some (.lst vs) ∧ a ∉ A)) ∨
    ∃ (o : Obj) (its : Array Value) (n : Nat), K.lookup a = some o ∧ o.cls = .type "list" ∧ o.dict = none ∧ o.data = .seq its n ∧ its.size ≤ sizeLine ∧ Vals vs its.toList
theorem SqZ.seq {K : PySem.W.Frag} {A : List Addr} {H : Hp} {a : Addr} {vs : List V} (h : SqZ K A H a vs) : SqL K H a vs := by
  rcases h with (h | h) | h
  · exact .inl (.inr h)
  · exact .inl (.inl h.1)
  · exact .inr h

/-- a tuple that is known to have no dict of its own -/
def NoD (H : Hp) (v : V) : Prop := ∃ a o vs, v = .ref a ∧ H a = some (.frz o (.tup vs)) ∧ o.dict = none
variable [TabsC]
mutual
def RD (K : PySem.W.Frag) (A : List Addr) (H : Hp) : D → V → Prop
  | .non, v => v = .non
  | .bl b, v => v = .bl b
  | .int i, v => v = .int i
  | .str x, v => v = .str x
  | .tup xs, v => ∃ a vs, v = .ref a ∧ SqT K H a vs ∧ RDs K A H xs vs
  | .loc n, v => ∃ a, v = .ref a ∧ A[n]? = some a ∧ ∃ o, H a = some o ∧ kindO o = 1
  | .dloc n, v => ∃ a, v = .ref a ∧ A[n]? = some a ∧ ∃ o, H a = some o ∧ kindO o = 2
  | .fz xs, v => ∃ a vs, v = .ref a ∧ SqZ K A H a vs ∧ RDs K A H xs vs
  | .set0, v => ∃ a, v = .ref a ∧ H a = some (SetO TabsC.w a (fun _ => false) 0) ∧ a ∉ A
  | .fn x, v => ∃ a, v = .ref a ∧ PySem.W.nsIn K mainGlobals x = some (some (.ref a))
  | .nd d, v => NoD H v ∧ RD K A H d v
def RDs (K : PySem.W.Frag) (A : List Addr) (H : Hp) : List D → List V → Prop
  | [], vs => vs = []
  | x :: xs, vs => ∃ v r, vs = v :: r ∧ RD K A H x v ∧ RDs K A H xs r
end

def ObR (K : PySem.W.Frag) (A : List Addr) (H : Hp) : SO → Addr → Prop
  | .lst xs, a => ∃ vs, H a = some (.lst vs) ∧ RDs K A H xs vs
  | .dct kvs, a => ∃ vs : List (Key × V), H a = some (.dK vs) ∧ kvs.map (·.1) = vs.map (·.1) ∧ RDs K A H (kvs.map (·.2)) (vs.map (·.2))

structure Rl (K : PySem.W.Frag) (A : List Addr) (H : Hp) (m : List SO) : Prop where
  len : A.length = m.length
  nd : A.Nodup
  ob : ∀ (n : Nat) (o : SO) (a : Addr), m[n]? = some o → A[n]? = some a → ObR K A H o a
  tab : ∀ p ∈ TabsC.C, GxR.TabG H p.2

/-- from (A, H) on to (A', H') -/
structure Ext (A : List Addr) (H : Hp) (A' : List Addr) (H' : Hp) : Prop where
  pre : ∃ B, A' = A ++ B
  keep : ∀ b o, H b = some o → (∀ ps, o ≠ .tbl ps) → b ∉ A → H' b = some o
  new : ∀ b, b ∈ A' → b ∉ A → H b = none
  tups : ∀ b xs, H b = some (.tup xs) → H' b = some (.tup xs)
  frzs : ∀ b o u, H b = some (.frz o u) → H' b = some (.frz o u)
  tbs : ∀ b ps, H b = some (.tbl ps) → ∃ ps', H' b = some (.tbl ps') ∧ (TriplesOk ps.toList → TriplesOk ps'.toList)
  kind : ∀ b ∈ A, ∀ o, H b = some o → ∃ o', H' b = some o' ∧ kindO o' = kindO o

theorem Ext.refl (A : List Addr) (H : Hp) : Ext A H A H := ⟨⟨[], by simp⟩, fun _ _ h _ _ => h, fun _ h n => absurd h n, fun _ _ h => h, fun _ _ _ h => h, fun _ ps h => ⟨ps, h, fun q => q⟩, fun _ _ o h => ⟨o, h, rfl⟩⟩
theorem Ext.trans {A A1 A2 : List Addr} {H H1 H2 : Hp} (a : Ext A H A1 H1) (b : Ext A1 H1 A2 H2) : Ext A H A2 H2 where
  pre := by
    obtain ⟨B, rfl⟩ := a.pre
    obtain ⟨C, rfl⟩ := b.pre
    exact ⟨B ++ C, by simp⟩
  keep := fun x o h no n => by
    have h1 := a.keep x o h no n
    refine b.keep x o h1 no fun m => ?_
    have := a.new x m n
    rw [h] at this
    cases this
  new := fun x m n => by
    by_cases m1 : x ∈ A1
    · exact a.new x m1 n
    · have h1 := b.new x m m1
      cases q : H x with
      | none => rfl
      | some o =>
        by_cases ht : ∃ ps, o = .tbl ps
        · obtain ⟨ps, rfl⟩ := ht
          obtain ⟨ps', e, _⟩ := a.tbs x ps q
          rw [e] at h1; cases h1
        · rw [a.keep x o q (fun ps z => ht ⟨ps, z⟩) n] at h1; cases h1
  tups := fun x xs h => b.tups x xs (a.tups x xs h)
  frzs := fun x o u h => b.frzs x o u (a.frzs x o u h)
  tbs := fun x ps h => by
    obtain ⟨p1, e1, q1⟩ := a.tbs x ps h
    obtain ⟨p2, e2, q2⟩ := b.tbs x p1 e1
    exact ⟨p2, e2, fun z => q2 (q1 z)⟩
  kind := fun x m o h => by
    obtain ⟨o1, e1, q1⟩ := a.kind x m o h
    obtain ⟨C, hC⟩ := a.pre
    obtain ⟨o2, e2, q2⟩ := b.kind x (by rw [hC]; exact List.mem_append.mpr (.inl m)) o1 e1
    exact ⟨o2, e2, q2.trans q1⟩
theorem Ext.tabG {A A' : List Addr} {H H' : Hp} (e : Ext A H A' H') {P : Addr} (h : GxR.TabG H P) : GxR.TabG H' P := by
  obtain ⟨ps, h1, h2⟩ := h
  obtain ⟨ps', e1, q1⟩ := e.tbs P ps h1
  exact ⟨ps', e1, q1 h2⟩
theorem Ext.get {A A' : List Addr} {H H' : Hp} (e : Ext A H A' H') {n : Nat} {a : Addr} (h : A[n]? = some a) : A'[n]? = some a := by
  obtain ⟨B, rfl⟩ := e.pre
  rw [List.getElem?_append_left]
  · exact h
  · exact (List.getElem?_eq_some_iff.mp h).1
theorem Ext.sqT {K : PySem.W.Frag} {A A' : List Addr} {H H' : Hp} (e : Ext A H A' H') {a : Addr} {vs : List V} (h : SqT K H a vs) : SqT K H' a vs := by
  rcases h with (h | ⟨o, h⟩) | h
  · exact .inl (.inl (e.tups _ _ h))
  · exact .inl (.inr ⟨o, e.frzs _ _ _ h⟩)
  · exact .inr h
theorem Ext.sqZ {K : PySem.W.Frag} {A A' : List Addr} {H H' : Hp} (e : Ext A H A' H') {a : Addr} {vs : List V} (h : SqZ K A H a vs) : SqZ K A' H' a vs := by
  rcases h with (⟨o, h⟩ | ⟨h, n⟩) | h
  · exact .inl (.inl ⟨o, e.frzs _ _ _ h⟩)
  · refine .inl (.inr ⟨e.keep _ _ h (fun _ z => by cases z) n, fun m => ?_⟩)
    have := e.new a m n
    rw [h] at this; cases this
  · exact .inr h

mutual
theorem RD.mono {K : PySem.W.Frag} {A A' : List Addr} {H H' : Hp} (e : Ext A H A' H') : ∀ {d : D} {v : V}, RD K A H d v → RD K A' H' d v
  | .non, _, h => h
  | .bl _, _, h => h
  | .int _, _, h => h
  | .str _, _, h => h
  | .tup xs, v, h => by
    obtain ⟨a, vs, rfl, h1, h2⟩ := h
    exact ⟨a, vs, rfl, e.sqT h1, RDs.mono e h2⟩
  | .loc n, v, h => by
    obtain ⟨a, rfl, h1, o, h2, h3⟩ := h
    obtain ⟨o', k1, k2⟩ := e.kind a (List.mem_of_getElem? h1) o h2
    exact ⟨a, rfl, e.get h1, o', k1, k2.trans h3⟩
  | .dloc n, v, h => by
    obtain ⟨a, rfl, h1, o, h2, h3⟩ := h
    obtain ⟨o', k1, k2⟩ := e.kind a (List.mem_of_getElem? h1) o h2
    exact ⟨a, rfl, e.get h1, o', k1, k2.trans h3⟩
  | .fz xs, v, h => by
    obtain ⟨a, vs, rfl, h1, h2⟩ := h
    exact ⟨a, vs, rfl, e.sqZ h1, RDs.mono e h2⟩
  | .fn x, v, h => h
  | .nd d, v, h => by
    obtain ⟨⟨a, o, vs, rfl, h1, h2⟩, h3⟩ := h
    exact ⟨⟨a, o, vs, rfl, e.frzs _ _ _ h1, h2⟩, RD.mono e h3⟩
  | .set0, v, h => by
    obtain ⟨a, rfl, h1, h2⟩ := h
    refine ⟨a, rfl, e.keep _ _ h1 (fun _ z => by cases z) h2, fun m => ?_⟩
    have := e.new a m h2
    rw [h1] at this; cases this
theorem RDs.mono {K : PySem.W.Frag} {A A' : List Addr} {H H' : Hp} (e : Ext A H A' H') : ∀ {xs : List D} {vs : List V}, RDs K A H xs vs → RDs K A' H' xs vs
  | [], _, h => h
  | x :: xs, vs, h => by
    obtain ⟨v, r, rfl, h1, h2⟩ := h
    exact ⟨v, r, rfl, RD.mono e h1, RDs.mono e h2⟩
end

theorem RDs.length {K : PySem.W.Frag} {A : List Addr} {H : Hp} : ∀ {xs : List D} {vs : List V}, RDs K A H xs vs → vs.length = xs.length
  | [], _, h => by cases h; rfl
  | x :: xs, vs, h => by
    obtain ⟨v, r, rfl, _, h2⟩ := h
    rw [List.length_cons, List.length_cons, RDs.length h2]
theorem RDs.get {K : PySem.W.Frag} {A : List Addr} {H : Hp} : ∀ {xs : List D} {vs : List V} {n : Nat} {d : D}, RDs K A H xs vs → xs[n]? = some d → ∃ v, vs[n]? = some v ∧ RD K A H d v
  | [], _, n, d, _, q => by simp at q
  | x :: xs, vs, n, d, h, q => by
    obtain ⟨v, r, rfl, h1, h2⟩ := h
    cases n with
    | zero => simp at q; subst q; exact ⟨v, rfl, h1⟩
    | succ n => simp at q; obtain ⟨w, e1, e2⟩ := RDs.get h2 q; exact ⟨w, by simpa using e1, e2⟩
theorem RDs.append {K : PySem.W.Frag} {A : List Addr} {H : Hp} : ∀ {xs ys : List D} {vs ws : List V}, RDs K A H xs vs → RDs K A H ys ws → RDs K A H (xs ++ ys) (vs ++ ws)
  | [], _, _, _, h, q => by cases h; exact q
  | x :: xs, ys, vs, ws, h, q => by
    obtain ⟨v, r, rfl, h1, h2⟩ := h
    exact ⟨v, r ++ ws, rfl, h1, RDs.append h2 q⟩
theorem RDs.take {K : PySem.W.Frag} {A : List Addr} {H : Hp} : ∀ {xs : List D} {vs : List V} (n : Nat), RDs K A H xs vs → RDs K A H (xs.take n) (vs.take n)
  | [], _, n, h => by cases h; simp [RDs]
  | x :: xs, vs, 0, h => by simp [RDs]
  | x :: xs, vs, n + 1, h => by
    obtain ⟨v, r, rfl, h1, h2⟩ := h
    exact ⟨v, r.take n, rfl, h1, RDs.take n h2⟩
theorem RDs.drop {K : PySem.W.Frag} {A : List Addr} {H : Hp} : ∀ {xs : List D} {vs : List V} (n : Nat), RDs K A H xs vs → RDs K A H (xs.drop n) (vs.drop n)
  | [], _, n, h => by cases h; simp [RDs]
  | x :: xs, vs, 0, h => h
  | x :: xs, vs, n + 1, h => by
    obtain ⟨v, r, rfl, h1, h2⟩ := h
    exact RDs.drop n h2
theorem RDs.set {K : PySem.W.Frag} {A : List Addr} {H : Hp} {d : D} {w : V} (q : RD K A H d w) : ∀ {xs : List D} {vs : List V} (n : Nat), RDs K A H xs vs → RDs K A H (xs.set n d) (vs.set n w)
  | [], _, n, h => by cases h; simp [RDs]
  | x :: xs, vs, 0, h => by
    obtain ⟨v, r, rfl, h1, h2⟩ := h
    exact ⟨w, r, rfl, q, h2⟩
  | x :: xs, vs, n + 1, h => by
    obtain ⟨v, r, rfl, h1, h2⟩ := h
    exact ⟨v, r.set n w, rfl, h1, RDs.set q n h2⟩
theorem RDs.reverse {K : PySem.W.Frag} {A : List Addr} {H : Hp} : ∀ {xs : List D} {vs : List V}, RDs K A H xs vs → RDs K A H xs.reverse vs.reverse
  | [], _, h => by cases h; simp [RDs]
  | x :: xs, vs, h => by
    obtain ⟨v, r, rfl, h1, h2⟩ := h
    rw [List.reverse_cons, List.reverse_cons]
    exact RDs.append (RDs.reverse h2) ⟨v, [], rfl, h1, rfl⟩
theorem RDs.one {K : PySem.W.Frag} {A : List Addr} {H : Hp} {d : D} {v : V} (h : RD K A H d v) : RDs K A H [d] [v] := ⟨v, [], rfl, h, rfl⟩
theorem RDs.dropLast {K : PySem.W.Frag} {A : List Addr} {H : Hp} {xs : List D} {vs : List V} (h : RDs K A H xs vs) : RDs K A H xs.dropLast vs.dropLast := by
  rw [List.dropLast_eq_take, List.dropLast_eq_take, h.length]
  exact h.take _

section
variable {K : PySem.W.Frag} {A : List Addr} {H : Hp} {m : List SO} {p a : Addr} {o : HO}
theorem Rl.at_ (R : Rl K A H m) {n : Nat} {a : Addr} (h : A[n]? = some a) : ∃ o, m[n]? = some o ∧ ObR K A H o a := by
  have hl := (List.getElem?_eq_some_iff.mp h).1
  rw [R.len] at hl
  exact ⟨m[n], List.getElem?_eq_getElem hl, R.ob n _ a (List.getElem?_eq_getElem hl) h⟩
/-- what a thing of the store is -/
def StO : HO → Prop
  | .lst _ => True
  | .dK _ => True
  | _ => False
theorem Rl.mem (R : Rl K A H m) {a : Addr} (h : a ∈ A) : ∃ o, H a = some o ∧ StO o := by
  obtain ⟨n, hn⟩ := List.getElem?_of_mem h
  obtain ⟨o, _, q⟩ := R.at_ hn
  cases o with
  | lst xs => obtain ⟨vs, e, _⟩ := q; exact ⟨_, e, trivial⟩
  | dct xs => obtain ⟨vs, e, _⟩ := q; exact ⟨_, e, trivial⟩
theorem kind_upd {H : Hp} (hp : H p = none) {b : Addr} {u : HO} (h : H b = some u) : ∃ o', upd H p o b = some o' ∧ kindO o' = kindO u := ⟨u, by rw [upd_ne (ne_of_none h hp)]; exact h, rfl⟩
theorem Ext.fresh (R : Rl K A H m) (hp : H p = none) : Ext A H A (upd H p o) where
  kind := fun b _ u h => kind_upd hp h
  pre := ⟨[], by simp⟩
  keep := fun b u h _ _ => by rw [upd_ne (ne_of_none h hp)]; exact h
  new := fun b h n => absurd h n
  tups := fun b xs h => by rw [upd_ne (ne_of_none h hp)]; exact h
  frzs := fun b u xs h => by rw [upd_ne (ne_of_none h hp)]; exact h
  tbs := fun b ps h => ⟨ps, by rw [upd_ne (ne_of_none h hp)]; exact h, fun q => q⟩
theorem Rl.fresh_ne (R : Rl K A H m) (hp : H p = none) : p ∉ A := fun h => by
  obtain ⟨vs, e, _⟩ := R.mem h
  rw [hp] at e
  cases e
theorem ObR.mono {A' : List Addr} {H' : Hp} {o : SO} (e : Ext A H A' H') (hk : H' a = H a) (h : ObR K A H o a) : ObR K A' H' o a := by
  cases o with
  | lst xs => obtain ⟨vs, e1, e2⟩ := h; exact ⟨vs, by rw [hk]; exact e1, e2.mono e⟩
  | dct xs => obtain ⟨vs, e1, e2, e3⟩ := h; exact ⟨vs, by rw [hk]; exact e1, e2, e3.mono e⟩
/-- a new thing that the store does not hold (a tuple) -/
theorem Rl.tupled (R : Rl K A H m) (hp : H p = none) : Rl K A (upd H p o) m where
  len := R.len
  nd := R.nd
  tab := fun P hP => (Ext.fresh (o := o) R hp).tabG (R.tab P hP)
  ob := fun n u a h1 h2 => (R.ob n u a h1 h2).mono (Ext.fresh R hp) (upd_ne fun e => by
    subst e
    exact R.fresh_ne hp (List.mem_of_getElem? h2))
/-- a new list -/
theorem Ext.alloc (R : Rl K A H m) (hp : H p = none) : Ext A H (A ++ [p]) (upd H p o) where
  kind := fun b _ u h => kind_upd hp h
  pre := ⟨[p], rfl⟩
  keep := fun b u h _ _ => by rw [upd_ne (ne_of_none h hp)]; exact h
  new := fun b h n => by
    rcases List.mem_append.mp h with h | h
    · exact absurd h n
    · rw [List.mem_singleton.mp h]; exact hp
  tups := fun b xs h => by rw [upd_ne (ne_of_none h hp)]; exact h
  frzs := fun b u xs h => by rw [upd_ne (ne_of_none h hp)]; exact h
  tbs := fun b ps h => ⟨ps, by rw [upd_ne (ne_of_none h hp)]; exact h, fun q => q⟩
theorem Rl.alloc (R : Rl K A H m) (hp : H p = none) {xs : List D} {vs : List V} (h : RDs K A H xs vs) : Rl K (A ++ [p]) (upd H p (.lst vs)) (m ++ [.lst xs]) where
  len := by simp [R.len]
  tab := fun P hP => (Ext.alloc (o := .lst vs) R hp).tabG (R.tab P hP)
  nd := List.nodup_append.mpr ⟨R.nd, by simp, fun a ha b hb => by
    rw [List.mem_singleton.mp hb]
    intro e
    subst e
    exact R.fresh_ne hp ha⟩
  ob := fun n u a h1 h2 => by
    by_cases hn : n < m.length
    · rw [List.getElem?_append_left hn] at h1
      rw [List.getElem?_append_left (by rw [R.len]; exact hn)] at h2
      exact (R.ob n u a h1 h2).mono (Ext.alloc R hp) (upd_ne fun e => by
        subst e
        exact R.fresh_ne hp (List.mem_of_getElem? h2))
    · rw [List.getElem?_append_right (by omega)] at h1
      rw [List.getElem?_append_right (by rw [R.len]; omega)] at h2
      rw [R.len] at h2
      cases hk : n - m.length with
      | zero =>
        rw [hk] at h1 h2
        simp at h1 h2
        subst h1 h2
        exact ⟨vs, upd_same, h.mono (Ext.alloc R hp)⟩
      | succ j => rw [hk] at h1; simp at h1
theorem Rl.allocD (R : Rl K A H m) (hp : H p = none) {xs : List (Key × D)} {vs : List (Key × V)} (hk : xs.map (·.1) = vs.map (·.1)) (h : RDs K A H (xs.map (·.2)) (vs.map (·.2))) : Rl K (A ++ [p]) (upd H p (.dK vs)) (m ++ [.dct xs]) where
  len := by simp [R.len]
  tab := fun P hP => (Ext.alloc (o := .dK vs) R hp).tabG (R.tab P hP)
  nd := List.nodup_append.mpr ⟨R.nd, by simp, fun a ha b hb => by
    rw [List.mem_singleton.mp hb]
    intro e
    subst e
    exact R.fresh_ne hp ha⟩
  ob := fun n u a h1 h2 => by
    by_cases hn : n < m.length
    · rw [List.getElem?_append_left hn] at h1
      rw [List.getElem?_append_left (by rw [R.len]; exact hn)] at h2
      exact (R.ob n u a h1 h2).mono (Ext.alloc R hp) (upd_ne fun e => by
        subst e
        exact R.fresh_ne hp (List.mem_of_getElem? h2))
    · rw [List.getElem?_append_right (by omega)] at h1
      rw [List.getElem?_append_right (by rw [R.len]; omega)] at h2
      rw [R.len] at h2
      cases hkn : n - m.length with
      | zero =>
        rw [hkn] at h1 h2
        simp at h1 h2
        subst h1 h2
        exact ⟨vs, upd_same, hk, h.mono (Ext.alloc R hp)⟩
      | succ j => rw [hkn] at h1; simp at h1
/-- a list of the store is changed -/
theorem Ext.writeO (R : Rl K A H m) (ha : a ∈ A) (u : HO) (hu : ∃ o, H a = some o ∧ kindO u = kindO o) : Ext A H A (upd H a u) where
  kind := fun b _ o h => by
    by_cases e : b = a
    · subst e
      obtain ⟨o', h1, h2⟩ := hu
      rw [h] at h1
      cases h1
      exact ⟨u, upd_same, h2⟩
    · exact ⟨o, by rw [upd_ne e]; exact h, rfl⟩
  pre := ⟨[], by simp⟩
  keep := fun b u h _ n => by rw [upd_ne (show b ≠ a from fun e => n (by rw [e]; exact ha))]; exact h
  new := fun b h n => absurd h n
  tups := fun b xs h => by
    obtain ⟨ws, e, st⟩ := R.mem ha
    rw [upd_ne (fun z => by subst z; rw [e] at h; cases h; exact st.elim)]; exact h
  frzs := fun b u xs h => by
    obtain ⟨ws, e, st⟩ := R.mem ha
    rw [upd_ne (fun z => by subst z; rw [e] at h; cases h; exact st.elim)]; exact h
  tbs := fun b ps h => by
    obtain ⟨ws, e, st⟩ := R.mem ha
    exact ⟨ps, by rw [upd_ne (fun z => by subst z; rw [e] at h; cases h; exact st.elim)]; exact h, fun q => q⟩
theorem Ext.write (R : Rl K A H m) (ha : a ∈ A) (vs : List V) (hu : ∃ ws, H a = some (.lst ws)) : Ext A H A (upd H a (.lst vs)) := .writeO R ha _ (by obtain ⟨ws, e⟩ := hu; exact ⟨_, e, rfl⟩)
theorem nodup_get {A : List Addr} (nd : A.Nodup) {n k : Nat} {a : Addr} (h1 : A[n]? = some a) (h2 : A[k]? = some a) : n = k := by
  obtain ⟨l1, e1⟩ := List.getElem?_eq_some_iff.mp h1
  obtain ⟨l2, e2⟩ := List.getElem?_eq_some_iff.mp h2
  exact (List.getElem_inj nd).mp (e1.trans e2.symm)
theorem Rl.write (R : Rl K A H m) {n : Nat} (ha : A[n]? = some a) (hu : ∃ ws, H a = some (.lst ws)) {xs : List D} {vs : List V} (h : RDs K A H xs vs) : Rl K A (upd H a (.lst vs)) (m.set n (.lst xs)) where
  len := by simp [R.len]
  tab := fun P hP => (Ext.write R (List.mem_of_getElem? ha) vs hu).tabG (R.tab P hP)
  nd := R.nd
  ob := fun k u b h1 h2 => by
    have E := Ext.write R (List.mem_of_getElem? ha) vs hu
    by_cases hk : k = n
    · subst hk
      rw [ha] at h2
      cases h2
      have hl := (List.getElem?_eq_some_iff.mp ha).1
      rw [List.getElem?_set_self (by rw [← R.len]; exact hl)] at h1
      cases h1
      exact ⟨vs, upd_same, h.mono E⟩
    · rw [List.getElem?_set_ne (Ne.symm hk)] at h1
      exact (R.ob k u b h1 h2).mono E (upd_ne fun e => by
        subst e
        exact hk (nodup_get R.nd h2 ha))
theorem Rl.writeD (R : Rl K A H m) {n : Nat} (ha : A[n]? = some a) (hu : ∃ ws, H a = some (.dK ws)) {xs : List (Key × D)} {vs : List (Key × V)} (hk : xs.map (·.1) = vs.map (·.1)) (h : RDs K A H (xs.map (·.2)) (vs.map (·.2))) : Rl K A (upd H a (.dK vs)) (m.set n (.dct xs)) where
  len := by simp [R.len]
  tab := fun P hP => (Ext.writeO R (List.mem_of_getElem? ha) (.dK vs) (by obtain ⟨ws, e⟩ := hu; exact ⟨_, e, rfl⟩)).tabG (R.tab P hP)
  nd := R.nd
  ob := fun k u b h1 h2 => by
    have E := Ext.writeO R (List.mem_of_getElem? ha) (.dK vs) (by obtain ⟨ws, e⟩ := hu; exact ⟨_, e, rfl⟩)
    by_cases hkn : k = n
    · subst hkn
      rw [ha] at h2
      cases h2
      have hl := (List.getElem?_eq_some_iff.mp ha).1
      rw [List.getElem?_set_self (by rw [← R.len]; exact hl)] at h1
      cases h1
      exact ⟨vs, upd_same, hk, h.mono E⟩
    · rw [List.getElem?_set_ne (Ne.symm hkn)] at h1
      exact (R.ob k u b h1 h2).mono E (upd_ne fun e => by
        subst e
        exact hkn (nodup_get R.nd h2 ha))
end
end Mi
namespace Mi
open PySem PySem.Spec PyProof.Rows L2

abbrev M (α : Type) := List SO → Option (α × List SO)
def M.ret {α : Type} (a : α) : M α := fun m => some (a, m)
def M.bnd {α β : Type} (x : M α) (f : α → M β) : M β := fun m => match x m with
  | some (a, m') => f a m'
  | none => none
def M.no {α : Type} : M α := fun _ => none
def M.opt {α : Type} (o : Option α) : M α := fun m => match o with
  | some a => some (a, m)
  | none => none

abbrev Rho := List (Option D)

/-! ### data -/
mutual
def pd0 : D → Option PyData
  | .non => some .none
  | .bl b => some (.bool b)
  | .int i => some (.int i)
  | .str x => some (.str x)
  | .tup xs => (pds0 xs).map .tuple
  | .fz xs => (pds0 xs).map .list
  | .loc _ => none
  | .dloc _ => none
  | .set0 => none
  | .fn _ => none
  | .nd _ => none
def pds0 : List D → Option (List PyData)
  | [] => some []
  | x :: xs => match pd0 x, pds0 xs with
    | some a, some b => some (a :: b)
    | _, _ => none
end
def pd (m : List SO) : D → Option PyData
  | .loc n => match m[n]? with
    | some (.lst xs) => (pds0 xs).map .list
    | _ => none
  | d => pd0 d

def mapO {α β : Type} (f : α → Option β) : List α → Option (List β)
  | [] => some []
  | x :: xs => match f x, mapO f xs with
    | some a, some b => some (a :: b)
    | _, _ => none
/-- data with lists of the store in it, so many levels -/
def pdd : Nat → List SO → D → Option PyData
  | 0, _, d => pd0 d
  | n + 1, m, d => match d with
    | .loc j => match m[j]? with
      | some (.lst xs) => (mapO (pdd n m) xs).map .list
      | _ => none
    | .tup xs => (mapO (pdd n m) xs).map .tuple
    | d => pd0 d

def truth (m : List SO) : D → Option Bool
  | .non => some false
  | .bl b => some b
  | .int i => some (i != 0)
  | .str x => if x.length ≤ sizeLine then some ((x.length : Int) != 0) else none
  | .tup xs => some (!xs.isEmpty)
  | .fz xs => some (!xs.isEmpty)
  | .loc n => match m[n]? with
    | some (.lst xs) => some (!xs.isEmpty)
    | _ => none
  | .set0 => none
  | .fn _ => none
  | .nd _ => none
  | .dloc _ => none
def truthM (d : D) : M Bool := fun m => match truth m d with
  | some b => some (b, m)
  | none => none

/-- a new list -/
def newL (xs : List D) : M D := fun m => if xs.length ≤ sizeLine then some (.loc m.length, m ++ [.lst xs]) else none
def newT (xs : List D) : M D := fun m => if xs.length ≤ sizeLine then some (.tup xs, m) else none
def getL (m : List SO) (n : Nat) : Option (List D) := match m[n]? with
  | some (.lst xs) => some xs
  | _ => none
def getDc (m : List SO) (n : Nat) : Option (List (Key × D)) := match m[n]? with
  | some (.dct kvs) => some kvs
  | _ => none
def keyD : D → Option Key
  | .int i => some (.inl i)
  | .str x => some (.inr x)
  | _ => none
def dvalD (kvs : List (Key × D)) (k : Key) : Option D := (kvs.find? fun kv => decide (kv.1 = k)).map (·.2)
def dputD (kvs : List (Key × D)) (k : Key) (v : D) : List (Key × D) :=
  if (kvs.any fun kv => decide (kv.1 = k)) = true then kvs.map (fun kv => if kv.1 = k then (kv.1, v) else kv) else kvs ++ [(k, v)]
def dmerge (kvs more : List (Key × D)) : List (Key × D) := more.foldl (fun acc kv => dputD acc kv.1 kv.2) kvs
/-- pairs of a key and a value -/
def pairsD : List D → Option (List (Key × D))
  | [] => some []
  | .tup [k, v] :: r => match keyD k, pairsD r with
    | some q, some ps => some ((q, v) :: ps)
    | _, _ => none
  | _ => none
def keyE : Key → D
  | .inl i => .int i
  | .inr x => .str x
/-- the dict and the key of a look-up -/
def dctAt (m : List SO) (x y : D) : Option (List (Key × D) × Key) := match x, keyD y with
  | .dloc n, some q => match getDc m n with
    | some kvs => some (kvs, q)
    | none => none
  | _, _ => none
def setL (n : Nat) (xs : List D) : M D := fun m => some (.non, m.set n (.lst xs))
def cut {α : Type} (xs : List α) (lo hi : Option Int) : List α := (xs.drop (HT.sIx xs.length 0 lo)).take (HT.sIx xs.length xs.length hi - HT.sIx xs.length 0 lo)
/-- what a sequence holds -/
def seqOf (m : List SO) : D → Option (List D)
  | .tup xs => some xs
  | .fz xs => some xs
  | .loc n => getL m n
  | _ => none

inductive Bop where | add | sub | mul | fdiv | mod | pow
inductive Cop where | eq | ne | lt | le | gt | ge | isN | notN | in_ | notIn

def binI : Bop → Int → Int → Option Int
  | .add, i, j => some (i + j)
  | .sub, i, j => some (i - j)
  | .mul, i, j => if (-(2 ^ 64) < i ∧ i < 2 ^ 64) ∨ (-(2 ^ 64) < j ∧ j < 2 ^ 64) then some (i * j) else none
  | .fdiv, i, j => if 0 < j ∧ j < 1073741824 then some (i / j) else none
  | .mod, i, j => if 0 < j then some (i % j) else none
  | .pow, i, j => if 0 ≤ j ∧ j ≤ 1000000 ∧ i.natAbs < 2 ^ 64 then some (i ^ j.toNat) else none
def binD (o : Bop) (x y : D) : M D := fun m => match o, x, y with
  | o, .int i, .int j => match binI o i j with
    | some k => some (.int k, m)
    | none => none
  | .add, .str a, .str b => if a.length + b.length ≤ sizeLine then some (.str (a ++ b), m) else none
  | .add, .tup xs, .tup ys => if xs.length + ys.length ≤ sizeLine then some (.tup (xs ++ ys), m) else none
  | .add, .loc a, .loc b => match getL m a, getL m b with
    | some xs, some ys => if xs.length + ys.length ≤ sizeLine then newL (xs ++ ys) m else none
    | _, _ => none
  | .mul, .loc a, .int n => match getL m a with
    | some xs => if 0 ≤ n ∧ n < 1000000 ∧ xs.length * n.toNat ≤ sizeLine then some (.loc m.length, m ++ [.lst (List.replicate n.toNat xs).flatten]) else none
    | none => none
  | _, _, _ => none

def flatD : D → Bool
  | .non => true | .bl _ => true | .int _ => true | .str _ => true
  | _ => false
def eqF : D → D → Bool
  | .non, .non => true
  | .bl a, .bl b => a == b
  | .bl a, .int b => (if a then 1 else 0) == b
  | .int a, .bl b => a == (if b then 1 else 0)
  | .int a, .int b => a == b
  | .str a, .str b => a == b
  | _, _ => false
def inD (x : D) (xs : List D) : Bool := xs.any fun y => eqF y x

def eqD (k : Nat) (m : List SO) (x y : D) : Option Bool := match pd m x, pd m y with
  | some a, some b => if a.canLay0 = true ∧ b.canLay0 = true ∧ min a.depth b.depth ≤ 32 * k + 200 then some (PyData.eqv a b) else none
  | _, _ => match pdd 3 m x, pdd 3 m y with
    | some a, some b => if a.canLay0 = true ∧ b.canLay0 = true ∧ min a.depth b.depth ≤ 32 * k + 200 then some (PyData.eqv a b) else none
    | _, _ => none
def cmpI : Cop → Int → Int → Option Bool
  | .lt, i, j => some (decide (i < j))
  | .le, i, j => some (decide (i ≤ j))
  | .gt, i, j => some (decide (j < i))
  | .ge, i, j => some (decide (j ≤ i))
  | _, _, _ => none
def cmpS : Cop → Str → Str → Option Bool
  | .lt, i, j => some (decide (i.cps.toList < j.cps.toList))
  | .le, i, j => some (!decide (j.cps.toList < i.cps.toList))
  | .gt, i, j => some (decide (j.cps.toList < i.cps.toList))
  | .ge, i, j => some (!decide (i.cps.toList < j.cps.toList))
  | _, _, _ => none
def isNon : D → Bool
  | .non => true
  | _ => false
/-- whether data stands in a row of data -/
def inDd (k : Nat) (m : List SO) (x y : D) : Option Bool := match pd m x, pd m y with
  | some d, some (.list ds) => if d.canLay0 = true ∧ PyData.canLayAll0 ds = true ∧ min (PyData.depthAll ds) d.depth ≤ 32 * k + 199 then some (ds.any fun z => PyData.eqv z d) else none
  | _, _ => none
def cmpD (k : Nat) (m : List SO) (o : Cop) (x y : D) : Option Bool := match o with
  | .eq => eqD k m x y
  | .ne => (eqD k m x y).map (!·)
  | .isN => if isNon y = true then some (isNon x) else none
  | .notN => if isNon y = true then some (!isNon x) else none
  | .in_ => match seqOf m y with
    | some ys => if flatD x = true ∧ ys.all flatD = true then some (inD x ys) else inDd k m x y
    | none => none
  | .notIn => match seqOf m y with
    | some ys => if flatD x = true ∧ ys.all flatD = true then some (!inD x ys) else (inDd k m x y).map (!·)
    | none => none
  | o => match x, y with
    | .int i, .int j => cmpI o i j
    | .str i, .str j => cmpS o i j
    | _, _ => none
def cmpM (k : Nat) (o : Cop) (x y : D) : M Bool := fun m => match cmpD k m o x y with
  | some b => some (b, m)
  | none => none

def idxD (x y : D) : M D := fun m => match y with
  | .int i => match x with
    | .str z => if z.length ≤ sizeLine then (match atI z.cps.toList i with
      | some c => some (.str ⟨#[c]⟩, m)
      | none => none) else none
    | x => match seqOf m x with
      | some xs => (match atI xs i with
        | some d => some (d, m)
        | none => none)
      | none => none
  | _ => none
/-- o[lo:hi] -/
def slcD (lo hi : Option Int) (x : D) : M D := fun m => match x with
  | .str z => if z.length ≤ sizeLine then some (.str (cutS z lo hi), m) else none
  | .tup xs => some (.tup (cut xs lo hi), m)
  | .fz xs => some (.loc m.length, m ++ [.lst (cut xs lo hi)])
  | .loc n => match getL m n with
    | some xs => some (.loc m.length, m ++ [.lst (cut xs lo hi)])
    | none => none
  | _ => none

/-- a part of a slice -/
def ptO : List D → Option (Option Int)
  | [] => some none
  | [.int i] => some (some i)
  | _ => none
inductive Blt where | len | int | tuple | list | min | all | sum | dict
def boolsOf : List D → Option (List Bool)
  | [] => some []
  | .bl b :: r => (boolsOf r).map (b :: ·)
  | _ => none
def intsOf : List D → Option (List Int)
  | [] => some []
  | .int b :: r => (intsOf r).map (b :: ·)
  | _ => none
def bltD (b : Blt) (xs : List D) : M D := fun m => match b, xs with
  | .len, [.str x] => if x.length ≤ sizeLine then some (.int x.length, m) else none
  | .len, [x] => match seqOf m x with
    | some ys => some (.int ys.length, m)
    | none => none
  | .int, [.int i] => some (.int i, m)
  | .int, [.bl b] => some (.int (if b then 1 else 0), m)
  | .tuple, [.tup xs] => some (.tup xs, m)
  | .tuple, [x] => match seqOf m x with
    | some ys => some (.tup ys, m)
    | none => none
  | .list, [x] => match seqOf m x with
    | some ys => some (.loc m.length, m ++ [.lst ys])
    | none => none
  | .min, [.int i, .int j] => some (.int (if j < i then j else i), m)
  | .all, [.loc n] => match getL m n with
    | some ys => (match boolsOf ys with
      | some bs => some (.bl (bs.all id), m)
      | none => none)
    | none => none
  | .sum, [.loc n] => match getL m n with
    | some ys => (match intsOf ys with
      | some bs => some (.int bs.sum, m)
      | none => none)
    | none => none
  | .dict, [.dloc n] => match getDc m n with
    | some kvs => some (.dloc m.length, m ++ [.dct kvs])
    | none => none
  | .dict, [.loc n] => match getL m n with
    | some ys => (match pairsD ys with
      | some kvs => some (.dloc m.length, m ++ [.dct (dmerge [] kvs)])
      | none => none)
    | none => none
  | _, _ => none

inductive Mth where | append | pop | extend | join | tindex
def strsOf : List D → Option (List Str)
  | [] => some []
  | .str x :: xs => (strsOf xs).map (x :: ·)
  | _ => none
def methD (f : Mth) (x : D) (ys : List D) : M D := fun m => match f, x, ys with
  | .append, .loc n, [y] => match getL m n with
    | some xs => if xs.length < sizeLine then some (.non, m.set n (.lst (xs ++ [y]))) else none
    | none => none
  | .pop, .loc n, [] => match getL m n with
    | some xs => (match xs[xs.length - 1]? with
      | some y => some (y, m.set n (.lst xs.dropLast))
      | none => none)
    | none => none
  | .extend, .loc n, [.tup ys] => match getL m n with
    | some xs => if xs.length + ys.length ≤ sizeLine then some (.non, m.set n (.lst (xs ++ ys))) else none
    | none => none
  | .extend, .loc n, [.loc j] => match getL m n, getL m j with
    | some xs, some ys => if xs.length + ys.length ≤ sizeLine then some (.non, m.set n (.lst (xs ++ ys))) else none
    | _, _ => none
  | .join, .str a, [y] => match seqOf m y with
    | some ys => (match strsOf ys with
      | some zs => if (zs.map (·.length)).sum + zs.length * a.length ≤ 16777216 then some (.str (Txt.join a zs), m) else none
      | none => none)
    | none => none
  | .tindex, .nd (.tup xs), [.non] => match pds0 xs with
    | some ds => if PyData.canLayAll0 ds = true then (match xs.findIdx? isNon with
      | some j => some (.int j, m)
      | none => none) else none
    | none => none
  | _, _, _ => none

def isiD : D → String → Option Bool
  | .int _, "int" => some true
  | .bl _, "int" => some true
  | .bl _, "bool" => some true
  | .str _, "str" => some true
  | .tup _, "tuple" => some true
  | .loc _, "list" => some true
  | .fz _, "list" => some true
  | .non, _ => some false
  | .int _, _ => some false
  | .bl _, _ => some false
  | .str _, _ => some false
  | .tup _, _ => some false
  | .loc _, _ => some false
  | .fz _, _ => some false
  | .set0, _ => none
  | .fn _, _ => none
  | .nd _, _ => none
  | .dloc _, _ => none

/-- the front texts of tuples -/
def tagsD : List D → Option (List Str)
  | [] => some []
  | .tup (.str t :: _) :: r => (tagsD r).map (t :: ·)
  | _ => none

/-! ### expressions -/
inductive Tg where
  | nm (i : Nat) | tp (is : List Nat) | tn (ts : List (List Nat))
inductive Itk where | one | rng1 | rng2 | zip | rev | txt
inductive Ex where
  | nil | cons (e es : Ex)
  | var (i : Nat) | cst (d : D) | glb (x : Str) (d : D)
  | bin (o : Bop) (a b : Ex) | neg (a : Ex)
  | cmp (o : Cop) (a b : Ex) | chain (o o' : Cop) (a b c : Ex)
  | and (a b : Ex) | or (a b : Ex) | not (a : Ex) | ifx (c a b : Ex)
  | tup (es : Ex) | lst (es : Ex)
  | idx (a i : Ex) | slc (a lo hi : Ex) | rvs (a : Ex)
  | call (f : Str) (es : Ex) | blt (b : Blt) (es : Ex) | meth (f : Mth) (o es : Ex)
  | isi (a : Ex) (t : String)
  | comp (own : List (Str × Nat)) (g : Tg) (ik : Itk) (args cond elt : Ex)
  | gget (x : Str) (kvs : List (Str × D)) (e : Ex) | gin (neg : Bool) (x : Str) (kvs : List (Str × D)) (e : Ex)
  | dsub (ks : List Str) (vs e : Ex)
  | anyR (z : Str) (a : Ex)
  | scons (e es : Ex) | tupM (es : Ex) | fstr (pre : Str) (a : Ex)
  | mkSet | srt (a : Ex) | tupS (a es : Ex) | callv (fs : List Str) (i : Nat) (es : Ex) | tupN (es : Ex) | cot (a : Ex)
  | allG (own : List Str) (g : Tg) (ik : Itk) (args elt : Ex)
  | dnew | dget (a k : Ex) | din (neg : Bool) (k a : Ex) | dgtx (a k x : Ex) | ddsp (ks : List Str) (vs : Ex)

structure Den where
  v : M D
  t : M Bool
  l : M (List D)
def den (v : M D) : Den := ⟨v, v.bnd truthM, M.no⟩
def denB (t : M Bool) : Den := ⟨t.bnd fun b => .ret (.bl b), t, M.no⟩

/-- what a for walks: the items, and the list that must stand still -/
def itemsD (ik : Itk) (xs : List D) : M (List D × Option (Nat × List D)) := fun m => match ik, xs with
  | .one, [.loc n] => match getL m n with
    | some ys => some ((ys, some (n, ys)), m)
    | none => none
  | .one, [.tup ys] => some ((ys, none), m)
  | .one, [.fz ys] => some ((ys, none), m)
  | .rng1, [.int j] => if -(2 ^ 62) ≤ j ∧ j < 2 ^ 62 then some (((List.range j.toNat).map fun (i : Nat) => D.int i, none), m) else none
  | .rng2, [.int i, .int j] => if -(2 ^ 62) ≤ i ∧ i < 2 ^ 62 ∧ -(2 ^ 62) ≤ j ∧ j < 2 ^ 62 then some (((List.range (j - i).toNat).map fun (k : Nat) => D.int (i + k), none), m) else none
  | .zip, [.tup a, .tup b] => some (((a.zip b).map fun p => D.tup [p.1, p.2], none), m)
  | .rev, [.loc n] => match getL m n with
    | some ys => some ((ys.reverse, some (n, ys)), m)
    | none => none
  | .txt, [.str x] => some ((x.cps.toList.map fun c => D.str ⟨#[c]⟩, none), m)
  | _, _ => none
/-- the walked list still stands -/
def Still (g : Option (Nat × List D)) (m : List SO) : Prop := match g with
  | none => True
  | some p => m[p.1]? = some (.lst p.2)
def setsR : Rho → List Nat → List D → Option Rho
  | r, [], [] => some r
  | r, i :: is, d :: ds => setsR (r.set i (some d)) is ds
  | _, _, _ => none
/-- a row of targets, one name or a tuple of names each -/
def setsN : Rho → List (List Nat) → List D → Option Rho
  | r, [], [] => some r
  | r, [i] :: is, d :: ds => setsN (r.set i (some d)) is ds
  | r, t :: is, .tup xs :: ds => match setsR r t xs with
    | some r' => setsN r' is ds
    | none => none
  | _, _, _ => none
def tgt (g : Tg) (d : D) (r : Rho) (m : List SO) : Option Rho := match g with
  | .nm i => some (r.set i (some d))
  | .tp is => match d with
    | .tup xs => setsR r is xs
    | _ => none
  | .tn ts => match d with
    | .tup xs => setsN r ts xs
    | _ => none
def wipeR (r : Rho) : List Nat → Rho
  | [] => r
  | v :: vs => (wipeR r vs).set v none
open Classical in
/-- a comprehension's turns, the new list at n -/
noncomputable def compL (f : D → M (Option D)) (g : Option (Nat × List D)) (n : Nat) : List D → M Unit
  | [] => fun m => if Still g m then some ((), m) else none
  | x :: r => fun m => if Still g m then (match f x m with
    | some (none, m') => compL f g n r m'
    | some (some d, m') => match getL m' n with
      | some acc => if acc.length < sizeLine then compL f g n r (m'.set n (.lst (acc ++ [d]))) else none
      | none => none
    | none => none) else none

open Classical in
/-- the turns of an all -/
noncomputable def allL (f : D → M D) (g : Option (Nat × List D)) : List D → M D
  | [] => fun m => if Still g m then some (.bl true, m) else none
  | x :: r => fun m => if Still g m then (match f x m with
    | some (.bl true, m') => allL f g r m'
    | some (.bl false, m') => some (.bl false, m')
    | _ => none) else none
/-- a turn of an all -/
def aturn (g : Tg) (own : List Str) (f : Rho → M D) : D → M D := fun x m => match tgt g x (own.map fun _ => none) m with
  | none => none
  | some r1 => f r1 m

noncomputable def ev (k : Nat) (cf : Str → List D → M D) : Ex → Rho → Den
  | .nil, _ => ⟨M.no, M.no, .ret []⟩
  | .cons e es, r => ⟨M.no, M.no, (ev k cf e r).v.bnd fun d => (ev k cf es r).l.bnd fun ds => .ret (d :: ds)⟩
  | .var i, r => den (fun m => match r[i]? with
    | some (some d) => some (d, m)
    | _ => none)
  | .cst d, _ => den (.ret d)
  | .glb _ d, _ => den (.ret d)
  | .bin o a b, r => den ((ev k cf a r).v.bnd fun x => (ev k cf b r).v.bnd fun y => binD o x y)
  | .neg a, r => den ((ev k cf a r).v.bnd fun x m => match x with
    | .int i => some (.int (-i), m)
    | _ => none)
  | .cmp o a b, r => denB ((ev k cf a r).v.bnd fun x => (ev k cf b r).v.bnd fun y => cmpM k o x y)
  | .chain o o' a b c, r => denB ((ev k cf a r).v.bnd fun x => (ev k cf b r).v.bnd fun y => (cmpM k o x y).bnd fun t => if t = true then (ev k cf c r).v.bnd fun z => cmpM k o' y z else .ret false)
  | .and a b, r => ⟨(ev k cf a r).v.bnd fun x => (truthM x).bnd fun t => if t = true then (ev k cf b r).v else .ret x,
      (ev k cf a r).t.bnd fun t => if t = true then (ev k cf b r).t else .ret false, M.no⟩
  | .or a b, r => ⟨(ev k cf a r).v.bnd fun x => (truthM x).bnd fun t => if t = true then .ret x else (ev k cf b r).v,
      (ev k cf a r).t.bnd fun t => if t = true then .ret true else (ev k cf b r).t, M.no⟩
  | .not a, r => ⟨(ev k cf a r).v.bnd fun x => (truthM x).bnd fun t => .ret (.bl (!t)), (ev k cf a r).t.bnd fun t => .ret (!t), M.no⟩
  | .ifx c a b, r => ⟨(ev k cf c r).t.bnd fun t => if t = true then (ev k cf a r).v else (ev k cf b r).v, M.no, M.no⟩
  | .tup es, r => den ((ev k cf es r).l.bnd newT)
  | .lst es, r => den ((ev k cf es r).l.bnd newL)
  | .idx a i, r => den ((ev k cf a r).v.bnd fun x => (ev k cf i r).v.bnd fun y => idxD x y)
  | .slc a lo hi, r => den ((ev k cf a r).v.bnd fun x => (ev k cf lo r).l.bnd fun l => (ev k cf hi r).l.bnd fun h m => match ptO l, ptO h with
    | some i, some j => slcD i j x m
    | _, _ => none)
  | .rvs a, r => den ((ev k cf a r).v.bnd fun x m => match x with
    | .loc n => match getL m n with
      | some xs => some (.loc m.length, m ++ [.lst xs.reverse])
      | none => none
    | .tup xs => some (.tup xs.reverse, m)
    | _ => none)
  | .call f es, r => den ((ev k cf es r).l.bnd fun ds => cf f ds)
  | .blt b es, r => den ((ev k cf es r).l.bnd fun ds => bltD b ds)
  | .meth f o es, r => den ((ev k cf o r).v.bnd fun x => (ev k cf es r).l.bnd fun ds => methD f x ds)
  | .isi a t, r => den ((ev k cf a r).v.bnd fun x m => match isiD x t with
    | some b => some (.bl b, m)
    | none => none)
  | .comp own g ik args cond elt, r => den ((ev k cf args r).l.bnd fun ds => (itemsD ik ds).bnd fun it m =>
      match compL (fun x m => match tgt g x (wipeR r (own.map (·.2))) m with
          | none => none
          | some r1 => match cond with
            | .nil => ((ev k cf elt r1).v.bnd fun d => .ret (some d)) m
            | c => ((ev k cf c r1).t.bnd fun t => if t = true then (ev k cf elt r1).v.bnd fun d => .ret (some d) else .ret none) m)
        it.2 m.length it.1 (m ++ [.lst []]) with
      | some (_, m') => some (.loc m.length, m')
      | none => none)
  | .gget _ kvs e, r => den ((ev k cf e r).v.bnd fun x m => match x with
    | .str z => match kvs.lookup z with
      | some d => some (d, m)
      | none => none
    | _ => none)
  | .gin neg _ kvs e, r => denB ((ev k cf e r).v.bnd fun x m => match x with
    | .str z => some ((kvs.lookup z).isSome != neg, m)
    | _ => none)
  | .dsub ks vs e, r => den ((ev k cf vs r).l.bnd fun ds => (ev k cf e r).v.bnd fun x m => match x with
    | .str z => match (ks.zip ds).lookup z with
      | some d => some (d, m)
      | none => none
    | _ => none)
  | .anyR z a, r => den ((ev k cf a r).v.bnd fun x m => match x with
    | .loc n => match getL m n with
      | some xs => match tagsD xs with
        | some ts => some (.bl (ts.any (· == z)), m)
        | none => none
      | none => none
    | _ => none)
  | .scons e es, r => ⟨M.no, M.no, (ev k cf e r).v.bnd fun x m => match seqOf m x with
    | some xs => ((ev k cf es r).l.bnd fun ds => .ret (xs ++ ds)) m
    | none => none⟩
  | .tupM es, r => den ((ev k cf es r).l.bnd newT)
  | .fstr pre a, r => den ((ev k cf a r).v.bnd fun x m => match x with
    | .int i => if i.natAbs < 1000000000 ∧ pre.length + (Str.ofString (toString i)).length ≤ sizeLine then some (.str (pre ++ Str.ofString (toString i)), m) else none
    | _ => none)
  | .callv fs i es, r => den ((ev k cf es r).l.bnd fun ds m => match r[i]? with
    | some (some (.fn f)) => if fs.contains f = true then cf f ds m else none
    | _ => none)
  | .tupN es, r => den ((ev k cf es r).l.bnd fun ds m => if ds.length ≤ sizeLine then some (.nd (.tup ds), m) else none)
  | .cot a, r => den ((ev k cf a r).v.bnd fun x => .ret (match x with
    | .nd d => d
    | d => d))
  | .mkSet, _ => den (.ret .set0)
  | .srt a, r => den ((ev k cf a r).v.bnd fun x m => match x with
    | .set0 => newL [] m
    | _ => none)
  | .tupS a es, r => den ((ev k cf a r).v.bnd fun x => (ev k cf es r).l.bnd fun ds m => match x with
    | .tup xs => newT (xs ++ ds) m
    | _ => none)
  | .allG own g ik args elt, r => den ((ev k cf args r).l.bnd fun ds => (itemsD ik ds).bnd fun it =>
      allL (aturn g own fun r1 => (ev k cf elt r1).v) it.2 it.1)
  | .dnew, _ => den (fun m => some (.dloc m.length, m ++ [.dct []]))
  | .dget a i, r => den ((ev k cf a r).v.bnd fun x => (ev k cf i r).v.bnd fun y m => match dctAt m x y with
    | some p => match dvalD p.1 p.2 with
      | some d => some (d, m)
      | none => none
    | none => none)
  | .din neg i a, r => denB ((ev k cf i r).v.bnd fun y => (ev k cf a r).v.bnd fun x m => match dctAt m x y with
    | some p => some ((dvalD p.1 p.2).isSome != neg, m)
    | none => none)
  | .dgtx a i z, r => den ((ev k cf a r).v.bnd fun x => (ev k cf i r).v.bnd fun y => (ev k cf z r).v.bnd fun w m => match dctAt m x y with
    | some p => some ((dvalD p.1 p.2).getD w, m)
    | none => none)
  | .ddsp ks vs, r => den ((ev k cf vs r).l.bnd fun ds m => some (.dloc m.length, m ++ [.dct (dmerge [] ((ks.zip ds).map fun q => (.inr q.1, q.2)))]))
end Mi
namespace Mi
open PySem PySem.Spec PyProof.Rows L2

inductive Out where
  | nx | rt (d : D) | bk | ct
inductive Pt where
  | lit (x : Str) | cap (i : Nat) | wild | alt (xs : List Str)
inductive Sm where
  | pass | never | brk | cont | retN
  | seq (a b : Sm) | set (i : Nat) (e : Ex) | unp (is : List Nat) (e : Ex) | unpN (ts : List (List Nat)) (e : Ex) | setIx (o i e : Ex) | dput (o i e : Ex)
  | aug (i : Nat) (o : Bop) (e : Ex) | ret (e : Ex) | expr (e : Ex)
  | ifs (c : Ex) (a b : Sm) | whl (c : Ex) (a : Sm) | for_ (g : Tg) (ik : Itk) (args : Ex) (b : Sm)
  | mtch (e : Ex) (cs : Sm) | case (p : Option (List Pt)) (gd : Ex) (body rest : Sm)

abbrev MS := Rho → M (Out × Rho)
structure Dst where
  x : MS
  c : D → MS
def dst (x : MS) : Dst := ⟨x, fun _ _ => M.no⟩

open Classical in
noncomputable def forL (f : D → MS) (g : Option (Nat × List D)) : List D → MS
  | [], r => fun m => if Still g m then some ((.nx, r), m) else none
  | x :: l, r => fun m => if Still g m then (match f x r m with
    | some ((.nx, r'), m') => forL f g l r' m'
    | some ((.ct, r'), m') => forL f g l r' m'
    | some ((.bk, r'), m') => some ((.nx, r'), m')
    | some ((.rt d, r'), m') => some ((.rt d, r'), m')
    | none => none) else none

def whN (c : Rho → M Bool) (f : MS) : Nat → MS
  | 0, _ => M.no
  | n + 1, r => (c r).bnd fun t => if t = true then (fun m => match f r m with
    | some ((.nx, r'), m') => whN c f n r' m'
    | some ((.ct, r'), m') => whN c f n r' m'
    | some ((.bk, r'), m') => some ((.nx, r'), m')
    | some ((.rt d, r'), m') => some ((.rt d, r'), m')
    | none => none) else .ret (.nx, r)
theorem whN_mono {c : Rho → M Bool} {f : MS} : ∀ {n j : Nat} {r : Rho} {m : List SO} {x}, whN c f n r m = some x → n ≤ j → whN c f j r m = some x
  | 0, _, _, _, _, h, _ => by cases h
  | n + 1, 0, _, _, _, _, hj => absurd hj (by omega)
  | n + 1, j + 1, r, m, x, h, hj => by
    have ih : ∀ {r m x}, whN c f n r m = some x → whN c f j r m = some x := fun h => whN_mono h (by omega)
    simp only [whN, M.bnd] at h ⊢
    cases hc : c r m with
    | none => rw [hc] at h; cases h
    | some p =>
      obtain ⟨t, m1⟩ := p
      rw [hc] at h
      simp only at h ⊢
      cases t with
      | false => simpa using h
      | true =>
        simp only [if_true] at h ⊢
        cases hf : f r m1 with
        | none => rw [hf] at h; cases h
        | some q =>
          obtain ⟨⟨o, r'⟩, m2⟩ := q
          rw [hf] at h
          cases o with
          | nx => exact ih h
          | ct => exact ih h
          | bk => exact h
          | rt d => exact h
open Classical in
noncomputable def whC (c : Rho → M Bool) (f : MS) : MS := fun r m =>
  if h : ∃ n x, whN c f n r m = some x then some (Classical.choose (Classical.choose_spec h)) else none
theorem whC_of {c : Rho → M Bool} {f : MS} {n : Nat} {r : Rho} {m : List SO} {x} (h : whN c f n r m = some x) : whC c f r m = some x := by
  have hx : ∃ n x, whN c f n r m = some x := ⟨n, x, h⟩
  unfold whC
  rw [dif_pos hx]
  have e := Classical.choose_spec (Classical.choose_spec hx)
  have e1 := whN_mono e (Nat.le_max_left _ n)
  have e2 := whN_mono h (Nat.le_max_right (Classical.choose hx) n)
  rw [e1] at e2
  exact e2
theorem whC_to {c : Rho → M Bool} {f : MS} {r : Rho} {m : List SO} {x} (h : whC c f r m = some x) : ∃ n, whN c f n r m = some x := by
  unfold whC at h
  split at h
  · rename_i hx
    cases h
    exact ⟨_, Classical.choose_spec (Classical.choose_spec hx)⟩
  · cases h

/-- a row of patterns against a tuple's items -/
def ptsD : List Pt → List D → Rho → Option (Option Rho)
  | [], [], r => some (some r)
  | .wild :: ps, _ :: xs, r => ptsD ps xs r
  | .cap i :: ps, x :: xs, r => ptsD ps xs (r.set i (some x))
  | .lit w :: ps, x :: xs, r => match x with
    | .str z => if z == w then ptsD ps xs r else some none
    | .non => some none
    | .bl _ => some none
    | .int _ => some none
    | _ => none
  | .alt ws :: ps, x :: xs, r => match x with
    | .str z => if ws.contains z then ptsD ps xs r else some none
    | _ => none
  | _, _, _ => none

noncomputable def ex (k : Nat) (cf : Str → List D → M D) : Sm → Dst
  | .pass => ⟨fun r => .ret (.nx, r), fun _ r => .ret (.nx, r)⟩
  | .never => dst fun _ => M.no
  | .brk => dst fun r => .ret (.bk, r)
  | .cont => dst fun r => .ret (.ct, r)
  | .retN => dst fun r => .ret (.rt .non, r)
  | .seq a b => dst fun r m => match (ex k cf a).x r m with
    | some ((.nx, r'), m') => (ex k cf b).x r' m'
    | o => o
  | .set i e => dst fun r => (ev k cf e r).v.bnd fun d => .ret (.nx, r.set i (some d))
  | .unp is e => dst fun r => (ev k cf e r).v.bnd fun d m => match tgt (.tp is) d r m with
    | some r' => some ((.nx, r'), m)
    | none => none
  | .unpN is e => dst fun r => (ev k cf e r).v.bnd fun d m => match tgt (.tn is) d r m with
    | some r' => some ((.nx, r'), m)
    | none => none
  | .setIx o i e => dst fun r => (ev k cf e r).v.bnd fun d => (ev k cf o r).v.bnd fun x => (ev k cf i r).v.bnd fun y m => match x, y with
    | .loc n, .int j => match getL m n with
      | some xs => (match ixN xs.length j with
        | some q => some ((.nx, r), m.set n (.lst (xs.set q d)))
        | none => none)
      | none => none
    | _, _ => none
  | .dput o i e => dst fun r => (ev k cf e r).v.bnd fun d => (ev k cf o r).v.bnd fun x => (ev k cf i r).v.bnd fun y m => match x, keyD y with
    | .dloc n, some q => match getDc m n with
      | some kvs => if kvs.length < sizeLine then some ((.nx, r), m.set n (.dct (dputD kvs q d))) else none
      | none => none
    | _, _ => none
  | .aug i o e => dst fun r m => match r[i]? with
    | some (some (.int x)) => ((ev k cf e r).v.bnd fun d m => match d with
      | .int y => (match o with
        | .add => some ((.nx, r.set i (some (.int (x + y)))), m)
        | .sub => some ((.nx, r.set i (some (.int (x - y)))), m)
        | _ => none)
      | _ => none) m
    | _ => none
  | .ret e => dst fun r => (ev k cf e r).v.bnd fun d => .ret (.rt d, r)
  | .expr e => dst fun r => (ev k cf e r).v.bnd fun _ => .ret (.nx, r)
  | .ifs c a b => dst fun r => (ev k cf c r).t.bnd fun t => if t = true then (ex k cf a).x r else (ex k cf b).x r
  | .whl c a => dst (whC (fun r => (ev k cf c r).t) (ex k cf a).x)
  | .for_ g ik args b => dst fun r => (ev k cf args r).l.bnd fun ds => (itemsD ik ds).bnd fun it =>
      forL (fun d r m => match tgt g d r m with
        | some r' => (ex k cf b).x r' m
        | none => none) it.2 it.1 r
  | .mtch e cs => dst fun r => (ev k cf e r).v.bnd fun d => (ex k cf cs).c d r
  | .case p gd body rest => ⟨fun _ => M.no, fun d r m => match p with
    | none => (ex k cf body).x r m
    | some ps => match d with
      | .tup xs => if xs.length = ps.length then (match ptsD ps xs r with
          | none => none
          | some none => (ex k cf rest).c d r m
          | some (some r') => match gd with
            | .nil => (ex k cf body).x r' m
            | g => match (ev k cf g r').t m with
              | some (true, m') => (ex k cf body).x r' m'
              | some (false, m') => (ex k cf rest).c d r' m'
              | none => none)
        else (ex k cf rest).c d r m
      | _ => none⟩

/-! ### defs -/
mutual
def ltD (n : Nat) : D → Bool
  | .tup xs => ltDs n xs
  | .fz xs => ltDs n xs
  | .loc j => decide (j < n)
  | .dloc j => decide (j < n)
  | .nd d => ltD n d
  | _ => true
def ltDs (n : Nat) : List D → Bool
  | [] => true
  | x :: xs => ltD n x && ltDs n xs
end
def SO.vals : SO → List D
  | .lst xs => xs
  | .dct kvs => kvs.map (·.2)
def Kept (m m' : List SO) : Prop := m.length ≤ m'.length ∧ ∀ i, i < m.length → m'[i]? = m[i]? ∨ ∃ o, m'[i]? = some o ∧ ltDs m.length o.vals = true
open Classical in
noncomputable def gc (m : List SO) (d : D) (m' : List SO) : D × List SO :=
  if Kept m m' then
    (if ltD m.length d = true then (d, m'.take m.length) else match d with
      | .loc j => match m'[j]? with
        | some o => if ltDs m.length o.vals = true then (.loc m.length, m'.take m.length ++ [o]) else (d, m')
        | none => (d, m')
      | .dloc j => match m'[j]? with
        | some o => if ltDs m.length o.vals = true then (.dloc m.length, m'.take m.length ++ [o]) else (d, m')
        | none => (d, m')
      | _ => (d, m'))
  else (d, m')
structure Fn where
  ps : List Str
  N : List Str
  body : Sm
  gen : Bool := false
  /-- a def that calls such defs alone: one level of room each -/
  nn : Bool := false
/-- a def's run over what it calls -/
noncomputable def callF (k : Nat) (cf : Str → List D → M D) (fn : Fn) (ds : List D) : M D := fun m =>
  if ds.length = fn.ps.length then (match (ex k cf fn.body).x (ds.map some ++ List.replicate (fn.N.length - ds.length) none) m with
    | some ((.nx, _), m') => some (gc m .non m')
    | some ((.rt d, _), m') => some (gc m d m')
    | _ => none) else none
noncomputable def runN (tb : Str → Option Fn) : Nat → Str → List D → M D
  | 0, _, _ => M.no
  | k + 1, f, ds => match tb f with
    | none => M.no
    | some fn => if fn.nn = true then callF (k / 2) (runN tb k) fn ds else M.no
noncomputable def run (tb : Str → Option Fn) : Nat → Str → List D → M D
  | 0, _, _ => M.no
  | k + 1, f, ds => match tb f with
    | none => M.no
    | some fn => if fn.nn = true then runN tb (2 * (k + 1)) f ds else callF k (run tb k) fn ds
end Mi
namespace Mi
open PySem PySem.Spec PyProof.Rows L2
variable [TabsC]

structure RSt (K : PySem.W.Frag) (A : List Addr) (H : Hp) (r : Rho) (σ : L2.St) : Prop where
  len : σ.length = r.length
  at_ : ∀ (i : Nat) (d : D), r[i]? = some (some d) → ∃ v, σ[i]? = some (some v) ∧ RD K A H d v
section
variable {K : PySem.W.Frag} {A A' : List Addr} {H H' : Hp} {r : Rho} {σ : L2.St} {m m' : List SO}
theorem RSt.mono (e : Ext A H A' H') (h : RSt K A H r σ) : RSt K A' H' r σ := ⟨h.len, fun i d q => by
  obtain ⟨v, h1, h2⟩ := h.at_ i d q
  exact ⟨v, h1, h2.mono e⟩⟩
theorem RSt.set (h : RSt K A H r σ) {i : Nat} {d : D} {v : V} (q : RD K A H d v) : RSt K A H (r.set i (some d)) (σ.set i (some v)) where
  len := by rw [List.length_set, List.length_set, h.len]
  at_ := fun j e hj => by
    by_cases hij : j = i
    · subst hij
      have hl : j < r.length := by
        have := (List.getElem?_eq_some_iff.mp hj).1
        rwa [List.length_set] at this
      rw [List.getElem?_set_self hl] at hj
      cases hj
      exact ⟨v, List.getElem?_set_self (by rw [h.len]; exact hl), q⟩
    · rw [List.getElem?_set_ne (Ne.symm hij)] at hj
      obtain ⟨w, h1, h2⟩ := h.at_ j e hj
      exact ⟨w, by rw [List.getElem?_set_ne (Ne.symm hij)]; exact h1, h2⟩
theorem RSt.unset (h : RSt K A H r σ) (i : Nat) : RSt K A H (r.set i none) (σ.set i none) where
  len := by rw [List.length_set, List.length_set, h.len]
  at_ := fun j e hj => by
    by_cases hij : j = i
    · subst hij
      by_cases hl : j < r.length
      · rw [List.getElem?_set_self hl] at hj
        cases hj
      · rw [List.getElem?_eq_none (by rw [List.length_set]; omega)] at hj
        cases hj
    · rw [List.getElem?_set_ne (Ne.symm hij)] at hj
      obtain ⟨w, h1, h2⟩ := h.at_ j e hj
      exact ⟨w, by rw [List.getElem?_set_ne (Ne.symm hij)]; exact h1, h2⟩
theorem RSt.wipe (h : RSt K A H r σ) : ∀ vs : List Nat, RSt K A H (wipeR r vs) (L2.wipe σ vs)
  | [] => h
  | v :: vs => (RSt.wipe h vs).unset v

/-- what is still to be done, and what is wanted behind it -/
def Pend (K : PySem.W.Frag) {α : Type} (σ : L2.St) (H : Hp) (xs : List (D × V)) (c : Rho → M α) (Fin : List Addr → Hp → Rho → α → Prop) : Prop :=
  ∃ A m r a m', Rl K A H m ∧ RSt K A H r σ ∧ (∀ p ∈ xs, RD K A H p.1 p.2) ∧ c r m = some (a, m') ∧ ∀ A' H', Ext A H A' H' → Rl K A' H' m' → Fin A' H' r a
def finV (K : PySem.W.Frag) (Q : VK) : List Addr → Hp → Rho → D → Prop := fun A H _ d => ∀ v, RD K A H d v → Q v H
def finT (Q : Bool → Hp → Prop) : List Addr → Hp → Rho → Bool → Prop := fun _ H _ b => Q b H
def finL (K : PySem.W.Frag) (Q : List V → Hp → Prop) : List Addr → Hp → Rho → List D → Prop := fun A H _ ds => ∀ vs, RDs K A H ds vs → Q vs H
def finX (K : PySem.W.Frag) (E : Ends) : List Addr → Hp → Rho → Out × Rho → Prop := fun A H _ p => match p.1 with
  | .nx => ∀ σ, RSt K A H p.2 σ → E.nx σ H
  | .bk => ∀ σ, RSt K A H p.2 σ → E.bk σ H
  | .ct => ∀ σ, RSt K A H p.2 σ → E.ct σ H
  | .rt d => ∀ v, RD K A H d v → E.rt v H
def tV (K : PySem.W.Frag) (c : Rho → M D) : TE := fun σ H Q => Pend K σ H [] c (finV K Q)
def tT (K : PySem.W.Frag) (c : Rho → M Bool) : TT := fun σ H Q => Pend K σ H [] c (finT Q)
def tL (K : PySem.W.Frag) (c : Rho → M (List D)) : TA := fun σ H Q => Pend K σ H [] c (finL K Q)
def tX (K : PySem.W.Frag) (c : MS) : TS := fun E σ H => Pend K σ H [] c (finX K E)

theorem bnd_some {α β : Type} {x : M α} {f : α → M β} {m m' : List SO} {b : β} (h : (x.bnd f) m = some (b, m')) : ∃ a m1, x m = some (a, m1) ∧ f a m1 = some (b, m') := by
  unfold M.bnd at h
  split at h
  · exact ⟨_, _, by assumption, h⟩
  · cases h

variable {α β : Type} {Fin : List Addr → Hp → Rho → β → Prop} {xs : List (D × V)}
theorem Pend.v {f : Rho → M D} {g : D → Rho → M β} (h : Pend K σ H xs (fun r => (f r).bnd fun d => g d r) Fin) :
    tV K f σ H fun v H1 => ∃ d, Pend K σ H1 ((d, v) :: xs) (g d) Fin := by
  obtain ⟨A, m, r, b, m', R, S, hx, hc, q⟩ := h
  obtain ⟨d, m1, h1, h2⟩ := bnd_some hc
  exact ⟨A, m, r, d, m1, R, S, (fun _ z => nomatch z), h1, fun A1 H1 e1 R1 v hv => ⟨d, A1, m1, r, b, m', R1, S.mono e1, fun p hp => by
    rcases List.mem_cons.mp hp with rfl | hp
    · exact hv
    · exact (hx p hp).mono e1, h2, fun A2 H2 e2 R2 => q A2 H2 (e1.trans e2) R2⟩⟩
theorem Pend.t {f : Rho → M Bool} {g : Bool → Rho → M β} (h : Pend K σ H xs (fun r => (f r).bnd fun d => g d r) Fin) :
    tT K f σ H fun b H1 => Pend K σ H1 xs (g b) Fin := by
  obtain ⟨A, m, r, b, m', R, S, hx, hc, q⟩ := h
  obtain ⟨d, m1, h1, h2⟩ := bnd_some hc
  exact ⟨A, m, r, d, m1, R, S, (fun _ z => nomatch z), h1, fun A1 H1 e1 R1 => ⟨A1, m1, r, b, m', R1, S.mono e1, fun p hp => (hx p hp).mono e1, h2, fun A2 H2 e2 R2 => q A2 H2 (e1.trans e2) R2⟩⟩
/-- a list of values at hand -/
def PendL (K : PySem.W.Frag) {α : Type} (σ : L2.St) (H : Hp) (xs : List (D × V)) (ds : List D) (vs : List V) (c : Rho → M α) (Fin : List Addr → Hp → Rho → α → Prop) : Prop :=
  ∃ A m r a m', Rl K A H m ∧ RSt K A H r σ ∧ (∀ p ∈ xs, RD K A H p.1 p.2) ∧ RDs K A H ds vs ∧ c r m = some (a, m') ∧ ∀ A' H', Ext A H A' H' → Rl K A' H' m' → Fin A' H' r a
theorem Pend.l {f : Rho → M (List D)} {g : List D → Rho → M β} (h : Pend K σ H xs (fun r => (f r).bnd fun d => g d r) Fin) :
    tL K f σ H fun vs H1 => ∃ ds, PendL K σ H1 xs ds vs (g ds) Fin := by
  obtain ⟨A, m, r, b, m', R, S, hx, hc, q⟩ := h
  obtain ⟨d, m1, h1, h2⟩ := bnd_some hc
  exact ⟨A, m, r, d, m1, R, S, (fun _ z => nomatch z), h1, fun A1 H1 e1 R1 v hv => ⟨d, A1, m1, r, b, m', R1, S.mono e1, fun p hp => (hx p hp).mono e1, hv, h2, fun A2 H2 e2 R2 => q A2 H2 (e1.trans e2) R2⟩⟩
theorem Pend.l2 {f : Rho → M (List D)} {g : List D → Rho → M β} {es : List D} {ws : List V} (h : PendL K σ H xs es ws (fun r => (f r).bnd fun d => g d r) Fin) :
    tL K f σ H fun vs H1 => ∃ A m r b m' ds, Rl K A H1 m ∧ RSt K A H1 r σ ∧ (∀ p ∈ xs, RD K A H1 p.1 p.2) ∧ RDs K A H1 es ws ∧ RDs K A H1 ds vs ∧ g ds r m = some (b, m') ∧ ∀ A' H', Ext A H1 A' H' → Rl K A' H' m' → Fin A' H' r b := by
  obtain ⟨A, m, r, b, m', R, S, hx, hd, hc, q⟩ := h
  obtain ⟨d, m1, h1, h2⟩ := bnd_some hc
  exact ⟨A, m, r, d, m1, R, S, (fun _ z => nomatch z), h1, fun A1 H1 e1 R1 v hv => ⟨A1, m1, r, b, m', d, R1, S.mono e1, fun p hp => (hx p hp).mono e1, hd.mono e1, hv, h2, fun A2 H2 e2 R2 => q A2 H2 (e1.trans e2) R2⟩⟩
theorem Pend.fin {b : β} (h : Pend K σ H xs (fun _ => M.ret b) Fin) : ∃ A m r, Rl K A H m ∧ RSt K A H r σ ∧ (∀ p ∈ xs, RD K A H p.1 p.2) ∧ Fin A H r b := by
  obtain ⟨A, m, r, b, m', R, S, hx, hc, q⟩ := h
  cases hc
  exact ⟨A, m, r, R, S, hx, q A H (Ext.refl A H) R⟩
theorem Pend.drop {f : Rho → M D} {Q : VK} (h : Pend K σ H xs f (finV K Q)) : tV K f σ H Q := by
  obtain ⟨A, m, r, b, m', R, S, hx, hc, q⟩ := h
  exact ⟨A, m, r, b, m', R, S, (fun _ z => nomatch z), hc, q⟩
theorem Pend.dropT {f : Rho → M Bool} {Q : Bool → Hp → Prop} (h : Pend K σ H xs f (finT Q)) : tT K f σ H Q := by
  obtain ⟨A, m, r, b, m', R, S, hx, hc, q⟩ := h
  exact ⟨A, m, r, b, m', R, S, (fun _ z => nomatch z), hc, q⟩
end

section
variable {X : Cx} {e : Expr} {es : List Expr}
theorem PE.imp {t t' : TE} (h : PE X e t) (w : ∀ σ H Q, t' σ H Q → t σ H Q) : PE X e t' := ⟨fun pins s σ H Q I q => h.run pins s σ H Q I (w σ H Q q)⟩
theorem PT.imp {t t' : TT} (h : PT X e t) (w : ∀ σ H Q, t' σ H Q → t σ H Q) : PT X e t' := ⟨fun pins s σ H Q I q => h.run pins s σ H Q I (w σ H Q q)⟩
theorem PA.imp {t t' : TA} (h : PA X es t) (w : ∀ σ H Q, t' σ H Q → t σ H Q) : PA X es t' := ⟨fun p pins s σ H Q I q => h.run p pins s σ H Q I (w σ H Q q)⟩
theorem PS.imp {st : Stmt} {t t' : TS} (h : PS X st t) (w : ∀ E σ H, t' E σ H → t E σ H) : PS X st t' := ⟨fun pins s σ H E I q => h.run pins s σ H E I (w E σ H q)⟩
theorem PSs.imp {st : List Stmt} {t t' : TS} (h : PSs X st t) (w : ∀ E σ H, t' E σ H → t E σ H) : PSs X st t' := ⟨fun pins s σ H E I q => h.run pins s σ H E I (w E σ H q)⟩
end

/-! ### operators -/
/-- two values at hand, an operation on them, what is wanted -/
def r2 (K : PySem.W.Frag) (f : D → D → M D) : R2 := fun v w H Q => ∃ A m x y d m', Rl K A H m ∧ RD K A H x v ∧ RD K A H y w ∧ f x y m = some (d, m') ∧ ∀ A' H', Ext A H A' H' → Rl K A' H' m' → ∀ u, RD K A' H' d u → Q u H'
def r2B (K : PySem.W.Frag) (f : D → D → M Bool) : R2 := fun v w H Q => ∃ A m x y b m', Rl K A H m ∧ RD K A H x v ∧ RD K A H y w ∧ f x y m = some (b, m') ∧ ∀ A' H', Ext A H A' H' → Rl K A' H' m' → Q (.bl b) H'
def bopOf : Bop → Operator
  | .add => .Add | .sub => .Sub | .mul => .Mult | .fdiv => .FloorDiv | .mod => .Mod | .pow => .Pow
def copOf : Cop → CmpOp
  | .eq => .Eq | .ne => .NotEq | .lt => .Lt | .le => .LtE | .gt => .Gt | .ge => .GtE | .isN => .Is | .notN => .IsNot | .in_ => .In | .notIn => .NotIn
variable {X : Cx}

theorem tup_ne {K : PySem.W.Frag} {A : List Addr} {H : Hp} {m : List SO} (R : Rl K A H m) {a : Addr} {vs : List V} {n : Nat} (h1 : H a = some (.tup vs)) (h2 : A[n]? = some a) : False := by
  obtain ⟨ws, e, st⟩ := R.mem (List.mem_of_getElem? h2)
  rw [h1] at e
  cases e
  exact st
theorem getL_at {K : PySem.W.Frag} {A : List Addr} {H : Hp} {m : List SO} (R : Rl K A H m) {n : Nat} {xs : List D} {a : Addr} {P : Prop} (h : getL m n = some xs) (ha : A[n]? = some a ∧ P) : ∃ vs, H a = some (.lst vs) ∧ RDs K A H xs vs := by
  obtain ⟨o, e, q⟩ := R.at_ ha.1
  unfold getL at h
  rw [e] at h
  cases o with
  | lst ys => cases h; exact q
  | dct ys => cases h
theorem getDc_at {K : PySem.W.Frag} {A : List Addr} {H : Hp} {m : List SO} (R : Rl K A H m) {n : Nat} {xs : List (Key × D)} {a : Addr} {P : Prop} (h : getDc m n = some xs) (ha : A[n]? = some a ∧ P) :
    ∃ vs : List (Key × V), H a = some (.dK vs) ∧ xs.map (·.1) = vs.map (·.1) ∧ RDs K A H (xs.map (·.2)) (vs.map (·.2)) := by
  obtain ⟨o, e, q⟩ := R.at_ ha.1
  unfold getDc at h
  rw [e] at h
  cases o with
  | lst ys => cases h
  | dct ys => cases h; exact q
theorem dval_ok {K : PySem.W.Frag} {A : List Addr} {H : Hp} (k : Key) : ∀ {xs : List (Key × D)} {vs : List (Key × V)}, xs.map (·.1) = vs.map (·.1) → RDs K A H (xs.map (·.2)) (vs.map (·.2)) →
    (dvalD xs k = none ∧ valV vs k = none) ∨ ∃ d v, dvalD xs k = some d ∧ valV vs k = some v ∧ RD K A H d v
  | [], vs, hk, h => by
    cases vs with
    | nil => exact .inl ⟨rfl, rfl⟩
    | cons _ _ => simp at hk
  | (q, d) :: xs, vs, hk, h => by
    cases vs with
    | nil => simp at hk
    | cons w vs =>
      obtain ⟨q2, v⟩ := w
      rw [List.map_cons, List.map_cons] at hk
      injection hk with hk1 hk2
      simp only at hk1
      subst hk1
      rw [List.map_cons, List.map_cons] at h
      obtain ⟨v', r', e, h1, h2⟩ := h
      injection e with e1 e2
      subst e1 e2
      by_cases hq : q = k
      · exact .inr ⟨d, v, by simp [dvalD, List.find?_cons, hq], valV_pos hq, h1⟩
      · rcases dval_ok k hk2 h2 with ⟨a1, a2⟩ | ⟨d', v', a1, a2, a3⟩
        · exact .inl ⟨by simpa [dvalD, List.find?_cons, hq] using a1, by rw [valV_neg hq]; exact a2⟩
        · exact .inr ⟨d', v', by simpa [dvalD, List.find?_cons, hq] using a1, by rw [valV_neg hq]; exact a2, a3⟩
theorem dany_ok (k : Key) : ∀ {xs : List (Key × D)} {vs : List (Key × V)}, xs.map (·.1) = vs.map (·.1) → (xs.any fun kv => decide (kv.1 = k)) = (vs.any fun kv => decide (kv.1 = k))
  | [], vs, hk => by
    cases vs with
    | nil => rfl
    | cons _ _ => simp at hk
  | x :: xs, vs, hk => by
    cases vs with
    | nil => simp at hk
    | cons w vs =>
      rw [List.map_cons, List.map_cons] at hk
      injection hk with hk1 hk2
      rw [List.any_cons, List.any_cons, dany_ok k hk2, hk1]
theorem drepl_ok {K : PySem.W.Frag} {A : List Addr} {H : Hp} (k : Key) {d : D} {v : V} (hd : RD K A H d v) : ∀ {xs : List (Key × D)} {vs : List (Key × V)}, xs.map (·.1) = vs.map (·.1) → RDs K A H (xs.map (·.2)) (vs.map (·.2)) →
    (xs.map fun kv => if kv.1 = k then (kv.1, d) else kv).map (·.1) = (vs.map fun kv => if kv.1 = k then (kv.1, v) else kv).map (·.1) ∧ RDs K A H ((xs.map fun kv => if kv.1 = k then (kv.1, d) else kv).map (·.2)) ((vs.map fun kv => if kv.1 = k then (kv.1, v) else kv).map (·.2))
  | [], vs, hk, h => by
    cases vs with
    | nil => exact ⟨rfl, rfl⟩
    | cons _ _ => simp at hk
  | (q, e) :: xs, vs, hk, h => by
    cases vs with
    | nil => simp at hk
    | cons w vs =>
      obtain ⟨q2, u⟩ := w
      rw [List.map_cons, List.map_cons] at hk
      injection hk with hk1 hk2
      simp only at hk1
      subst hk1
      rw [List.map_cons, List.map_cons] at h
      obtain ⟨v', r', e', h1, h2⟩ := h
      injection e' with e1 e2
      subst e1 e2
      obtain ⟨i1, i2⟩ := drepl_ok k hd hk2 h2
      by_cases hq : q = k
      · subst hq
        refine ⟨by simp only [List.map_cons, if_true]; exact congrArg _ i1, ?_⟩
        simp only [List.map_cons, if_true]
        exact ⟨v, _, rfl, hd, i2⟩
      · refine ⟨by simp only [List.map_cons, if_neg hq]; exact congrArg _ i1, ?_⟩
        simp only [List.map_cons, if_neg hq]
        exact ⟨u, _, rfl, h1, i2⟩
theorem dput_ok {K : PySem.W.Frag} {A : List Addr} {H : Hp} (k : Key) {d : D} {v : V} (hd : RD K A H d v) {xs : List (Key × D)} {vs : List (Key × V)} (hk : xs.map (·.1) = vs.map (·.1)) (h : RDs K A H (xs.map (·.2)) (vs.map (·.2))) :
    (dputD xs k d).map (·.1) = (putK vs k v).map (·.1) ∧ RDs K A H ((dputD xs k d).map (·.2)) ((putK vs k v).map (·.2)) := by
  unfold dputD putK
  rw [dany_ok k hk]
  split
  · exact drepl_ok k hd hk h
  · refine ⟨by simp [hk], ?_⟩
    rw [List.map_append, List.map_append]
    exact h.append (RDs.one hd)
theorem dmerge_ok {K : PySem.W.Frag} {A : List Addr} {H : Hp} : ∀ {ys : List (Key × D)} {ws : List (Key × V)} {xs : List (Key × D)} {vs : List (Key × V)}, ys.map (·.1) = ws.map (·.1) → RDs K A H (ys.map (·.2)) (ws.map (·.2)) →
    xs.map (·.1) = vs.map (·.1) → RDs K A H (xs.map (·.2)) (vs.map (·.2)) → (dmerge xs ys).map (·.1) = (mergeK vs ws).map (·.1) ∧ RDs K A H ((dmerge xs ys).map (·.2)) ((mergeK vs ws).map (·.2))
  | [], ws, xs, vs, hk, h, gk, g => by
    cases ws with
    | nil => exact ⟨gk, g⟩
    | cons _ _ => simp at hk
  | (q, e) :: ys, ws, xs, vs, hk, h, gk, g => by
    cases ws with
    | nil => simp at hk
    | cons w ws =>
      obtain ⟨q2, u⟩ := w
      rw [List.map_cons, List.map_cons] at hk
      injection hk with hk1 hk2
      simp only at hk1
      subst hk1
      rw [List.map_cons, List.map_cons] at h
      obtain ⟨v', r', e', h1, h2⟩ := h
      injection e' with e1 e2
      subst e1 e2
      obtain ⟨p1, p2⟩ := dput_ok q h1 gk g
      exact dmerge_ok (xs := dputD xs q e) (vs := putK vs q u) hk2 h2 p1 p2
theorem keyD_ok {K : PySem.W.Frag} {A : List Addr} {H : Hp} {y : D} {w : V} {q : Key} (h : keyD y = some q) (hy : RD K A H y w) : w = kV q := by
  cases y <;> simp [keyD] at h
  · subst h; exact hy
  · subst h; exact hy
theorem dctAt_ok {K : PySem.W.Frag} {A : List Addr} {H : Hp} {m : List SO} (R : Rl K A H m) {x y : D} {v w : V} {p : List (Key × D) × Key} (h : dctAt m x y = some p) (hx : RD K A H x v) (hy : RD K A H y w) :
    ∃ a vs, v = .ref a ∧ w = kV p.2 ∧ H a = some (.dK vs) ∧ p.1.map (·.1) = vs.map (·.1) ∧ RDs K A H (p.1.map (·.2)) (vs.map (·.2)) := by
  unfold dctAt at h
  split at h
  · rename_i n q hq
    split at h
    · rename_i kvs hg
      cases h
      obtain ⟨a, rfl, h1⟩ := hx
      obtain ⟨vs, k1, k2, k3⟩ := getDc_at R hg h1
      exact ⟨a, vs, rfl, keyD_ok hq hy, k1, k2, k3⟩
    · cases h
  · cases h
theorem allocD_fin {K : PySem.W.Frag} {A : List Addr} {H : Hp} {m : List SO} {xs : List (Key × D)} {vs : List (Key × V)} {Q : VK} (R : Rl K A H m) (hk : xs.map (·.1) = vs.map (·.1)) (hx : RDs K A H (xs.map (·.2)) (vs.map (·.2)))
    (q : ∀ A' H', Ext A H A' H' → Rl K A' H' (m ++ [.dct xs]) → ∀ u, RD K A' H' (.dloc m.length) u → Q u H') {p : Addr} (hp : H p = none) : Q (.ref p) (upd H p (.dK vs)) :=
  q _ _ (Ext.alloc R hp) (R.allocD hp hk hx) _ ⟨p, rfl, by rw [← R.len, List.getElem?_append_right (Nat.le_refl _), Nat.sub_self]; rfl, _, upd_same, rfl⟩
theorem getL_set {m : List SO} {n : Nat} {xs : List D} (h : getL m n = some xs) : m[n]? = some (.lst xs) := by
  unfold getL at h
  split at h
  · cases h; assumption
  · cases h

theorem rd_int {K : PySem.W.Frag} {A : List Addr} {H : Hp} {i : Int} {v : V} (h : RD K A H (.int i) v) : v = .int i := h

theorem op_bin (o : Bop) : OpR X (binaryOp (bopOf o)) (r2 X.K (binD o)) := by
  intro pins s σ H v w u1 u2 Q I ru rw_ h
  obtain ⟨A, m, x, y, d, m', R, hx, hy, hb, q⟩ := h
  have int_case : ∀ i j, x = .int i → y = .int j → wpAny (model X.prog X.w) X.A (binaryOp (bopOf o) u1 u2) (EP X pins σ Q) X.xe s := by
    intro i j e1 e2
    subst e1 e2
    have e1 : v = .int i := hx
    have e2 : w = .int j := hy
    subst e1 e2
    have hk : ∃ k, binI o i j = some k ∧ d = .int k ∧ m' = m := by
      unfold binD at hb
      cases hq : binI o i j with
      | none => cases o <;> simp [hq] at hb
      | some k =>
        refine ⟨k, rfl, ?_⟩
        cases o <;> (simp [hq] at hb; exact ⟨hb.1.symm, hb.2.symm⟩)
    obtain ⟨k, hk, rfl, rfl⟩ := hk
    have fin : Q (.int k) H := q A H (Ext.refl A H) R _ rfl
    cases o with
    | add => cases hk; exact op_add pins s σ H _ _ _ _ Q I ru rw_ ⟨i, j, rfl, rfl, fin⟩
    | sub => cases hk; exact op_sub pins s σ H _ _ _ _ Q I ru rw_ ⟨i, j, rfl, rfl, fin⟩
    | mul =>
      simp only [binI] at hk
      split at hk
      · cases hk; exact op_mul pins s σ H _ _ _ _ Q I ru rw_ ⟨i, j, rfl, rfl, by assumption, fin⟩
      · cases hk
    | fdiv =>
      simp only [binI] at hk
      split at hk
      · cases hk; exact op_fdiv pins s σ H _ _ _ _ Q I ru rw_ ⟨i, j, rfl, rfl, by assumption, fin⟩
      · cases hk
    | mod =>
      simp only [binI] at hk
      split at hk
      · cases hk; exact op_mod pins s σ H _ _ _ _ Q I ru rw_ ⟨i, j, rfl, rfl, by assumption, fin⟩
      · cases hk
    | pow =>
      simp only [binI] at hk
      split at hk
      · cases hk; exact op_pow pins s σ H _ _ _ _ Q I ru rw_ ⟨i, j, rfl, rfl, by assumption, fin⟩
      · cases hk
  unfold binD at hb
  split at hb
  · exact int_case _ _ rfl rfl
  · split at hb
    · rename_i a b hl
      cases hb
      have e1 : v = .str a := hx
      have e2 : w = .str b := hy
      subst e1 e2
      exact op_add_str pins s σ H _ _ _ _ Q I ru rw_ ⟨a, b, rfl, rfl, hl, q A H (Ext.refl A H) R _ rfl⟩
    · cases hb
  · split at hb
    · rename_i xs ys hl
      cases hb
      obtain ⟨a, vs, rfl, h1, h2⟩ := hx
      obtain ⟨b, ws, rfl, h3, h4⟩ := hy
      have l1 := h2.length
      have l2 := h4.length
      refine op_catA pins s σ H _ _ _ _ Q I ru rw_ ⟨a, b, vs, ws, rfl, rfl, h1, h3, by omega, fun e => ?_, fun _ e => ?_, fun _ _ p hp => ?_⟩
      · refine q A H (Ext.refl A H) R _ ⟨b, ws, rfl, h3, ?_⟩
        have := h2.append h4
        rw [e] at this
        exact this
      · refine q A H (Ext.refl A H) R _ ⟨a, vs, rfl, h1, ?_⟩
        have := h2.append h4
        rw [e, List.append_nil] at this
        exact this
      · have E := Ext.fresh (o := .tup (vs ++ ws)) R hp
        exact q A _ E (R.tupled hp) _ ⟨p, _, rfl, SqT.of upd_same, (h2.append h4).mono E⟩
    · cases hb
  · split at hb
    · rename_i na nb xs ys g1 g2
      split at hb
      · rename_i hl
        obtain ⟨a, rfl, h1⟩ := hx
        obtain ⟨b, rfl, h2⟩ := hy
        obtain ⟨vs, k1, k2⟩ := getL_at R g1 h1
        obtain ⟨ws, k3, k4⟩ := getL_at R g2 h2
        have l1 := k2.length
        have l2 := k4.length
        refine op_cat pins s σ H _ _ _ _ Q I ru rw_ ⟨a, b, vs, ws, rfl, rfl, k1, k3, by omega, fun p hp => ?_⟩
        unfold newL at hb
        split at hb
        · cases hb
          exact q _ _ (Ext.alloc R hp) (R.alloc hp (k2.append k4)) _ ⟨p, rfl, by rw [← R.len, List.getElem?_append_right (Nat.le_refl _), Nat.sub_self]; rfl, _, upd_same, rfl⟩
        · cases hb
      · cases hb
    · cases hb
  · split at hb
    · rename_i na n o xs g1
      split at hb
      · rename_i hl
        cases hb
        obtain ⟨a, rfl, h1⟩ := hx
        cases hy
        obtain ⟨vs, k1, k2⟩ := getL_at R g1 h1
        have l1 := k2.length
        refine op_rep pins s σ H _ _ _ _ Q I ru rw_ ⟨a, n, vs, rfl, rfl, k1, by omega, by omega, by rw [l1]; exact hl.2.2, fun p hp => ?_⟩
        have rep : ∀ j : Nat, RDs X.K A H (List.replicate j xs).flatten (List.replicate j vs).flatten := by
          intro j
          induction j with
          | zero => exact rfl
          | succ j ih =>
            rw [List.replicate_succ, List.replicate_succ, List.flatten_cons, List.flatten_cons]
            exact k2.append ih
        exact q _ _ (Ext.alloc R hp) (R.alloc hp (rep _)) _ ⟨p, rfl, by rw [← R.len, List.getElem?_append_right (Nat.le_refl _), Nat.sub_self]; rfl, _, upd_same, rfl⟩
      · cases hb
    · cases hb
  · cases hb
end Mi
namespace Mi
open PySem PySem.Spec PyProof.Rows L2
variable [TabsC]
section
variable {K : PySem.W.Frag} {A : List Addr} {H : Hp} {m : List SO}

theorem isEmpty_len {α β : Type} {xs : List α} {ys : List β} (h : xs.length = ys.length) : xs.isEmpty = ys.isEmpty := by
  cases xs <;> cases ys <;> simp_all
theorem seqOf_at (R : Rl K A H m) {x : D} {v : V} {xs : List D} (h : seqOf m x = some xs) (hx : RD K A H x v) : ∃ a vs, v = .ref a ∧ RDs K A H xs vs ∧ (SqL K H a vs ∨ SqT K H a vs) := by
  cases x with
  | tup ys => cases h; obtain ⟨a, vs, rfl, h1, h2⟩ := hx; exact ⟨a, vs, rfl, h2, .inr h1⟩
  | fz ys => cases h; obtain ⟨a, vs, rfl, h1, h2⟩ := hx; exact ⟨a, vs, rfl, h2, .inl h1.seq⟩
  | loc n =>
    obtain ⟨a, rfl, h1⟩ := hx
    obtain ⟨vs, k1, k2⟩ := getL_at R h h1
    exact ⟨a, vs, rfl, k2, .inl (SqL.of k1)⟩
  | non => cases h
  | bl b => cases h
  | int i => cases h
  | str z => cases h
  | set0 => cases h
  | fn _ => cases h
  | nd _ => cases h
  | dloc _ => cases h
theorem truth_ok (R : Rl K A H m) {x : D} {v : V} {b : Bool} (h : truth m x = some b) (hx : RD K A H x v) : TruV K v H b := by
  cases x with
  | non => cases hx; cases h; exact rfl
  | bl c => cases hx; cases h; exact rfl
  | int i => cases hx; cases h; exact rfl
  | str z =>
    cases hx
    simp only [truth] at h
    split at h
    · cases h; exact ⟨by assumption, rfl⟩
    · cases h
  | tup ys => obtain ⟨a, vs, rfl, h1, h2⟩ := hx; cases h; exact .inr (.inl ⟨vs, h1, by rw [isEmpty_len h2.length]⟩)
  | fz ys => obtain ⟨a, vs, rfl, h1, h2⟩ := hx; cases h; exact .inl ⟨vs, h1.seq, by rw [isEmpty_len h2.length]⟩
  | loc n =>
    obtain ⟨a, rfl, h1⟩ := hx
    simp only [truth] at h
    split at h
    · rename_i ys hm
      cases h
      obtain ⟨vs, k1, k2⟩ := getL_at (xs := ys) R (by unfold getL; rw [hm]) h1
      exact .inl ⟨vs, SqL.of k1, by rw [isEmpty_len k2.length]⟩
    · cases h
  | set0 => cases h
  | fn _ => cases h
  | nd _ => cases h
  | dloc _ => cases h

mutual
theorem pd0_dp : ∀ {x : D} {v : V} {p : PyData}, pd0 x = some p → RD K A H x v → Dp K H v p
  | .non, _, _, h, hx => by cases hx; cases h; exact .non
  | .bl b, _, _, h, hx => by cases hx; cases h; exact .bl b
  | .int i, _, _, h, hx => by cases hx; cases h; exact .int i
  | .str z, _, _, h, hx => by cases hx; cases h; exact .str z
  | .tup xs, _, _, h, hx => by
    obtain ⟨a, vs, rfl, h1, h2⟩ := hx
    simp only [pd0, Option.map_eq_some_iff] at h
    obtain ⟨ds, hd, rfl⟩ := h
    exact .tup h1 (pds0_dp hd h2)
  | .fz xs, _, _, h, hx => by
    obtain ⟨a, vs, rfl, h1, h2⟩ := hx
    simp only [pd0, Option.map_eq_some_iff] at h
    obtain ⟨ds, hd, rfl⟩ := h
    exact .lst h1.seq (pds0_dp hd h2)
  | .loc n, _, _, h, _ => by cases h
  | .set0, _, _, h, _ => by cases h
  | .fn _, _, _, h, _ => by cases h
  | .nd _, _, _, h, _ => by cases h
theorem pds0_dp : ∀ {xs : List D} {vs : List V} {ps : List PyData}, pds0 xs = some ps → RDs K A H xs vs → DpAll K H vs ps
  | [], _, _, h, hx => by cases hx; cases h; exact .nil
  | x :: xs, _, _, h, hx => by
    obtain ⟨v, r, rfl, h1, h2⟩ := hx
    simp only [pds0] at h
    split at h
    · rename_i a b ha hb
      cases h
      exact .cons (pd0_dp ha h1) (pds0_dp hb h2)
    · cases h
end
theorem pd_dp (R : Rl K A H m) {x : D} {v : V} {p : PyData} (h : pd m x = some p) (hx : RD K A H x v) : Dp K H v p := by
  cases x with
  | loc n =>
    obtain ⟨a, rfl, h1⟩ := hx
    simp only [pd] at h
    split at h
    · rename_i ys hm
      simp only [Option.map_eq_some_iff] at h
      obtain ⟨ds, hd, rfl⟩ := h
      obtain ⟨vs, k1, k2⟩ := getL_at (xs := ys) R (by unfold getL; rw [hm]) h1
      exact .lst (SqL.of k1) (pds0_dp hd k2)
    · cases h
  | non => exact pd0_dp h hx
  | bl b => exact pd0_dp h hx
  | int i => exact pd0_dp h hx
  | str z => exact pd0_dp h hx
  | tup xs => exact pd0_dp h hx
  | fz xs => exact pd0_dp h hx
  | set0 => exact pd0_dp h hx
  | fn _ => exact pd0_dp h hx
  | nd _ => exact pd0_dp h hx
  | dloc _ => exact pd0_dp h hx
theorem mapO_dp {f : D → Option PyData} (hf : ∀ {x : D} {v : V} {p : PyData}, f x = some p → RD K A H x v → Dp K H v p) : ∀ {xs : List D} {vs : List V} {ps : List PyData}, mapO f xs = some ps → RDs K A H xs vs → DpAll K H vs ps
  | [], _, _, h, hx => by cases hx; cases h; exact .nil
  | x :: xs, _, _, h, hx => by
    obtain ⟨v, r, rfl, h1, h2⟩ := hx
    simp only [mapO] at h
    split at h
    · rename_i a b ha hb
      cases h
      exact .cons (hf ha h1) (mapO_dp hf hb h2)
    · cases h
theorem pdd_dp (R : Rl K A H m) : ∀ (n : Nat) {x : D} {v : V} {p : PyData}, pdd n m x = some p → RD K A H x v → Dp K H v p
  | 0, x, v, p, h, hx => pd0_dp h hx
  | n + 1, x, v, p, h, hx => by
    cases x with
    | loc j =>
      obtain ⟨a, rfl, h1⟩ := hx
      simp only [pdd] at h
      split at h
      · rename_i ys hm
        simp only [Option.map_eq_some_iff] at h
        obtain ⟨ds, hd, rfl⟩ := h
        obtain ⟨vs, k1, k2⟩ := getL_at (xs := ys) R (by unfold getL; rw [hm]) h1
        exact .lst (SqL.of k1) (mapO_dp (fun h1 h2 => pdd_dp R n h1 h2) hd k2)
      · cases h
    | tup xs =>
      obtain ⟨a, vs, rfl, h1, h2⟩ := hx
      simp only [pdd, Option.map_eq_some_iff] at h
      obtain ⟨ds, hd, rfl⟩ := h
      exact .tup h1 (mapO_dp (fun h1 h2 => pdd_dp R n h1 h2) hd h2)
    | non => exact pd0_dp h hx
    | bl b => exact pd0_dp h hx
    | int i => exact pd0_dp h hx
    | str z => exact pd0_dp h hx
    | fz xs => exact pd0_dp h hx
    | set0 => exact pd0_dp h hx
    | fn _ => exact pd0_dp h hx
    | nd _ => exact pd0_dp h hx
    | dloc _ => exact pd0_dp h hx
theorem flat_ok {x : D} {v : V} (h : flatD x = true) (hx : RD K A H x v) : flatV v = true := by
  cases x <;> first | (cases hx; rfl) | (exact absurd h Bool.false_ne_true)
theorem eqF_ok {x y : D} {v w : V} (h : flatD x = true) (h' : flatD y = true) (hx : RD K A H x v) (hy : RD K A H y w) : eqV v w = eqF x y := by
  cases x <;> cases y <;> first | (cases hx; cases hy; rfl) | (exact absurd h Bool.false_ne_true) | (exact absurd h' Bool.false_ne_true)
theorem flats_ok : ∀ {xs : List D} {vs : List V}, xs.all flatD = true → RDs K A H xs vs → vs.all flatV = true
  | [], _, _, h => by cases h; rfl
  | x :: xs, _, h, hx => by
    obtain ⟨v, r, rfl, h1, h2⟩ := hx
    rw [List.all_cons, Bool.and_eq_true] at h ⊢
    exact ⟨flat_ok h.1 h1, flats_ok h.2 h2⟩
theorem inD_ok {x : D} {v : V} (hf : flatD x = true) (hx : RD K A H x v) : ∀ {xs : List D} {vs : List V}, xs.all flatD = true → RDs K A H xs vs → inV v vs = inD x xs
  | [], _, _, h => by cases h; rfl
  | y :: xs, _, h, hy => by
    obtain ⟨w, r, rfl, h1, h2⟩ := hy
    rw [List.all_cons, Bool.and_eq_true] at h
    show (eqV w v || inV v r) = (eqF y x || inD x xs)
    rw [eqF_ok h.1 hf h1 hx, inD_ok hf hx h.2 h2]
end
section
variable {X : Cx}
theorem isNon_ok {K : PySem.W.Frag} {A : List Addr} {H : Hp} {x : D} {v : V} (hx : RD K A H x v) : decide (v = .non) = isNon x := by
  cases x with
  | non => cases hx; rfl
  | bl b => cases hx; rfl
  | int i => cases hx; rfl
  | str z => cases hx; rfl
  | tup xs => obtain ⟨a, vs, rfl, _⟩ := hx; rfl
  | fz xs => obtain ⟨a, vs, rfl, _⟩ := hx; rfl
  | loc n => obtain ⟨a, rfl, _⟩ := hx; rfl
  | set0 => obtain ⟨a, rfl, _⟩ := hx; rfl
  | fn _ => obtain ⟨a, rfl, _⟩ := hx; rfl
  | nd _ => obtain ⟨⟨a, _, _, rfl, _⟩, _⟩ := hx; rfl
  | dloc _ => obtain ⟨a, rfl, _⟩ := hx; rfl

theorem op_cmp {k : Nat} (hr : Room (2 * k) X.A) (o : Cop) : OpR X (compareOp (copOf o)) (r2B X.K (cmpM k o)) := by
  intro pins s σ H v w u1 u2 Q I ru rw_ h
  obtain ⟨A, m, x, y, b, m', R, hx, hy, hb, q⟩ := h
  unfold cmpM at hb
  split at hb
  · rename_i c hc
    cases hb
    have fin : Q (.bl b) H := q A H (Ext.refl A H) R
    have eqv_case : ∀ c, eqD k m x y = some c → ∃ p p' as bs, Reads s.heap u1 p as ∧ Reads s.heap u2 p' bs ∧ p.canLay0 = true ∧ p'.canLay0 = true ∧ X.A.units + min p.depth p'.depth < cLine ∧ PyData.eqv p p' = c := by
      intro c hc
      unfold eqD at hc
      split at hc
      · rename_i p p' hp hp'
        split at hc
        · rename_i hh
          cases hc
          obtain ⟨as, r1⟩ := Dp.reads I p v u1 (pd_dp R hp hx) ru
          obtain ⟨bs, r2⟩ := Dp.reads I p' w u2 (pd_dp R hp' hy) rw_
          have := hr.un
          exact ⟨p, p', as, bs, r1, r2, hh.1, hh.2.1, by omega, rfl⟩
        · cases hc
      · split at hc
        · rename_i p p' hp hp'
          split at hc
          · rename_i hh
            cases hc
            obtain ⟨as, r1⟩ := Dp.reads I p v u1 (pdd_dp R 3 hp hx) ru
            obtain ⟨bs, r2⟩ := Dp.reads I p' w u2 (pdd_dp R 3 hp' hy) rw_
            have := hr.un
            exact ⟨p, p', as, bs, r1, r2, hh.1, hh.2.1, by omega, rfl⟩
          · cases hc
        · cases hc
    have inD_case : ∀ c, inDd k m x y = some c → ∃ d ds as bs, Reads s.heap u1 d as ∧ Reads s.heap u2 (.list ds) bs ∧ d.canLay0 = true ∧ PyData.canLayAll0 ds = true ∧ X.A.units + 1 + min (PyData.depthAll ds) d.depth < cLine ∧ (ds.any fun z => PyData.eqv z d) = c := by
      intro c hc
      unfold inDd at hc
      split at hc
      · rename_i d ds hp hp'
        split at hc
        · rename_i hh
          cases hc
          obtain ⟨as, r1⟩ := Dp.reads I d v u1 (pd_dp R hp hx) ru
          obtain ⟨bs, r2⟩ := Dp.reads I (.list ds) w u2 (pd_dp R hp' hy) rw_
          have := hr.un
          exact ⟨d, ds, as, bs, r1, r2, hh.1, hh.2.1, by omega, rfl⟩
        · cases hc
      · cases hc
    have in_case : ∀ neg : Bool, (∃ ys, seqOf m y = some ys ∧ flatD x = true ∧ ys.all flatD = true ∧ (if neg then !inD x ys else inD x ys) = b) → rIn X.K neg v w H Q := by
      intro neg ⟨ys, h1, h2, h3, h4⟩
      obtain ⟨a, vs, rfl, h5, h6⟩ := seqOf_at R h1 hy
      refine ⟨a, vs, rfl, h6, flat_ok h2 hx, flats_ok h3 h5, ?_⟩
      rw [inD_ok h2 hx h3 h5, h4]
      exact fin
    cases o with
    | eq =>
      obtain ⟨p, p', as, bs, r1, r2, k1, k2, k3, e⟩ := eqv_case _ hc
      exact SeqAt.compareEq_reads r1 r2 k1 k2 k3 ⟨.bl _, H, I, rfl, by rw [e]; exact fin⟩
    | ne =>
      simp only [cmpD, Option.map_eq_some_iff] at hc
      obtain ⟨c, hc, rfl⟩ := hc
      obtain ⟨p, p', as, bs, r1, r2, k1, k2, k3, e⟩ := eqv_case _ hc
      exact SeqAt.compareNe_reads r1 r2 k1 k2 k3 ⟨.bl _, H, I, rfl, by rw [e]; exact fin⟩
    | isN =>
      simp only [cmpD] at hc
      split at hc
      · rename_i hy'
        cases hc
        refine op_isN pins s σ H v w u1 u2 Q I ru rw_ ⟨?_, ?_⟩
        · have := isNon_ok hy; rw [hy'] at this; exact of_decide_eq_true this
        · rw [isNon_ok hx]; exact fin
      · cases hc
    | notN =>
      simp only [cmpD] at hc
      split at hc
      · rename_i hy'
        cases hc
        refine op_notN pins s σ H v w u1 u2 Q I ru rw_ ⟨?_, ?_⟩
        · have := isNon_ok hy; rw [hy'] at this; exact of_decide_eq_true this
        · rw [isNon_ok hx]; exact fin
      · cases hc
    | in_ =>
      simp only [cmpD] at hc
      split at hc
      · rename_i ys hs
        split at hc
        · rename_i hh
          exact op_in_seq pins s σ H v w u1 u2 Q I ru rw_ (in_case false ⟨ys, hs, hh.1, hh.2, by simpa using hc⟩)
        · obtain ⟨d, ds, as, bs, r1, r2, k1, k2, k3, e⟩ := inD_case _ hc
          exact SeqAt.in_list_reads r2 r1 k2 k1 k3 ⟨.bl _, H, I, rfl, by rw [e]; exact fin⟩
      · cases hc
    | notIn =>
      simp only [cmpD] at hc
      split at hc
      · rename_i ys hs
        split at hc
        · rename_i hh
          exact op_notIn_seq pins s σ H v w u1 u2 Q I ru rw_ (in_case true ⟨ys, hs, hh.1, hh.2, by simpa using hc⟩)
        · rw [Option.map_eq_some_iff] at hc
          obtain ⟨c, hc, rfl⟩ := hc
          obtain ⟨d, ds, as, bs, r1, r2, k1, k2, k3, e⟩ := inD_case _ hc
          exact SeqAt.notIn_list_reads r2 r1 k2 k1 k3 ⟨.bl _, H, I, rfl, by rw [e]; exact fin⟩
      · cases hc
    | lt =>
      simp only [cmpD] at hc
      split at hc
      · cases hx; cases hy; cases hc; exact op_lt pins s σ H _ _ u1 u2 Q I ru rw_ ⟨_, _, rfl, rfl, fin⟩
      · cases hx; cases hy; cases hc; exact op_lt_str pins s σ H _ _ u1 u2 Q I ru rw_ ⟨_, _, rfl, rfl, fin⟩
      · cases hc
    | le =>
      simp only [cmpD] at hc
      split at hc
      · cases hx; cases hy; cases hc; exact op_le pins s σ H _ _ u1 u2 Q I ru rw_ ⟨_, _, rfl, rfl, fin⟩
      · cases hx; cases hy; cases hc; exact op_le_str pins s σ H _ _ u1 u2 Q I ru rw_ ⟨_, _, rfl, rfl, fin⟩
      · cases hc
    | gt =>
      simp only [cmpD] at hc
      split at hc
      · cases hx; cases hy; cases hc; exact op_gt pins s σ H _ _ u1 u2 Q I ru rw_ ⟨_, _, rfl, rfl, fin⟩
      · cases hx; cases hy; cases hc; exact op_gt_str pins s σ H _ _ u1 u2 Q I ru rw_ ⟨_, _, rfl, rfl, fin⟩
      · cases hc
    | ge =>
      simp only [cmpD] at hc
      split at hc
      · cases hx; cases hy; cases hc; exact op_ge pins s σ H _ _ u1 u2 Q I ru rw_ ⟨_, _, rfl, rfl, fin⟩
      · cases hx; cases hy; cases hc; exact op_ge_str pins s σ H _ _ u1 u2 Q I ru rw_ ⟨_, _, rfl, rfl, fin⟩
      · cases hc
  · cases hb

/-! ### items, slices -/
theorem atI_ok {K : PySem.W.Frag} {A : List Addr} {H : Hp} {xs : List D} {vs : List V} {i : Int} {d : D} (h : atI xs i = some d) (hx : RDs K A H xs vs) : ∃ v, atI vs i = some v ∧ RD K A H d v := by
  unfold atI at h ⊢
  rw [hx.length]
  cases e : ixN xs.length i with
  | none => rw [e] at h; cases h
  | some j =>
    rw [e] at h
    exact hx.get h
theorem ix_D : IxR X (r2 X.K idxD) := by
  intro value slice pins s σ H v w u1 u2 Q I ru rw_ h hs
  obtain ⟨A, m, x, y, d, m', R, hx, hy, hb, q⟩ := h
  unfold idxD at hb
  split at hb
  · rename_i i
    cases hy
    split at hb
    · rename_i z
      cases hx
      split at hb
      · rename_i hz
        split at hb
        · rename_i c hc
          cases hb
          exact ix_str value slice pins s σ H _ _ u1 u2 Q I ru rw_ ⟨z, i, c, rfl, rfl, hz, hc, q A H (Ext.refl A H) R _ rfl⟩ hs
        · cases hb
      · cases hb
    · split at hb
      · rename_i xs hxs
        split at hb
        · rename_i d' hd
          cases hb
          obtain ⟨a, vs, rfl, h5, h6⟩ := seqOf_at R hxs hx
          obtain ⟨e, he, hr⟩ := atI_ok hd h5
          have fin := q A H (Ext.refl A H) R e hr
          rcases h6 with h6 | h6
          · exact ix_list value slice pins s σ H _ _ u1 u2 Q I ru rw_ ⟨a, vs, i, e, rfl, rfl, h6, he, fin⟩ hs
          · exact ix_tup value slice pins s σ H _ _ u1 u2 Q I ru rw_ ⟨a, vs, i, e, rfl, rfl, h6, he, fin⟩ hs
        · cases hb
      · cases hb
  · cases hb
theorem cut_ok {K : PySem.W.Frag} {A : List Addr} {H : Hp} {xs : List D} {vs : List V} (lo hi : Option Int) (hx : RDs K A H xs vs) : RDs K A H (cut xs lo hi) (cutV vs lo hi) := by
  unfold cut cutV
  rw [hx.length]
  exact (hx.drop _).take _
def r1 (K : PySem.W.Frag) (f : D → M D) : V → Hp → VK → Prop := fun v H Q => ∃ A m x d m', Rl K A H m ∧ RD K A H x v ∧ f x m = some (d, m') ∧ ∀ A' H', Ext A H A' H' → Rl K A' H' m' → ∀ u, RD K A' H' d u → Q u H'
theorem alloc_fin {K : PySem.W.Frag} {A : List Addr} {H : Hp} {m : List SO} {xs : List D} {vs : List V} {Q : VK} (R : Rl K A H m) (hx : RDs K A H xs vs)
    (q : ∀ A' H', Ext A H A' H' → Rl K A' H' (m ++ [.lst xs]) → ∀ u, RD K A' H' (.loc m.length) u → Q u H') {p : Addr} (hp : H p = none) : Q (.ref p) (upd H p (.lst vs)) :=
  q _ _ (Ext.alloc R hp) (R.alloc hp hx) _ ⟨p, rfl, by rw [← R.len, List.getElem?_append_right (Nat.le_refl _), Nat.sub_self]; rfl, _, upd_same, rfl⟩
theorem tup_fin {K : PySem.W.Frag} {A : List Addr} {H : Hp} {m : List SO} {xs : List D} {vs : List V} {Q : VK} (R : Rl K A H m) (hx : RDs K A H xs vs)
    (q : ∀ A' H', Ext A H A' H' → Rl K A' H' m → ∀ u, RD K A' H' (.tup xs) u → Q u H') {p : Addr} (hp : H p = none) : Q (.ref p) (upd H p (.tup vs)) :=
  q A _ (Ext.fresh R hp) (R.tupled hp) _ ⟨p, vs, rfl, SqT.of upd_same, hx.mono (Ext.fresh R hp)⟩
/-- a made tuple, which has no dict -/
theorem tupN_fin {K : PySem.W.Frag} {A : List Addr} {H : Hp} {m : List SO} {xs : List D} {vs : List V} {Q : VK} (R : Rl K A H m) (hx : RDs K A H xs vs)
    (q : ∀ A' H', Ext A H A' H' → Rl K A' H' m → ∀ u, RD K A' H' (.nd (.tup xs)) u → Q u H') {p : Addr} {o : Obj} (ho : o.dict = none) (hp : H p = none) : Q (.ref p) (upd H p (.frz o (.tup vs))) :=
  q A _ (Ext.fresh R hp) (R.tupled hp) _ ⟨⟨p, o, vs, rfl, upd_same, ho⟩, p, vs, rfl, .inl (.inr ⟨o, upd_same⟩), hx.mono (Ext.fresh R hp)⟩
def tTupN (t : TA) : TE := fun σ H Q => t σ H fun xs H1 => xs.length ≤ sizeLine ∧ ∀ p o, o.dict = none → H1 p = none → Q (.ref p) (upd H1 p (.frz o (.tup xs)))
theorem pe_tupN {X : Cx} {es : List Expr} {t : TA} {pos : Pos} {x1} (h : PA X es t) : PE X (.Tuple es x1 pos) (tTupN t) := by
  constructor
  intro ps sh τ G W Iv hW
  refine wpAny_Tuple_spliced (thn (h.run pos ps sh τ G _ Iv hW) ?_)
  rintro ws sh1 ⟨ys, G1, I1, rv, zl, q⟩
  refine ⟨by have := rv.length; omega, ?_⟩
  have free : G1 sh1.heap.objs.size = none := I1.hok.fresh (Nat.le_refl _)
  obtain ⟨ob, hob⟩ : ∃ ob : Obj, ob = { cls := Value.type "tuple", data := Data.seq ws.toArray } := ⟨_, rfl⟩
  refine ⟨.ref sh1.heap.objs.size, upd G1 sh1.heap.objs.size (.frz ob (.tup ys)), ?_, rfl, q _ _ ?_ free⟩
  rotate_left
  · rw [hob]
  · rw [← hob]
    refine I1.laid (t' := sh1.toks) (fun _ _ he => Heap.get?_push_of_some _ he) (Nat.le_refl _) ?_
    subst hob
    exact ⟨Heap.get?_push_size _ rfl, zl, ws, rv, ⟨_, Heap.get?_push_size _ rfl, rfl, _, rfl⟩⟩
theorem sl_D : SlR X (fun v lo hi H Q => r1 X.K (slcD lo hi) v H Q) := by
  intro pins s σ H v u vl vu lo hi sl Q I ru hs pl pu h
  obtain ⟨A, m, x, d, m', R, hx, hb, q⟩ := h
  unfold slcD at hb
  split at hb
  · rename_i z
    cases hx
    split at hb
    · rename_i hz
      cases hb
      exact sl_str pins s σ H _ u vl vu lo hi sl Q I ru hs pl pu ⟨z, rfl, hz, q A H (Ext.refl A H) R _ rfl⟩
    · cases hb
  · cases hb
    obtain ⟨a, vs, rfl, h1, h2⟩ := hx
    refine sl_tupA pins s σ H _ u vl vu lo hi sl Q I ru hs pl pu ⟨a, vs, rfl, h1, fun hw => ?_, fun _ p hp => ?_⟩
    · refine q A H (Ext.refl A H) R _ ⟨a, vs, rfl, h1, ?_⟩
      have := cut_ok lo hi h2
      have e : cutV vs lo hi = vs := by
        unfold cutV
        rw [hw.1, hw.2, List.drop_zero, Nat.sub_zero, List.take_length]
      rw [e] at this
      exact this
    · exact tup_fin R (cut_ok lo hi h2) q hp
  · cases hb
    obtain ⟨a, vs, rfl, h1, h2⟩ := hx
    exact sl_list pins s σ H _ u vl vu lo hi sl Q I ru hs pl pu ⟨a, vs, rfl, h1.seq, fun p hp => alloc_fin R (cut_ok lo hi h2) q hp⟩
  · split at hb
    · rename_i n xs hg
      cases hb
      obtain ⟨a, rfl, h1⟩ := hx
      obtain ⟨vs, k1, k2⟩ := getL_at R hg h1
      exact sl_list pins s σ H _ u vl vu lo hi sl Q I ru hs pl pu ⟨a, vs, rfl, SqL.of k1, fun p hp => alloc_fin R (cut_ok lo hi k2) q hp⟩
    · cases hb
  · cases hb
end
end Mi
namespace Mi
open PySem PySem.Spec PyProof.Rows L2
variable [TabsC]
variable {X : Cx}

/-! ### built-ins, methods -/
def rC (K : PySem.W.Frag) (f : List D → M D) : List V → Hp → VK → Prop := fun vs H Q => ∃ A m ds d m', Rl K A H m ∧ RDs K A H ds vs ∧ f ds m = some (d, m') ∧ ∀ A' H', Ext A H A' H' → Rl K A' H' m' → ∀ u, RD K A' H' d u → Q u H'
theorem rds1 {K : PySem.W.Frag} {A : List Addr} {H : Hp} {x : D} {vs : List V} (h : RDs K A H [x] vs) : ∃ v, vs = [v] ∧ RD K A H x v := by
  obtain ⟨v, r, rfl, h1, h2⟩ := h
  cases h2
  exact ⟨v, rfl, h1⟩
theorem rds2 {K : PySem.W.Frag} {A : List Addr} {H : Hp} {x y : D} {vs : List V} (h : RDs K A H [x, y] vs) : ∃ v w, vs = [v, w] ∧ RD K A H x v ∧ RD K A H y w := by
  obtain ⟨v, r, rfl, h1, h2⟩ := h
  obtain ⟨w, rfl, h3⟩ := rds1 h2
  exact ⟨v, w, rfl, h1, h3⟩
def bltV : Blt → Value
  | .len => .builtin "len" | .int => .type "int" | .tuple => .type "tuple" | .list => .type "list" | .min => .builtin "min" | .all => .builtin "all" | .sum => .builtin "sum" | .dict => .type "dict"
def bltN : Blt → Str
  | .len => "len" | .int => "int" | .tuple => "tuple" | .list => "list" | .min => "min" | .all => "all" | .sum => "sum" | .dict => "dict"
theorem seq_len {K : PySem.W.Frag} {A : List Addr} {H : Hp} {m : List SO} (R : Rl K A H m) {x : D} {v : V} {xs : List D} (h : seqOf m x = some xs) (hx : RD K A H x v) : ∃ a vs, v = .ref a ∧ vs.length = xs.length ∧ (SqL K H a vs ∨ SqT K H a vs) := by
  obtain ⟨a, vs, e, h1, h2⟩ := seqOf_at R h hx
  exact ⟨a, vs, e, h1.length, h2⟩
theorem bools_ok {K : PySem.W.Frag} {A : List Addr} {H : Hp} : ∀ {xs : List D} {vs : List V} {bs : List Bool}, boolsOf xs = some bs → RDs K A H xs vs → vs = bs.map V.bl
  | [], vs, bs, h, hx => by cases h; cases hx; rfl
  | x :: xs, vs, bs, h, hx => by
    obtain ⟨v, r, rfl, h1, h2⟩ := hx
    cases x with
    | bl b =>
      simp only [boolsOf, Option.map_eq_some_iff] at h
      obtain ⟨bs', h3, rfl⟩ := h
      cases h1
      rw [bools_ok h3 h2]
      rfl
    | _ => simp [boolsOf] at h
theorem ints_ok {K : PySem.W.Frag} {A : List Addr} {H : Hp} : ∀ {xs : List D} {vs : List V} {bs : List Int}, intsOf xs = some bs → RDs K A H xs vs → vs = bs.map V.int
  | [], vs, bs, h, hx => by cases h; cases hx; rfl
  | x :: xs, vs, bs, h, hx => by
    obtain ⟨v, r, rfl, h1, h2⟩ := hx
    cases x with
    | int b =>
      simp only [intsOf, Option.map_eq_some_iff] at h
      obtain ⟨bs', h3, rfl⟩ := h
      cases h1
      rw [ints_ok h3 h2]
      rfl
    | _ => simp [intsOf] at h
theorem call_dictC : CallR X (.type "dict") (fun xs H Q => ∃ (a : Addr) (kvs : List (Key × V)), xs = [.ref a] ∧ H a = some (.dK kvs) ∧ ∀ p, H p = none → Q (.ref p) (upd H p (.dK kvs))) := by
  intro pins s σ H xs us Q I r q
  obtain ⟨a, kvs, ex, hq, q⟩ := q
  subst ex
  obtain ⟨u, eu, rx⟩ := vals1 r
  subst eu
  cases rx
  exact d_copyOf I (.inl hq) fun p s' hp I' => ⟨.ref p, _, I', rfl, q p hp⟩
theorem pairs_ok {K : PySem.W.Frag} {A : List Addr} {H : Hp} : ∀ {ys : List D} {vs : List V} {kvs : List (Key × D)}, pairsD ys = some kvs → RDs K A H ys vs →
    ∃ (ps : List Addr) (ws : List (Key × V)), vs = ps.map V.ref ∧ Paired (fun p kv => SqT K H p [kV kv.1, kv.2]) ps ws ∧ kvs.map (·.1) = ws.map (·.1) ∧ RDs K A H (kvs.map (·.2)) (ws.map (·.2))
  | [], vs, kvs, h, hx => by
    cases h
    cases hx
    exact ⟨[], [], rfl, .nil, rfl, rfl⟩
  | y :: ys, vs, kvs, h, hx => by
    obtain ⟨v, r, rfl, h1, h2⟩ := hx
    unfold pairsD at h
    split at h
    · rename_i z; cases z
    · rename_i k d ys' e
      injection e with e1 e2
      subst e1 e2
      split at h
      · rename_i q ps' hq hp
        cases h
        obtain ⟨ps, ws, rfl, g1, g2, g3⟩ := pairs_ok hp h2
        obtain ⟨a, us, rfl, k1, w1, r1, rfl, k2, w2, r2, rfl, k3, k4⟩ := h1
        cases k4
        cases keyD_ok hq k2
        exact ⟨a :: ps, (q, w2) :: ws, rfl, .cons k1 g1, by simp [g2], ⟨w2, _, rfl, k3, g3⟩⟩
      · cases h
    · cases h
theorem call_blt (hc : X.calm = true) (b : Blt) : CallR X (bltV b) (rC X.K (bltD b)) := by
  intro pins s σ H vs us Q I r h
  obtain ⟨A, m, ds, d, m', R, hx, hb, q⟩ := h
  unfold bltD at hb
  split at hb
  · split at hb
    · cases hb
      obtain ⟨v, rfl, h1⟩ := rds1 hx
      cases h1
      exact call_len pins s σ H _ us Q I r ⟨_, _, rfl, ⟨by assumption, rfl⟩, q A H (Ext.refl A H) R _ rfl⟩
    · cases hb
  · split at hb
    · rename_i ys hs
      cases hb
      obtain ⟨v, rfl, h1⟩ := rds1 hx
      obtain ⟨a, ws, rfl, e, h2⟩ := seq_len R hs h1
      exact call_len_seq pins s σ H _ us Q I r ⟨a, ws, rfl, h2, by rw [e]; exact q A H (Ext.refl A H) R _ rfl⟩
    · cases hb
  · cases hb
    obtain ⟨v, rfl, h1⟩ := rds1 hx
    cases h1
    exact call_int1 pins s σ H _ us Q I r (.inl ⟨_, rfl, q A H (Ext.refl A H) R _ rfl⟩)
  · cases hb
    obtain ⟨v, rfl, h1⟩ := rds1 hx
    cases h1
    exact call_int1 pins s σ H _ us Q I r (.inr ⟨_, rfl, q A H (Ext.refl A H) R _ rfl⟩)
  · cases hb
    obtain ⟨v, rfl, a, ws, rfl, h1, h2⟩ := rds1 hx
    exact call_tuple_of pins s σ H _ us Q I r ⟨a, ws, rfl, .inr ⟨h1, q A H (Ext.refl A H) R _ ⟨a, ws, rfl, h1, h2⟩⟩⟩
  · split at hb
    · rename_i ys hs
      cases hb
      obtain ⟨v, rfl, h1⟩ := rds1 hx
      obtain ⟨a, ws, rfl, k1, k2⟩ := seqOf_at R hs h1
      rcases k2 with k2 | k2
      · exact call_tuple_of pins s σ H _ us Q I r ⟨a, ws, rfl, .inl ⟨k2, fun p hp => tup_fin R k1 q hp⟩⟩
      · exact call_tuple_of pins s σ H _ us Q I r ⟨a, ws, rfl, .inr ⟨k2, q A H (Ext.refl A H) R _ ⟨a, ws, rfl, k2, k1⟩⟩⟩
    · cases hb
  · split at hb
    · rename_i ys hs
      cases hb
      obtain ⟨v, rfl, h1⟩ := rds1 hx
      obtain ⟨a, ws, rfl, k1, k2⟩ := seqOf_at R hs h1
      exact call_list_of pins s σ H _ us Q I r ⟨a, ws, rfl, k2, fun p hp => alloc_fin R k1 q hp⟩
    · cases hb
  · cases hb
    obtain ⟨v, w, rfl, h1, h2⟩ := rds2 hx
    cases h1
    cases h2
    exact call_min2 hc pins s σ H _ us Q I r ⟨_, _, rfl, q A H (Ext.refl A H) R _ rfl⟩
  · split at hb
    · rename_i n ys hg
      split at hb
      · rename_i bs hbs
        cases hb
        obtain ⟨v, rfl, a, rfl, h1⟩ := rds1 hx
        obtain ⟨vs, k1, k2⟩ := getL_at R hg h1
        have e := bools_ok hbs k2
        subst e
        exact cr_all hc pins s σ H _ us Q I r ⟨a, bs, rfl, SqL.of k1, q A H (Ext.refl A H) R _ rfl⟩
      · cases hb
    · cases hb
  · split at hb
    · rename_i n ys hg
      split at hb
      · rename_i bs hbs
        cases hb
        obtain ⟨v, rfl, a, rfl, h1⟩ := rds1 hx
        obtain ⟨vs, k1, k2⟩ := getL_at R hg h1
        have e := ints_ok hbs k2
        subst e
        exact cr_sum hc pins s σ H _ us Q I r ⟨a, bs, rfl, SqL.of k1, q A H (Ext.refl A H) R _ rfl⟩
      · cases hb
    · cases hb
  · split at hb
    · rename_i n kvs hg
      cases hb
      obtain ⟨v, rfl, a, rfl, h1⟩ := rds1 hx
      obtain ⟨vs, k1, k2, k3⟩ := getDc_at R hg h1
      exact call_dictC pins s σ H _ us Q I r ⟨a, vs, rfl, k1, fun p hp => allocD_fin R k2 k3 q hp⟩
    · cases hb
  · split at hb
    · rename_i n ys hg
      split at hb
      · rename_i kvs hp
        cases hb
        obtain ⟨v, rfl, a, rfl, h1⟩ := rds1 hx
        obtain ⟨vs, k1, k2⟩ := getL_at R hg h1
        obtain ⟨ps, ws, rfl, g1, g2, g3⟩ := pairs_ok hp k2
        obtain ⟨m1, m2⟩ := dmerge_ok (xs := []) (vs := []) g2 g3 rfl (show RDs X.K A H [] [] from rfl)
        exact call_dictP hc pins s σ H _ us Q I r ⟨a, ps, ws, rfl, SqL.of k1, g1, fun p hp => allocD_fin R m1 m2 q hp⟩
      · cases hb
    · cases hb
  · cases hb

def rMt (K : PySem.W.Frag) (f : D → List D → M D) : V → List V → Hp → VK → Prop := fun v vs H Q => ∃ A m x ds d m', Rl K A H m ∧ RD K A H x v ∧ RDs K A H ds vs ∧ f x ds m = some (d, m') ∧ ∀ A' H', Ext A H A' H' → Rl K A' H' m' → ∀ u, RD K A' H' d u → Q u H'
theorem inv_append {x : D} {ds : List D} {m m' : List SO} {d : D} (h : methD .append x ds m = some (d, m')) : ∃ n y xs, x = .loc n ∧ ds = [y] ∧ getL m n = some xs ∧ xs.length < sizeLine ∧ d = .non ∧ m' = m.set n (.lst (xs ++ [y])) := by
  cases x with
  | loc n =>
    cases ds with
    | nil => cases h
    | cons y r =>
      cases r with
      | cons _ _ => cases h
      | nil =>
        simp only [methD] at h
        split at h
        · split at h
          · cases h; exact ⟨n, y, _, rfl, rfl, by assumption, by assumption, rfl, rfl⟩
          · cases h
        · cases h
  | _ => cases h
theorem inv_pop {x : D} {ds : List D} {m m' : List SO} {d : D} (h : methD .pop x ds m = some (d, m')) : ∃ n xs, x = .loc n ∧ ds = [] ∧ getL m n = some xs ∧ xs[xs.length - 1]? = some d ∧ m' = m.set n (.lst xs.dropLast) := by
  cases x with
  | loc n =>
    cases ds with
    | cons y r => cases h
    | nil =>
      simp only [methD] at h
      split at h
      · split at h
        · cases h; exact ⟨n, _, rfl, rfl, by assumption, by assumption, rfl⟩
        · cases h
      · cases h
  | _ => cases ds <;> cases h
theorem inv_extend {x : D} {ds : List D} {m m' : List SO} {d : D} (h : methD .extend x ds m = some (d, m')) : ∃ n xs ys, x = .loc n ∧ (ds = [.tup ys] ∨ ∃ j, ds = [.loc j] ∧ getL m j = some ys) ∧ getL m n = some xs ∧ xs.length + ys.length ≤ sizeLine ∧ d = .non ∧ m' = m.set n (.lst (xs ++ ys)) := by
  cases x with
  | loc n =>
    cases ds with
    | nil => cases h
    | cons y r =>
      cases r with
      | cons _ _ => cases y <;> cases h
      | nil =>
        cases y with
        | tup ys =>
          simp only [methD] at h
          split at h
          · split at h
            · cases h; exact ⟨n, _, ys, rfl, .inl rfl, by assumption, by assumption, rfl, rfl⟩
            · cases h
          · cases h
        | loc j =>
          simp only [methD] at h
          split at h
          · split at h
            · cases h; exact ⟨n, _, _, rfl, .inr ⟨j, rfl, by assumption⟩, by assumption, by assumption, rfl, rfl⟩
            · cases h
          · cases h
        | _ => cases h
  | _ => cases ds with
    | nil => cases h
    | cons y r => cases r <;> cases y <;> cases h
theorem inv_join {x : D} {ds : List D} {m m' : List SO} {d : D} (h : methD .join x ds m = some (d, m')) : ∃ a y ys zs, x = .str a ∧ ds = [y] ∧ seqOf m y = some ys ∧ strsOf ys = some zs ∧ (zs.map (·.length)).sum + zs.length * a.length ≤ 16777216 ∧ d = .str (Txt.join a zs) ∧ m' = m := by
  cases x with
  | str a =>
    cases ds with
    | nil => cases h
    | cons y r =>
      cases r with
      | cons _ _ => cases h
      | nil =>
        simp only [methD] at h
        split at h
        · split at h
          · split at h
            · cases h; exact ⟨a, y, _, _, rfl, rfl, by assumption, by assumption, by assumption, rfl, rfl⟩
            · cases h
          · cases h
        · cases h
  | _ => cases ds with
    | nil => cases h
    | cons y r => cases r <;> cases h
theorem eqv_non {x : D} {p : PyData} (h : pd0 x = some p) : PyData.eqv p .none = isNon x := by
  cases x with
  | non => cases h; rfl
  | bl b => cases h; rfl
  | int i => cases h; rfl
  | str z => cases h; rfl
  | tup xs =>
    simp only [pd0, Option.map_eq_some_iff] at h
    obtain ⟨ds, _, rfl⟩ := h
    rfl
  | fz xs =>
    simp only [pd0, Option.map_eq_some_iff] at h
    obtain ⟨ds, _, rfl⟩ := h
    rfl
  | loc n => cases h
  | dloc n => cases h
  | set0 => cases h
  | fn _ => cases h
  | nd _ => cases h
theorem pds0_get : ∀ {xs : List D} {ds : List PyData} {n : Nat} (h : pds0 xs = some ds) (hn : n < xs.length), ∃ hn' : n < ds.length, pd0 xs[n] = some ds[n]
  | [], _, n, _, hn => absurd hn (Nat.not_lt_zero _)
  | x :: xs, ds, n, h, hn => by
    simp only [pds0] at h
    split at h
    · rename_i a b ha hb
      cases h
      cases n with
      | zero => exact ⟨by simp, by simpa using ha⟩
      | succ n =>
        obtain ⟨h1, h2⟩ := pds0_get hb (n := n) (by simpa using hn)
        exact ⟨by simpa using h1, by simpa using h2⟩
    · cases h
theorem inv_tindex {x : D} {ds : List D} {m m' : List SO} {d : D} (h : methD .tindex x ds m = some (d, m')) : ∃ xs ps j, x = .nd (.tup xs) ∧ ds = [.non] ∧ pds0 xs = some ps ∧ PyData.canLayAll0 ps = true ∧ xs.findIdx? isNon = some j ∧ d = .int j ∧ m' = m := by
  cases x with
  | nd e =>
    cases e with
    | tup xs =>
      cases ds with
      | nil => cases h
      | cons y r =>
        cases r with
        | cons _ _ => cases y <;> cases h
        | nil =>
          cases y with
          | non =>
            simp only [methD] at h
            split at h
            · rename_i ps hp
              split at h
              · rename_i hl
                split at h
                · rename_i j hj
                  cases h
                  exact ⟨xs, ps, j, rfl, rfl, hp, hl, hj, rfl, rfl⟩
                · cases h
              · cases h
            · cases h
          | _ => cases h
    | _ => cases ds with
      | nil => cases h
      | cons y r => cases r <;> cases y <;> cases h
  | _ => cases ds with
    | nil => cases h
    | cons y r => cases r <;> cases y <;> cases h
/-- t.index(None) of a tuple of data -/
theorem mt_D_tindex (hu : X.A.units + 1 < cLine) : MtR X "tuple.index" (rMt X.K (methD .tindex)) := by
  intro pins s σ H v vs u us Q I r1 r2 h
  obtain ⟨A, m, x, ds, d, m', R, hx, hds, hb, q⟩ := h
  obtain ⟨xs, ps, j, rfl, rfl, hp, hlay, hj, rfl, rfl⟩ := inv_tindex hb
  obtain ⟨_, a, ws, rfl, h1, h2⟩ := hx
  obtain ⟨w, rfl, hw⟩ := rds1 hds
  cases hw
  cases r1
  obtain ⟨uy, rfl, ry⟩ : ∃ uy, us = [uy] ∧ RelV .non uy := by
    cases r2 with
    | cons ry rt => cases rt; exact ⟨_, rfl, ry⟩
  obtain ⟨bs, rb⟩ := Dp.reads I .none .non uy .non ry
  obtain ⟨its, rv, pl, hz⟩ := I.tuple h1
  obtain ⟨⟨cls, dd, dt, sl⟩, ho, hc, n, hd⟩ := pl
  simp only at hc hd
  subst hc
  subst hd
  obtain ⟨as, h4⟩ := Dp.readsAll I ps ws its (pds0_dp hp h2) rv
  have hn : its.length = ps.length := SeqAt.ReadsAll.length ps its as h4
  have hmap : its.map (SeqAt.readOf s.heap) = ps := SeqAt.readsAll_map ps its as hlay h4
  rw [List.findIdx?_eq_some_iff_getElem] at hj
  obtain ⟨hjl, hj1, hj2⟩ := hj
  have at_ : ∀ (k : Nat) (hk : k < its.toArray.size) (hkx : k < xs.length), PyData.eqv (SeqAt.readOf s.heap its.toArray[k]) .none = isNon xs[k] := by
    intro k hk hkx
    obtain ⟨h5, h6⟩ := pds0_get hp hkx
    have hkl : k < its.length := by simpa using hk
    have e1 : SeqAt.readOf s.heap its[k] = ps[k] := by
      have := List.getElem_map (SeqAt.readOf s.heap) (l := its) (i := k) (h := by simpa using hkl)
      rw [← this]
      congr 1
    have e2 : SeqAt.readOf s.heap its.toArray[k] = ps[k] := by simpa using e1
    rw [e2]
    exact eqv_non h6
  have hxl : xs.length = ps.length := by
    have := h2.length
    have := rv.length
    omega
  have hj' : j < its.toArray.size := by
    rw [List.size_toArray]; omega
  refine call_meets PySem.F.slot_tuple_index ⟨_, ho, rfl⟩ PySem.F.entry_tuple_index (PySem.F.args_tuple_index_2 _ _)
    (TI.tuple_indexAt a its.toArray n dd sl uy (fun u => PyData.eqv (SeqAt.readOf s.heap u) .none) j hj' ?_ ?_) ⟨ho, SeqAt.items_eqAt (vs := its.toArray) (show ReadsAll s.heap its.toArray.toList ps as from h4) rb hlay (by simp [PyData.canLay0]) (by simp [PyData.depth]; omega), ?_⟩
  · show PyData.eqv (SeqAt.readOf s.heap its.toArray[j]) .none = true
    rw [at_ j hj' hjl]
    exact hj1
  · intro k hk hkj
    show PyData.eqv (SeqAt.readOf s.heap its.toArray[k]) .none = false
    rw [at_ k hk (by omega)]
    have := hj2 k hkj
    simpa using this
  · exact ⟨.int (j : Nat), H, I.tok _, ⟨_, rfl⟩, q A H (Ext.refl A H) R _ rfl⟩
/-- a method of a tuple that has no dict -/
theorem pe_bmN {ob e : Expr} {es : List Expr} {to : TE} {ta : TA} {nm id : String} {ap cp : Pos} {rr : V → List V → Hp → VK → Prop} (pl : PlainAttrs "tuple") (st : Slot "tuple" nm id)
    (ty : typeOf (.builtin id) = pure (.type "method_descriptor")) (mt : MtR X id rr) (po : PE X ob to) (pa : PA X (e :: es) ta)
    (b1 : attributeBase ob nm X.env (eval ob X.env) = eval ob X.env)
    (b2 : ((backTo cp (starEach (e :: es) X.env)).all (fun y => !y.1) && (backToKw cp (keywordEach [] X.env)).all (fun y => y.1.isSome) && decide ((e :: es).length + ([] : List Keyword).length + (if ([] : List Keyword).isEmpty then 0 else 1) < 30)) = true)
    (b3 : (ap.endLine == cp.line) = true) (b4 : starEach (e :: es) X.env = (false, eval e X.env) :: starEach es X.env) (b5 : (backTo cp (starEach es X.env)).any (·.1) = false) :
    PE X (.Call (.Attribute ob nm ap) (e :: es) [] cp) (fun τ G W => to τ G fun x G1 => NoD G1 x ∧ ta τ G1 fun xs G2 => rr x xs G2 W) := by
  constructor
  intro ps sh τ G W Iv hW
  refine wpAny_Call_method_late b1 b2 b3 rfl (thn (po.run ps sh τ G _ Iv hW) ?_)
  rintro u sh1 ⟨x, G1, I1, ru, ⟨a, o, vs, rfl, ha, hd⟩, q1⟩
  cases ru
  have hk := I1.hok _ _ ha
  obtain ⟨k1, _, its, _, o', k2, k3, _⟩ := hk
  have k1 : sh1.heap.get? a = some o := k1
  rw [k1] at k2
  cases k2
  refine ⟨"tuple", id, pl, st, ty, ⟨o, k1, k3⟩, fun b hb => by cases hb; exact ⟨o, k1, hd⟩, ?_⟩
  have hA := pa.run cp ps sh1 τ G1 _ I1 q1
  rw [b4] at hA ⊢
  refine Calls.callWith_builtin (by show (false || (backTo cp (starEach es X.env)).any (·.1)) = false; rw [b5]; rfl) (Calls.evalArgs_plain (thn hA ?_))
  rintro us sh2 ⟨ws, G2, I2, r2, q2⟩
  exact mt ps sh2 τ G2 (.ref a) ws _ us W I2 rfl r2 q2
theorem mt_D_append : MtR X "list.append" (rMt X.K (methD .append)) := by
  intro pins s σ H v vs u us Q I r1 r2 h
  obtain ⟨A, m, x, ds, d, m', R, hx, hds, hb, q⟩ := h
  obtain ⟨n, y, xs, rfl, rfl, hg, hz, rfl, rfl⟩ := inv_append hb
  obtain ⟨a, rfl, h1⟩ := hx
  obtain ⟨w, rfl, h2⟩ := rds1 hds
  obtain ⟨ws, k1, k2⟩ := getL_at R hg h1
  exact mt_append pins s σ H _ _ u us Q I r1 r2 ⟨a, ws, w, rfl, rfl, k1, by rw [k2.length]; exact hz,
    q A _ (Ext.write R (List.mem_of_getElem? h1.1) _ ⟨_, k1⟩) (R.write h1.1 ⟨_, k1⟩ (k2.append (RDs.one h2))) _ rfl⟩
theorem mt_D_pop : MtR X "list.pop" (rMt X.K (methD .pop)) := by
  intro pins s σ H v vs u us Q I r1 r2 h
  obtain ⟨A, m, x, ds, d, m', R, hx, hds, hb, q⟩ := h
  obtain ⟨n, xs, rfl, rfl, hg, hy, rfl⟩ := inv_pop hb
  obtain ⟨a, rfl, h1⟩ := hx
  cases hds
  obtain ⟨ws, k1, k2⟩ := getL_at R hg h1
  obtain ⟨w, h3, h4⟩ := k2.get hy
  refine mt_pop pins s σ H _ _ u us Q I r1 r2 ⟨a, ws, w, rfl, rfl, k1, by rw [k2.length]; exact h3, ?_⟩
  have E := Ext.write R (List.mem_of_getElem? h1.1) ws.dropLast ⟨_, k1⟩
  exact q A _ E (R.write h1.1 ⟨_, k1⟩ k2.dropLast) _ (h4.mono E)

/-- a list is lengthened by a tuple -/
theorem extend_tup {l b : Addr} {xs ys : Array Value} {n k : Nat} {dd : Option Addr} {sl : Array (Option Value)} (h0 : (!xs.isEmpty && Builtin.List.listTooLong (xs.size + ys.size)) = false) (h1 : xs.size ≤ sizeLine) (h2 : xs.size + ys.size ≤ sizeLine + 1) :
    Meets (Builtin.«list.extend» ⟨[.ref l, .ref b], []⟩) (fun _ R s => s.heap.get? l = some ⟨.type "list", none, .seq xs n, #[]⟩ ∧ s.heap.get? b = some ⟨.type "tuple", dd, .seq ys k, sl⟩ ∧ R (.ok (.ret Value.none)) { s with heap := s.heap.update l (Obj.mapSeq fun x => x ++ ys), toks := s.toks }) := by
  refine .of_wp fun _ _ _ _ ⟨_, _, _, _, _⟩ ⟨hl, hb, h⟩ => ?_
  have g0 : ¬(!xs.isEmpty && Builtin.List.listTooLong (xs.size + ys.size)) = true := by rw [h0]; exact Bool.false_ne_true
  have g2 : (xs ++ ys).size ≤ sizeLine + 1 := by rw [Array.size_append]; exact h2
  have f1 := AutoSeq1.idx_int; have f2 := AutoSeq1.sub_tuple_tuple; have f3 := AutoSeq1.sub_list_list; have f4 := AutoSeq1.sub_tuple_list; have f5 := AutoSeq1.sub_list_tuple
  wp_walk using (wpAny_updateSeq hl rfl (hz := h1) (_hz' := g2)), wpAny_loadPart' hl, wpAny_loadPart' hb
  exact ⟨_, rfl, h⟩
def rExtendT (K : PySem.W.Frag) : V → List V → Hp → VK → Prop := fun x vs H Q => ∃ l b xs zs, x = .ref l ∧ vs = [.ref b] ∧ H l = some (.lst xs) ∧ SqT K H b zs ∧ xs.length + zs.length ≤ sizeLine ∧ Q .non (upd H l (.lst (xs ++ zs)))
theorem mt_extendT : MtM X "list.extend" (rExtendT X.K) := by
  intro pins s σ H x vs v us Q I rx rv ⟨l, b, xs, zs, e1, e2, hl, hb, hz, q⟩
  subst e1 e2
  cases rx
  obtain ⟨_, rfl, rb⟩ := rv.one
  cases rb
  obtain ⟨_, its, n, r1, _, gl⟩ := I.lstM hl
  obtain ⟨jts, r2, ⟨⟨cls, dd, data, sl⟩, gb, hc, k, hd⟩, _⟩ := I.tuple hb
  simp only at hc hd
  subst hc hd
  have n1 := r1.length
  have n2 := r2.length
  have s1 : its.toArray.size = its.length := List.size_toArray
  have s2 : jts.toArray.size = jts.length := List.size_toArray
  have few : its.toArray.size + jts.toArray.size ≤ sizeLine := by omega
  exact call_meets F.slot_list_extend ⟨_, gl, rfl⟩ F.entry_list_extend (F.args_list_extend_2 _ _) (extend_tup (by rw [notLongL few, Bool.and_false]) (by omega) (by omega)) ⟨gl, gb, .non, _, I.lset (its' := its ++ jts) hl gl (by simp) (r1.append r2) (by rw [List.length_append]; exact hz), rfl, q⟩
theorem mt_D_extend : MtR X "list.extend" (rMt X.K (methD .extend)) := by
  intro pins s σ H v vs u us Q I r1 r2 h
  obtain ⟨A, m, x, ds, d, m', R, hx, hds, hb, q⟩ := h
  obtain ⟨n, xs, ys, rfl, hd, hg, hz, rfl, rfl⟩ := inv_extend hb
  obtain ⟨a, rfl, h1⟩ := hx
  obtain ⟨ws, k1, k2⟩ := getL_at R hg h1
  have l1 := k2.length
  rcases hd with rfl | ⟨j, rfl, hj⟩
  · obtain ⟨w, rfl, b, zs, rfl, h2, h3⟩ := rds1 hds
    have l2 := h3.length
    exact mt_extendT pins s σ H _ _ u us Q I r1 r2 ⟨a, b, ws, zs, rfl, rfl, k1, h2, by omega,
      q A _ (Ext.write R (List.mem_of_getElem? h1.1) _ ⟨_, k1⟩) (R.write h1.1 ⟨_, k1⟩ (k2.append h3)) _ rfl⟩
  · obtain ⟨w, rfl, b, rfl, h2⟩ := rds1 hds
    obtain ⟨zs, k3, k4⟩ := getL_at R hj h2
    have l2 := k4.length
    exact mt_extend pins s σ H _ _ u us Q I r1 r2 ⟨a, b, ws, zs, rfl, rfl, k1, k3, by omega,
      q A _ (Ext.write R (List.mem_of_getElem? h1.1) _ ⟨_, k1⟩) (R.write h1.1 ⟨_, k1⟩ (k2.append k4)) _ rfl⟩
theorem strs_ok {K : PySem.W.Frag} {A : List Addr} {H : Hp} : ∀ {xs : List D} {zs : List Str} {vs : List V}, strsOf xs = some zs → RDs K A H xs vs → vs = zs.map V.str
  | [], zs, vs, h, hx => by cases h; cases hx; rfl
  | .str x :: xs, zs, vs, h, hx => by
    simp only [strsOf, Option.map_eq_some_iff] at h
    obtain ⟨ws, h1, rfl⟩ := h
    obtain ⟨v, r, rfl, h2, h3⟩ := hx
    cases h2
    rw [strs_ok h1 h3]
    rfl
  | .non :: _, _, _, h, _ => by cases h
  | .bl _ :: _, _, _, h, _ => by cases h
  | .int _ :: _, _, _, h, _ => by cases h
  | .tup _ :: _, _, _, h, _ => by cases h
  | .loc _ :: _, _, _, h, _ => by cases h
  | .fz _ :: _, _, _, h, _ => by cases h
theorem mt_D_join : MtR X "str.join" (rMt X.K (methD .join)) := by
  intro pins s σ H v vs u us Q I r1 r2 h
  obtain ⟨A, m, x, ds, d, m', R, hx, hds, hb, q⟩ := h
  obtain ⟨a, y, ys, zs, rfl, rfl, hs, hz, hl, rfl, rfl⟩ := inv_join hb
  cases hx
  obtain ⟨w, rfl, h1⟩ := rds1 hds
  obtain ⟨b, ws, rfl, h2, h3⟩ := seqOf_at R hs h1
  have e := strs_ok hz h2
  subst e
  exact mt_join pins s σ H _ _ u us Q I r1 r2 ⟨a, b, zs, rfl, rfl, h3, hl, q A H (Ext.refl A H) R _ rfl⟩

/-! ### isinstance -/
def tyD : D → String
  | .non => "NoneType" | .bl _ => "bool" | .int _ => "int" | .str _ => "str" | .tup _ => "tuple" | .loc _ => "list" | .fz _ => "list" | .set0 => "set" | .fn _ => "function" | .nd _ => "tuple" | .dloc _ => "dict"
theorem isi_ok {K : PySem.W.Frag} {A : List Addr} {H : Hp} {m : List SO} (R : Rl K A H m) {x : D} {v : V} {t : String} {b : Bool} (hi : isiD x t = some b) (hx : RD K A H x v) : TyX K H v (.type (tyD x)) := by
  cases x with
  | non => cases hx; exact .base .non
  | bl b => cases hx; exact .base (.bl b)
  | int i => cases hx; exact .base (.int i)
  | str z => cases hx; exact .base (.str z)
  | tup xs =>
    obtain ⟨a, vs, rfl, h1, h2⟩ := hx
    rcases h1 with (h1 | ⟨o, h1⟩) | ⟨o, its, n, h1, h3, _⟩
    · exact .base (.tup h1)
    · exact .fTuple h1
    · exact .kTuple h1 h3
  | fz xs =>
    obtain ⟨a, vs, rfl, h1, h2⟩ := hx
    rcases h1 with (⟨o, h1⟩ | ⟨h1, _⟩) | ⟨o, its, n, h1, h3, _⟩
    · exact .base (.frz h1)
    · exact .base (.lst h1)
    · exact .kList h1 h3
  | loc n =>
    obtain ⟨a, rfl, h1, o, k1, k2⟩ := hx
    obtain ⟨ws, rfl⟩ := kind_lst k2
    exact .base (.lst k1)
  | set0 => simp [isiD] at hi
  | fn _ => simp [isiD] at hi
  | nd _ => simp [isiD] at hi
  | dloc _ => simp [isiD] at hi
def tyN (t : String) : Bool := ["int", "bool", "str", "tuple", "list"].contains t
theorem isi_kit {x : D} {t : String} {b : Bool} (ht : tyN t = true) (h : isiD x t = some b) : kitB (tyD x) t = some b := by
  have ht' : t = "int" ∨ t = "bool" ∨ t = "str" ∨ t = "tuple" ∨ t = "list" := by
    simpa [tyN] using ht
  cases x <;> rcases ht' with rfl | rfl | rfl | rfl | rfl <;> first | (cases h; simp only [tyD]; decide +kernel) | (exact absurd (show (none : Option Bool) = some b from h) (by simp))
end Mi
/-! t[::-1], t a tuple -/
namespace Mi
open PySem PySem.Spec PyProof.Rows L2 HT
variable [TabsC]
section
variable {pg : Program} {wo : World} {Ar : Around} {Er : Value → Shared → Prop} {sh : Shared}
theorem places_rev (n : Nat) : Builtin.Slice.slicePlaces ((n : Int) - 1) (-1) (-1) = n := by
  unfold Builtin.Slice.slicePlaces; rw [if_neg (by decide)]
  by_cases hn : 0 < n
  · rw [if_pos (by omega), show (- -1 : Int) = 1 by decide, Int.ediv_one]; omega
  · rw [if_neg (by omega)]; omega
theorem applied_rev {z : Addr} {p q r : Value} {n : Nat} {Q : Int × Int × Nat → Shared → Prop} (hz : sh.heap.IsSliceOf z p q r) (hp : IsPart p none) (hq : IsPart q none) (hr : IsPart r (some (-1)))
    (h : Q ((n : Int) - 1, -1, n) sh) : wpAny (model pg wo) Ar (Builtin.Slice.sliceApplied (.ref z) (pure (n : Int))) Q Er sh := by
  obtain ⟨oz, g1, g2, g3⟩ := hz
  unfold Builtin.Slice.sliceApplied Builtin.Slice.sliceFields; refine wpAny_bind (wpAny_bind (wpAny_field g1 g3 (x := p) rfl (wpAny_bind (wpAny_field g1 g3 (x := q) rfl (wpAny_bind (wpAny_field g1 g3 (x := r) rfl (wpAny_pure ?_)))))))
  refine wpAny_bind (slicePart_ hr ?_)
  show wpAny _ _ (if ((-1 : Int) == 0) = true then _ else _) _ _ sh
  rw [if_neg (show ¬ ((-1 : Int) == 0) = true by decide)]
  refine wpAny_bind (slicePart_ hp (wpAny_bind (slicePart_ hq (wpAny_bind (wpAny_pure (show wpAny _ _ (pure ((n : Int) - 1, (-1 : Int), Builtin.Slice.slicePlaces ((n : Int) - 1) (-1) (-1))) _ _ sh from ?_))))))
  rw [places_rev]; exact wpAny_pure h
theorem fm_congr {α β : Type} {f g : α → Option β} : ∀ {l : List α}, (∀ x ∈ l, f x = g x) → l.filterMap f = l.filterMap g
  | [], _ => rfl
  | x :: l, h => by
    rw [List.filterMap_cons, List.filterMap_cons, h x List.mem_cons_self, fm_congr fun y hy => h y (List.mem_cons_of_mem _ hy)]
theorem pick_rev (xs : Array Value) : ((List.range xs.size).filterMap fun (m : Nat) => xs[(((xs.size : Int) - 1) + (m : Int) * -1).toNat]?).toArray = xs.toList.reverse.toArray := by
  have e : ((List.range xs.size).filterMap fun (m : Nat) => xs[(((xs.size : Int) - 1) + (m : Int) * -1).toNat]?) = ((List.range xs.size).map fun k => xs.size - 1 - k).filterMap (xs[·]?) := by
    rw [List.filterMap_map]
    apply fm_congr
    intro m hm
    have := List.mem_range.mp hm
    have e : (((xs.size : Int) - 1) + (m : Int) * -1).toNat = xs.size - 1 - m := by omega
    show xs[_]? = xs[_]?
    rw [e]
  rw [e, PySem.W.krv_range, List.filterMap_reverse, PySem.W.krv_all]
theorem tuple_rev {t z : Addr} {its : Array Value} {p q r : Value} {Q : Value → Shared → Prop} (ht : IsTup sh.heap t its) (hz : sh.heap.IsSliceOf z p q r) (hp : IsPart p none) (hq : IsPart q none) (hr : IsPart r (some (-1))) (hl : its.size ≤ sizeLine)
    (h : Q (.ref sh.heap.objs.size) { sh with heap := sh.heap.push { cls := .type "tuple", data := .seq its.toList.reverse.toArray } }) : wpAny (model pg wo) Ar (getItem (.ref t) (.ref z)) Q Er sh := by
  have fits : sizeOk (.seq its.toList.reverse.toArray) := by show its.toList.reverse.toArray.size ≤ sizeLine; simpa using hl
  have isSl : sh.TypeIs (.ref z) "slice" := let ⟨oz, g1, g2, _⟩ := hz; ⟨oz, g1, g2⟩
  unfold getItem; (try with_reducible refine wpAny_holding ?_); (first | refine wpAny_bind (wpAny_pure ?_) | skip)
  refine wpAny_bind (wpAny_sequenceKey ht.typeIs (by decide) (wpAny_bind (wpAny_callSpecial?_slot (name := Str.ofString "__getitem__") ht.typeIs slot_tuple_getitem (wpAny_call_entry slot_tuple_getitem ht.typeIs entry_tuple_getitem (show wpAny _ _ (Builtin.Tuple.tupleItemsOf (.ref t) >>= _) _ _ sh from ?_) (args_tuple_getitem _ _)))))
  refine wpAny_bind (tupleItemsOf_ ht (wpAny_bind (wpAny_typeOf isSl ?_)))
  rw [if_pos (by decide)]
  refine wpAny_bind (applied_rev hz hp hq hr (show wpAny _ _ (if (((its.size : Int) - 1) == 0 && (-1 : Int) == 1 && its.size == its.size) = true then _ else _) _ _ sh from ?_))
  rw [if_neg (by simp), pick_rev]
  first | exact wpAny_bind (m := Builtin.Tuple.tupleExact _) (wpAny_newObj_type (wpAny_pure ⟨_, rfl, wpAny_pure h⟩) fits) | exact wpAny_bind (m := Builtin.Tuple.tupleExact _) (wpAny_newObj_type (wpAny_bind (wpAny_pure (wpAny_pure ⟨_, rfl, wpAny_pure h⟩))) fits) | exact wpAny_bind (wpAny_bind (m := Builtin.Tuple.tupleExact _) (wpAny_newObj_type (wpAny_pure (wpAny_pure ⟨_, rfl, wpAny_pure h⟩)) fits)) | exact wpAny_bind (wpAny_bind (m := Builtin.Tuple.tupleExact _) (wpAny_newObj_type (wpAny_pure ⟨_, rfl, wpAny_pure h⟩) fits))
end
variable {X : Cx}
def tRevT (K : PySem.W.Frag) (te : TE) : TE := fun σ H Q => te σ H fun x H1 => ∃ a xs, x = .ref a ∧ SqT K H1 a xs ∧ ∀ p, H1 p = none → Q (.ref p) (upd H1 p (.tup xs.reverse))
theorem pe_revT {e : Expr} {te : TE} {k : Nat} {p1 p2 p3 pos : Pos} (he : PE X e te) : PE X (.Subscript e (.Slice none none (some (.UnaryOp .USub (.Constant (.int 1) k p1) p2)) p3) pos) (tRevT X.K te) := by
  have pm : PO X (some (.UnaryOp .USub (.Constant (.int 1) k p1) p2)) (tPart (tUn (rU fun i => .int (-i)) (tC (.int 1)))) := po_some (pe_un un_neg pe_int)
  refine ⟨fun pins s σ H Q I h => Subscript_ (thn (he.run pins s σ H _ I h) fun v s1 ⟨x, H1, I1, r1, q1⟩ => ?_)⟩
  obtain ⟨a, xs, rfl, hx, q⟩ := q1
  cases r1
  refine wpAny_Slice (thn (po_none.run pins s1 σ H1 (fun o H2 => o = none ∧ H2 = H1) I1 ⟨rfl, rfl⟩) fun va s2 ⟨oa, Ha, I2, pa, ea, fa⟩ => ?_)
  subst ea fa
  refine thn (po_none.run pins s2 σ Ha (fun o H3 => o = none ∧ H3 = Ha) I2 ⟨rfl, rfl⟩) fun vb s3 ⟨ob, Hb, I3, pb, eb, fb⟩ => ?_
  subst eb fb
  refine thn (pm.run pins s3 σ Hb (fun o H4 => o = some (-1) ∧ H4 = Hb) I3 ⟨1, rfl, -1, rfl, rfl, rfl⟩) fun vc s4 ⟨oc, Hc, I4, pc, ec, fc⟩ => ?_
  subst ec fc
  have J : L2.Inv X pins σ Hc { s4 with heap := s4.heap.push { cls := .type "slice", data := .fields #[va, vb, vc] } } := I4.kept (t' := s4.toks) fun _ _ => Heap.get?_push_of_some _
  obtain ⟨its, rv, ht, hz⟩ := J.tuple hx
  refine (show wpAny (model X.prog X.w) X.A (subscriptTail e (.Slice none none (some (.UnaryOp .USub (.Constant (.int 1) k p1) p2)) p3) (.ref a) (.ref s4.heap.objs.size)) (EP X pins σ Q) X.xe { s4 with heap := s4.heap.push { cls := .type "slice", data := .fields #[va, vb, vc] } } from ?_)
  refine tail_any (ops := [.ref a, .ref s4.heap.objs.size]) ht.typeIs slot_tuple_getitem.lookup (tuple_rev ht (Heap.IsSliceOf.new _ va vb vc) pa pb pc (by rw [List.size_toArray, ← rv.length]; exact hz) ?_) (by with_unfolding_all rfl)
  have L := J.laid (t' := s4.toks) (o := .tup xs.reverse) (h' := (s4.heap.push { cls := .type "slice", data := .fields #[va, vb, vc] }).push { cls := .type "tuple", data := .seq its.reverse.toArray }) (fun _ _ => Heap.get?_push_of_some _) (Nat.le_refl _) ⟨by rw [List.length_reverse]; exact hz, _, rv.reverse, IsTup.new _ _⟩
  exact ⟨.ref _, _, L, rfl, q _ (J.hok.fresh (Nat.le_refl _))⟩
end Mi
namespace Mi
open PySem PySem.Spec PyProof.Rows L2
variable [TabsC]

mutual
def eqbD : D → D → Bool
  | .non, .non => true
  | .bl a, .bl b => a == b
  | .int a, .int b => a == b
  | .str a, .str b => a == b
  | .tup a, .tup b => eqbDs a b
  | .fn a, .fn b => a == b
  | _, _ => false
def eqbDs : List D → List D → Bool
  | [], [] => true
  | x :: xs, y :: ys => eqbD x y && eqbDs xs ys
  | _, _ => false
end
mutual
theorem eqbD_eq : ∀ {x y : D}, eqbD x y = true → x = y
  | .non, y, h => by cases y <;> first | rfl | (exact absurd h Bool.false_ne_true)
  | .bl a, y, h => by cases y <;> first | (exact congrArg D.bl (eq_of_beq h)) | (exact absurd h Bool.false_ne_true)
  | .int a, y, h => by cases y <;> first | (exact congrArg D.int (eq_of_beq h)) | (exact absurd h Bool.false_ne_true)
  | .str a, y, h => by cases y <;> first | (exact congrArg D.str (eq_of_beq h)) | (exact absurd h Bool.false_ne_true)
  | .tup a, y, h => by cases y <;> first | (exact congrArg D.tup (eqbDs_eq h)) | (exact absurd h Bool.false_ne_true)
  | .fn a, y, h => by cases y <;> first | (exact congrArg D.fn (eq_of_beq h)) | (exact absurd h Bool.false_ne_true)
  | .loc a, y, h => by cases y <;> exact absurd h Bool.false_ne_true
  | .fz a, y, h => by cases y <;> exact absurd h Bool.false_ne_true
theorem eqbDs_eq : ∀ {x y : List D}, eqbDs x y = true → x = y
  | [], y, h => by cases y <;> first | rfl | (exact absurd h Bool.false_ne_true)
  | a :: as, [], h => absurd h Bool.false_ne_true
  | a :: as, b :: bs, h => by
    have h' : (eqbD a b && eqbDs as bs) = true := h
    rw [Bool.and_eq_true] at h'
    rw [eqbD_eq h'.1, eqbDs_eq h'.2]
end
def eqbK : List (Str × D) → List (Str × D) → Bool
  | [], [] => true
  | (a, x) :: xs, (b, y) :: ys => a == b && eqbD x y && eqbK xs ys
  | _, _ => false
theorem eqbK_eq : ∀ {x y : List (Str × D)}, eqbK x y = true → x = y
  | [], [], _ => rfl
  | [], _ :: _, h => absurd h Bool.false_ne_true
  | _ :: _, [], h => absurd h Bool.false_ne_true
  | (a, x) :: xs, (b, y) :: ys, h => by
    have h' : (a == b && eqbD x y && eqbK xs ys) = true := h
    rw [Bool.and_eq_true, Bool.and_eq_true] at h'
    rw [eq_of_beq h'.1.1, eqbD_eq h'.1.2, eqbK_eq h'.2]

/-- what a text leans on -/
structure Sx where
  blt : List Str
  gl : List (Str × D)
  gd : List (Str × List (Str × D))
  fns : List Str
  gen : Bool := false
  nfns : List Str := []

/-- what is wanted of a def by its run -/
def spD (K : PySem.W.Frag) (cf : List D → M D) : Sp := fun vs H Q _ => ∃ A m ds d m', Rl K A H m ∧ RDs K A H ds vs ∧ cf ds m = some (d, m') ∧ ∀ A' H', Ext A H A' H' → Rl K A' H' m' → ∀ u, RD K A' H' d u → Q u H'
/-- a dict of the written part -/
def WDict (K : PySem.W.Frag) (w : World) (a : Addr) (kvs : List (Str × D)) : Prop :=
  ∃ es n, KDict K w a es n ∧ ∀ z : Str, match kvs.lookup z with
    | some d => ∃ u v, PySem.W.nsIn K a z = some (some u) ∧ RelV v u ∧ ∀ A H, RD K A H d v
    | none => PySem.W.nsIn K a z = some none

structure XOk (S : Sx) (lv : Nat) (k : Nat) (cf : Str → List D → M D) (N : List Str) (cl : Bool) (ns : List (Str × NameKind)) (X : Cx) : Prop where
  eN : X.N = N
  nd : N.Nodup
  names : X.env.scope.names = ns
  kind : X.env.scope.kind = .function
  calm : X.calm = true
  room : Room lv X.A
  lek : 2 * k ≤ lv
  room2 : S.gen = true → cl = true → Room (lv + 1) X.A
  never : X.xe = fun _ _ => False
  cells : cl = true → ∀ x, X.fn x = true
  blt : ∀ x ∈ S.blt, X.mg x = none
  gl : ∀ p ∈ S.gl, ∃ u v, X.mg p.1 = some u ∧ RelV v u ∧ ∀ A H, RD X.K A H p.2 v
  gd : ∀ p ∈ S.gd, ∃ a, X.mg p.1 = some (.ref a) ∧ WDict X.K X.w a p.2
  fn : ∀ f ∈ S.fns, ∃ a fd ps, X.mg f = some (.ref a) ∧ PySem.W.keepIn X.K (.ref a) = true ∧ Binds X.K fd ps [] ∧ FnOk X.prog X.w X.K X.mg X.base CX0 lv a fd ps (spD X.K (cf f))
  ew : X.w = TabsC.w
  tab : S.gen = true ∧ cl = true → ∃ p ∈ TabsC.C, X.env.code = .ref p.1 ∧ GxR.TabB X.base X.mg p.1 p.2

def visB (ns : List (Str × NameKind)) (x : Str) : Bool := match ns.lookup x with
  | some .local => true | some .cell => true | some .free => true
  | _ => false
def gloB (ns : List (Str × NameKind)) (x : Str) : Bool := match ns.lookup x with
  | some .globalImplicit => true
  | _ => false
def stoB (cl : Bool) (ns : List (Str × NameKind)) (x : Str) : Bool := match ns.lookup x with
  | some .local => true
  | some .cell => cl
  | _ => false
def noDb (x : Str) : Bool := !(x == ("__debug__" : Str)) && !(x == ("__classdict__" : Str))
def relN (ns sc : List (Str × NameKind)) : List (Str × NameKind) := sc.map fun (n, k) => if (k == NameKind.free && ns.lookup n == some .cell) then (n, .cell) else (n, k)

def notStar : Expr → Bool | .Starred _ _ => false | _ => true
def notSet : Expr → Bool | .Set _ _ _ => false | _ => true
def notComp : Expr → Bool | .ListComp _ _ _ _ => false | .SetComp _ _ _ _ => false | .DictComp _ _ _ _ _ => false | _ => true
def notCall : Expr → Bool | .Call _ _ _ _ => false | _ => true
def notTest : Expr → Bool | .UnaryOp .Not _ _ => false | .BoolOp _ _ _ => false | .IfExp _ _ _ _ => false | .Compare _ _ _ _ => false | _ => true
def notSlice : Expr → Bool | .Slice _ _ _ _ => false | _ => true
theorem star_cons {env : Env} {e : Expr} {es : List Expr} (h : notStar e = true) : starEach (e :: es) env = (false, eval e env) :: starEach es env := by
  cases e <;> first | rfl | (exact absurd h Bool.false_ne_true)
theorem star_flat {env : Env} : ∀ {es : List Expr}, es.all notStar = true → ∀ p ∈ starEach es env, p.1 = false
  | [], _, p, hp => by cases hp
  | e :: es, h, p, hp => by
    rw [List.all_cons, Bool.and_eq_true] at h
    rw [star_cons h.1] at hp
    rcases List.mem_cons.mp hp with rfl | hp
    · rfl
    · exact star_flat h.2 p hp
theorem back_flat {pos : Pos} {es : List Expr} {env : Env} (h : es.all notStar = true) : ∀ p ∈ backTo pos (starEach es env), p.1 = false := fun p hp => by
  obtain ⟨q, hq, rfl⟩ := List.mem_map.mp hp
  exact star_flat h q hq
theorem any_false {α : Type} {l : List (Bool × α)} (h : ∀ p ∈ l, p.1 = false) : l.any (·.1) = false := by
  rw [List.any_eq_false]
  intro p hp
  rw [h p hp]
  decide
theorem back_any {pos : Pos} {es : List Expr} {env : Env} (h : es.all notStar = true) : (backTo pos (starEach es env)).any (·.1) = false := any_false (back_flat h)
theorem fold_set {env : Env} {e : Expr} (h : notSet e = true) : ∀ x, foldedSetIterable e env x = pure x := by
  intro x
  cases e <;> first | rfl | (exact absurd h Bool.false_ne_true)
theorem swaps_no {env : Env} {e : Expr} {t : Option Expr} {n : Nat} (h : notComp e = true) : swapsWith e t n env = pure false := by
  cases e <;> first | rfl | (exact absurd h Bool.false_ne_true)
theorem abase {env : Env} {e : Expr} {nm : Str} (h : notCall e = true) : attributeBase e nm env (eval e env) = eval e env := by
  cases e <;> first | rfl | (exact absurd h Bool.false_ne_true)
theorem test_plain {env : Env} {e : Expr} (h : notTest e = true) : ∀ whole, isTrue e env whole = (do let v ← whole; standAt e.pos; holding [v] (truthy v)) := by
  intro w
  cases e <;> first | rfl | (exact absurd h Bool.false_ne_true) | (rename_i op _ _; cases op <;> first | rfl | (exact absurd h Bool.false_ne_true))
theorem plainIx {e : Expr} (h : notSlice e = true) : PlainIx e := by
  intro o i
  cases e <;> first | rfl | (exact absurd h Bool.false_ne_true)

section
variable {S : Sx} {lv k : Nat} {cf : Str → List D → M D} {N : List Str} {cl : Bool} {ns : List (Str × NameKind)} {X : Cx} (O : XOk S lv k cf N cl ns X)
include O
theorem XOk.vis {x : Str} (h : visB ns x = true) : Vis X.env.scope x := by
  unfold visB at h
  unfold Vis
  rw [O.names]
  split at h <;> simp_all
theorem XOk.glo {x : Str} (h : gloB ns x = true) : Gl X x := by
  unfold gloB at h
  show X.env.scope.names.lookup x = some .globalImplicit
  rw [O.names]
  split at h <;> simp_all
theorem XOk.loc {x : Str} (h : stoB cl ns x = true) : L2.Loc X.env.scope x ∧ (X.fn x = true ∨ X.env.scope.names.lookup x = some .local) := by
  unfold stoB at h
  unfold L2.Loc
  rw [O.names]
  split at h
  · rename_i e; exact ⟨.inl e, .inr e⟩
  · rename_i e; exact ⟨.inr e, .inl (O.cells h x)⟩
  · cases h
end
theorem noDb_1 {x : Str} (h : noDb x = true) : (x == ("__debug__" : Str)) = false ∧ (x == ("__classdict__" : Str)) = false := by
  unfold noDb at h
  simpa using h
end Mi
namespace Mi
open PySem PySem.Spec PyProof.Rows L2
variable [TabsC]

def slots : Tg → List Nat
  | .nm i => [i]
  | .tp is => is
  | .tn ts => ts.flatten
structure Ck where
  e : Expr → Bool
  a : List Expr → Bool
  s : List Expr → Bool
def ckE (f : Expr → Bool) : Ck := ⟨f, fun _ => false, fun _ => false⟩
def mthN : Mth → Str
  | .append => "append" | .pop => "pop" | .extend => "extend" | .join => "join" | .tindex => "index"

def chkT (N : List Str) (cl : Bool) (ns : List (Str × NameKind)) : Tg → Expr → Bool
  | .nm i, .Name x _ => N[i]? == some x && stoB cl ns x
  | .tp is, .Tuple es _ _ => go is es
  | .tn ts, .Tuple es _ _ => decide (ts.length = es.length) && (ts.zip es).all fun p => match p.1, p.2 with
    | [i], .Name x _ => N[i]? == some x && stoB cl ns x
    | i :: j :: is, .Tuple xs _ _ => go (i :: j :: is) xs
    | _, _ => false
  | _, _ => false
where go : List Nat → List Expr → Bool
  | [], [] => true
  | i :: is, .Name x _ :: es => N[i]? == some x && stoB cl ns x && go is es
  | _, _ => false
def chkI (S : Sx) (ns : List (Str × NameKind)) (ca : List Expr → Bool) (tg : Expr) : Itk → Expr → Bool
  | .one, e => ca [e] && notSet e
  | .rng1, .Call (.Name x _) [a] [] _ => x == ("range" : Str) && S.blt.contains "range" && gloB ns "range" && ca [a]
  | .rng2, .Call (.Name x _) [a, b] [] _ => x == ("range" : Str) && S.blt.contains "range" && gloB ns "range" && ca [a, b]
  | .zip, .Call (.Name x _) [a, b] [] _ => x == ("zip" : Str) && S.blt.contains "zip" && gloB ns "zip" && ca [a, b] && (match tg with | .Tuple _ _ _ => true | _ => false)
  | .rev, .Call (.Name x _) [a] [] _ => x == ("reversed" : Str) && S.blt.contains "reversed" && gloB ns "reversed" && ca [a]
  | .txt, e => ca [e] && notSet e
  | _, _ => false

def keysB : List Str → List (Option Expr) → Bool
  | [], [] => true
  | z :: zs, some (.Constant (.str x) _ _) :: es => x == z && keysB zs es
  | _, _ => false

def genB (scope : Scope) (x : Str) : Bool := scope.kind == .function && !scope.isCoroutine && scope.names.all (fun y => y.2 != .cell && y.2 != .free) && scope.names.lookup (".0" : Str) == some NameKind.local && scope.names.lookup x == some .local

/-- a generator's own scope -/
def gscB (scope : Scope) : Bool := scope.kind == .function && !scope.isCoroutine && scope.names.all (fun y => y.2 != .cell && y.2 != .free) && scope.names.lookup (".0" : Str) == some NameKind.local
def notList : Expr → Bool | .List _ _ => false | _ => true
def chk (S : Sx) (N : List Str) : Ex → Bool → List (Str × NameKind) → Ck
  | .nil, _, _ => ⟨fun _ => false, fun es => es.isEmpty, fun es => es.isEmpty⟩
  | .cons c cs, cl, ns => ⟨fun _ => false, fun es => match es with
    | e :: es => notStar e && (chk S N c cl ns).e e && (chk S N cs cl ns).a es
    | [] => false, fun es => match es with
    | e :: es => notStar e && (chk S N c cl ns).e e && (chk S N cs cl ns).s es
    | [] => false⟩
  | .scons c cs, cl, ns => ⟨fun _ => false, fun _ => false, fun es => match es with
    | .Starred e _ :: es => (chk S N c cl ns).e e && (chk S N cs cl ns).s es
    | _ => false⟩
  | .tupM es, cl, ns => ckE fun e => match e with
    | .Tuple xs _ _ => (chk S N es cl ns).s xs
    | _ => false
  | .fstr pre a, cl, ns => ckE fun e => match e with
    | .JoinedStr [.Constant (.str z) _ _, .FormattedValue x c none _] _ => z == pre && decide (c = -1) && (chk S N a cl ns).e x
    | _ => false
  | .var i, cl, ns => ckE fun e => match e with
    | .Name x _ => N[i]? == some x && visB ns x && noDb x
    | _ => false
  | .cst d, cl, ns => ckE fun e => match e with
    | .Constant c _ _ => match c, d with
      | .none, .non => true
      | .bool a, .bl b => a == b
      | .int a, .int b => a == b
      | .str a, .str b => a == b
      | _, _ => false
    | _ => false
  | .glb x d, cl, ns => ckE fun e => match e with
    | .Name y _ => y == x && gloB ns x && noDb x && S.gl.any fun p => p.1 == x && eqbD p.2 d
    | _ => false
  | .bin o a b, cl, ns => ckE fun e => match e with
    | .BinOp x op y _ => decide (op = bopOf o) && (chk S N a cl ns).e x && (chk S N b cl ns).e y
    | _ => false
  | .neg a, cl, ns => ckE fun e => match e with
    | .UnaryOp .USub x _ => (chk S N a cl ns).e x
    | _ => false
  | .cmp o a b, cl, ns => ckE fun e => match e with
    | .Compare x [op] [y] _ => decide (op = copOf o) && (chk S N a cl ns).e x && (chk S N b cl ns).e y && notSet y
    | _ => false
  | .chain o o' a b c, cl, ns => ckE fun e => match e with
    | .Compare x [op, op'] [y, z] _ => decide (op = copOf o) && decide (op' = copOf o') && (chk S N a cl ns).e x && (chk S N b cl ns).e y && (chk S N c cl ns).e z && notSet z
    | _ => false
  | .and a b, cl, ns => ckE fun e => match e with
    | .BoolOp .And (x :: y :: rest) p => (chk S N a cl ns).e x && (match rest with
      | [] => (chk S N b cl ns).e y
      | z :: r => (chk S N b cl ns).e (.BoolOp .And (y :: z :: r) p))
    | _ => false
  | .or a b, cl, ns => ckE fun e => match e with
    | .BoolOp .Or (x :: y :: rest) p => (chk S N a cl ns).e x && (match rest with
      | [] => (chk S N b cl ns).e y
      | z :: r => (chk S N b cl ns).e (.BoolOp .Or (y :: z :: r) p))
    | _ => false
  | .not a, cl, ns => ckE fun e => match e with
    | .UnaryOp .Not x _ => (chk S N a cl ns).e x
    | _ => false
  | .ifx c a b, cl, ns => ckE fun e => match e with
    | .IfExp t x y _ => (chk S N c cl ns).e t && (chk S N a cl ns).e x && (chk S N b cl ns).e y
    | _ => false
  | .tup es, cl, ns => ckE fun e => match e with
    | .Tuple xs _ _ => (chk S N es cl ns).a xs
    | _ => false
  | .lst es, cl, ns => ckE fun e => match e with
    | .List xs _ => (chk S N es cl ns).a xs
    | _ => false
  | .idx a i, cl, ns => ckE fun e => match e with
    | .Subscript x y _ => (chk S N a cl ns).e x && (chk S N i cl ns).e y && notSlice y
    | _ => false
  | .slc a lo hi, cl, ns => ckE fun e => match e with
    | .Subscript x (.Slice l h none _) _ => (chk S N a cl ns).e x && (chk S N lo cl ns).a l.toList && (chk S N hi cl ns).a h.toList
    | _ => false
  | .rvs a, cl, ns => ckE fun e => match e with
    | .Subscript x (.Slice none none (some (.UnaryOp .USub (.Constant (.int i) _ _) _)) _) _ => i == 1 && (chk S N a cl ns).e x
    | _ => false
  | .call f es, cl, ns => ckE fun e => match e with
    | .Call (.Name x _) (y :: ys) [] _ => x == f && S.fns.contains f && gloB ns f && noDb f && (chk S N es cl ns).a (y :: ys)
    | _ => false
  | .blt b es, cl, ns => ckE fun e => match e with
    | .Call (.Name x _) (y :: ys) [] _ => x == bltN b && S.blt.contains (bltN b) && gloB ns (bltN b) && (chk S N es cl ns).a (y :: ys)
    | _ => false
  | .meth f o es, cl, ns => ckE fun e => match e with
    | .Call (.Attribute x nm ap) ys [] cp => nm == mthN f && notCall x && ap.endLine == cp.line && (chk S N o cl ns).e x && (chk S N es cl ns).a ys && (match f, ys with
      | .pop, [] => true
      | .append, [_] => true
      | .join, [_] => true
      | .tindex, [_] => true
      | .extend, [_] => true
      | _, _ => false)
    | _ => false
  | .isi a t, cl, ns => ckE fun e => match e with
    | .Call (.Name f _) [x, .Name ty _] [] _ => f == ("isinstance" : Str) && S.blt.contains "isinstance" && gloB ns "isinstance" && tyN t && ty == Str.ofString t && S.blt.contains (Str.ofString t) && gloB ns (Str.ofString t) && notStar x && (chk S N a cl ns).e x
    | _ => false
  | .comp own g ik args cond elt, cl, ns => ckE fun e => match e with
    | .ListComp el [⟨tg, iter, ifs, as⟩] scope _ => decide (as = 0) && blkC N { kind := .function, names := ns, isGenerator := false, isCoroutine := false } scope own &&
        chkI S ns (chk S N args cl ns).a tg ik iter && chkT N false (relN ns scope.names) g tg && (slots g).all (fun i => (own.map (·.2)).contains i) && notSet iter && (chk S N elt false (relN ns scope.names)).e el &&
        (match ifs with
          | [] => (match cond with | .nil => true | _ => false)
          | [c] => (match cond with | .nil => false | _ => true) && (chk S N cond false (relN ns scope.names)).e c
          | _ => false)
    | _ => false
  | .gget x kvs i, cl, ns => ckE fun e => match e with
    | .Subscript (.Name y _) z _ => y == x && gloB ns x && noDb x && (S.gd.any fun p => p.1 == x && eqbK p.2 kvs) && (chk S N i cl ns).e z && notSlice z
    | _ => false
  | .gin neg x kvs i, cl, ns => ckE fun e => match e with
    | .Compare z [op] [.Name y _] _ => decide (op = if neg then .NotIn else .In) && y == x && gloB ns x && noDb x && (S.gd.any fun p => p.1 == x && eqbK p.2 kvs) && (chk S N i cl ns).e z
    | _ => false
  | .dsub ks vs i, cl, ns => ckE fun e => match e with
    | .Subscript (.Dict keys values _) z _ => keysB ks keys && decide (ks.length = values.length) && !ks.isEmpty && decide (ks.length ≤ 15) && decide ks.Nodup && (chk S N vs cl ns).a values && (chk S N i cl ns).e z && notSlice z
    | _ => false
  | .anyR z a, cl, ns => ckE fun e => match e with
    | .Call (.Name f _) [.GeneratorExp (.Compare (.Subscript (.Name x _) (.Constant (.int 0) _ _) _) [.Eq] [.Constant (.str y) _ _] _) [⟨.Name x2 _, .Call (.Name g _) [b] [] _, [], as⟩] scope _] [] _ =>
      decide (as = 0) && f == ("any" : Str) && g == ("reversed" : Str) && y == z && x == x2 && noDb x && S.blt.contains "any" && S.blt.contains "reversed" && gloB ns "any" && gloB ns "reversed" && S.gen && cl && genB scope x && notStar b && (chk S N a cl ns).e b
    | _ => false
  | .callv fs i es, cl, ns => ckE fun e => match e with
    | .Call (.Name x _) (y :: ys) [] _ => N[i]? == some x && visB ns x && noDb x && fs.all (fun f => S.fns.contains f && S.gl.any fun p => p.1 == f && eqbD p.2 (.fn f)) && (chk S N es cl ns).a (y :: ys)
    | _ => false
  | .tupN es, cl, ns => ckE fun e => match e with
    | .Tuple xs _ _ => (chk S N es cl ns).a xs
    | _ => false
  | .cot a, cl, ns => ckE fun e => (chk S N a cl ns).e e && notTest e
  | .mkSet, cl, ns => ckE fun e => match e with
    | .Call (.Name x _) [] [] _ => x == ("set" : Str) && S.blt.contains "set" && gloB ns "set"
    | _ => false
  | .srt a, cl, ns => ckE fun e => match e with
    | .Call (.Name x _) [y] [] _ => x == ("sorted" : Str) && S.blt.contains "sorted" && gloB ns "sorted" && notStar y && (chk S N a cl ns).e y
    | _ => false
  | .tupS a es, cl, ns => ckE fun e => match e with
    | .Tuple (.Starred x _ :: ys) _ _ => (chk S N a cl ns).e x && (chk S N es cl ns).a ys
    | _ => false
  | .dnew, cl, ns => ckE fun e => match e with
    | .Dict [] [] _ => true
    | _ => false
  | .dget a i, cl, ns => ckE fun e => match e with
    | .Subscript x y _ => (chk S N a cl ns).e x && (chk S N i cl ns).e y && notSlice y
    | _ => false
  | .din neg i a, cl, ns => ckE fun e => match e with
    | .Compare z [op] [y] _ => decide (op = if neg then .NotIn else .In) && (chk S N i cl ns).e z && (chk S N a cl ns).e y && notSet y
    | _ => false
  | .dgtx a i x, cl, ns => ckE fun e => match e with
    | .Call (.Attribute y nm ap) [z, w] [] cp => nm == ("get" : Str) && notCall y && ap.endLine == cp.line && (chk S N a cl ns).e y && (chk S N i cl ns).e z && (chk S N x cl ns).e w && notStar z && notStar w
    | _ => false
  | .ddsp ks vs, cl, ns => ckE fun e => match e with
    | .Dict keys values _ => keysB ks keys && decide (ks.length = values.length) && !ks.isEmpty && decide (ks.length ≤ 15) && (chk S N vs cl ns).a values
    | _ => false
  | .allG own g ik args elt, cl, ns => ckE fun e => match e with
    | .Call (.Name f _) [.GeneratorExp el [⟨tg, iter, [], as⟩] scope _] [] _ =>
      decide (as = 0) && f == ("all" : Str) && S.blt.contains "all" && gloB ns "all" && S.gen && cl && gscB scope && decide own.Nodup && chkI S ns (chk S N args cl ns).a tg ik iter && notSet iter && notList iter &&
        chkT own false scope.names g tg && (chk S own elt false scope.names).e el
    | _ => false
end Mi
namespace Mi
open PySem PySem.Spec PyProof.Rows L2
variable [TabsC]

section
variable {X : Cx} {e : Expr} {es : List Expr}
theorem pend_no {K : PySem.W.Frag} {α : Type} {σ : L2.St} {H : Hp} {xs : List (D × V)} {F : List Addr → Hp → Rho → α → Prop} (h : Pend K σ H xs (fun _ => M.no) F) : False := by
  obtain ⟨_, _, _, _, _, _, _, _, hc, _⟩ := h
  cases hc
theorem pt_no : PT X e (tT X.K fun _ => M.no) := ⟨fun pins s σ H Q I h => (pend_no h).elim⟩
theorem pa_no : PA X es (tL X.K fun _ => M.no) := ⟨fun p pins s σ H Q I h => (pend_no h).elim⟩
theorem pt_den {f : Rho → M D} (he : notTest e = true) (h : PE X e (tV X.K f)) : PT X e (tT X.K fun r => (f r).bnd truthM) :=
  PT.imp (pt_truth h (test_plain he)) fun σ H Q q => by
    obtain ⟨A, m, r, b, m', R, S, hx, hc, q⟩ := q
    obtain ⟨d, m1, h1, h2⟩ := bnd_some hc
    refine ⟨A, m, r, d, m1, R, S, hx, h1, fun A1 H1 e1 R1 v hv => ?_⟩
    unfold truthM at h2
    split at h2
    · rename_i b' hb
      cases h2
      exact ⟨b, truth_ok R1 hb hv, q A1 H1 e1 R1⟩
    · cases h2
/-- a value and its truth -/
theorem both_den {f : Rho → M D} (he : notTest e = true) (h : PE X e (tV X.K f)) : PE X e (tV X.K fun r => (den (f r)).v) ∧ PT X e (tT X.K fun r => (den (f r)).t) := ⟨h, pt_den he h⟩
theorem pw_of_pt {op : BoolOp} {vs : List Expr} {pos : Pos} {t : TT} (h : PT X (.BoolOp op vs pos) t) : PW X (.BoolOp op vs pos) t :=
  ⟨fun whole pins s σ H Q I q => h.run pins s σ H Q I q⟩
end

section
variable {S : Sx} {k : Nat} {cf : Str → List D → M D} {N : List Str} {cl : Bool} {ns : List (Str × NameKind)} {X : Cx}
/-- one value, an operation on it -/
theorem pend_1 {K : PySem.W.Frag} {σ : L2.St} {H : Hp} {f : Rho → M D} {g : D → M D} {Q : VK} (h : Pend K σ H [] (fun r => (f r).bnd g) (finV K Q)) : tV K f σ H fun v H1 => r1 K g v H1 Q := by
  obtain ⟨A, m, r, b, m', R, S, hx, hc, q⟩ := h
  obtain ⟨d, m1, h1, h2⟩ := bnd_some hc
  exact ⟨A, m, r, d, m1, R, S, hx, h1, fun A1 H1 e1 R1 v hv => ⟨A1, m1, d, b, m', R1, hv, h2, fun A2 H2 e2 R2 => q A2 H2 (e1.trans e2) R2⟩⟩
theorem pend_2 {K : PySem.W.Frag} {σ : L2.St} {H : Hp} {f g : Rho → M D} {o : D → D → M D} {Q : VK} (h : Pend K σ H [] (fun r => (f r).bnd fun x => (g r).bnd fun y => o x y) (finV K Q)) :
    tV K f σ H fun v H1 => tV K g σ H1 fun w H2 => r2 K o v w H2 Q := by
  refine (h.v (g := fun x r => (g r).bnd fun y => o x y)).imp fun A h => ?_
  obtain ⟨m, r, d, m1, R, S, hx, h1, q⟩ := h
  refine ⟨m, r, d, m1, R, S, hx, h1, fun A1 H1 e1 R1 v hv => ?_⟩
  obtain ⟨d', A2, m2, r2', b, m', R2, S2, hx2, hc, q2⟩ := q A1 H1 e1 R1 v hv
  obtain ⟨y, m3, h3, h4⟩ := bnd_some hc
  exact ⟨A2, m2, r2', y, m3, R2, S2, (fun _ z => nomatch z), h3, fun A3 H3 e3 R3 w hw => ⟨A3, m3, d', y, b, m', R3, (hx2 _ (List.mem_cons_self)).mono e3, hw, h4, fun A4 H4 e4 R4 => q2 A4 H4 (e3.trans e4) R4⟩⟩
theorem pend_2B {K : PySem.W.Frag} {σ : L2.St} {H : Hp} {f g : Rho → M D} {o : D → D → M Bool} {Q : Bool → Hp → Prop} (h : Pend K σ H [] (fun r => (f r).bnd fun x => (g r).bnd fun y => o x y) (finT Q)) :
    tV K f σ H fun v H1 => tV K g σ H1 fun w H2 => r2B K o v w H2 fun z H3 => ∃ b, z = .bl b ∧ Q b H3 := by
  refine (h.v (g := fun x r => (g r).bnd fun y => o x y)).imp fun A h => ?_
  obtain ⟨m, r, d, m1, R, S, hx, h1, q⟩ := h
  refine ⟨m, r, d, m1, R, S, hx, h1, fun A1 H1 e1 R1 v hv => ?_⟩
  obtain ⟨d', A2, m2, r2', b, m', R2, S2, hx2, hc, q2⟩ := q A1 H1 e1 R1 v hv
  obtain ⟨y, m3, h3, h4⟩ := bnd_some hc
  exact ⟨A2, m2, r2', y, m3, R2, S2, (fun _ z => nomatch z), h3, fun A3 H3 e3 R3 w hw => ⟨A3, m3, d', y, b, m', R3, (hx2 _ (List.mem_cons_self)).mono e3, hw, h4, fun A4 H4 e4 R4 => ⟨b, rfl, q2 A4 H4 (e3.trans e4) R4⟩⟩⟩
/-- a test made a value -/
theorem pend_bl {K : PySem.W.Frag} {σ : L2.St} {H : Hp} {f : Rho → M Bool} {Q : VK} (h : Pend K σ H [] (fun r => (f r).bnd fun b => .ret (.bl b)) (finV K Q)) : Pend K σ H [] f (finT fun b H => Q (.bl b) H) := by
  obtain ⟨A, m, r, b, m', R, S, hx, hc, q⟩ := h
  obtain ⟨d, m1, h1, h2⟩ := bnd_some hc
  cases h2
  exact ⟨A, m, r, d, m', R, S, hx, h1, fun A1 H1 e1 R1 => q A1 H1 e1 R1 _ rfl⟩
/-- a comparison, as a value and as a test -/
theorem both_cmp {a b : Expr} {op : CmpOp} {pos : Pos} {f g : Rho → M D} {o : D → D → M Bool} (ho : OpR X (compareOp op) (r2B X.K o)) (ha : PE X a (tV X.K f)) (hb : PE X b (tV X.K g)) (hm : behindInMarks op b = false) :
    PE X (.Compare a [op] [b] pos) (tV X.K fun r => (denB ((f r).bnd fun x => (g r).bnd fun y => o x y)).v) ∧ PT X (.Compare a [op] [b] pos) (tT X.K fun r => (denB ((f r).bnd fun x => (g r).bnd fun y => o x y)).t) := by
  refine ⟨PE.imp (pe_cmpR ho ha hb hm) fun σ H Q h => ?_, PT.imp (pt_cmpR ho ha hb hm) fun σ H Q h => pend_2B h⟩
  refine (pend_2B (pend_bl h)).imp fun A h => ?_
  obtain ⟨m, r, d, m1, R, S, hx, h1, q⟩ := h
  refine ⟨m, r, d, m1, R, S, hx, h1, fun A1 H1 e1 R1 v hv => ?_⟩
  obtain ⟨A2, m2, r', d2, m3, R2, S2, hx2, h2, q2⟩ := q A1 H1 e1 R1 v hv
  refine ⟨A2, m2, r', d2, m3, R2, S2, hx2, h2, fun A3 H3 e3 R3 w hw => ?_⟩
  obtain ⟨A4, m4, x, y, b, m5, R4, hx4, hy4, h4, q4⟩ := q2 A3 H3 e3 R3 w hw
  refine ⟨A4, m4, x, y, b, m5, R4, hx4, hy4, h4, fun A5 H5 e5 R5 => ?_⟩
  obtain ⟨b', e, q5⟩ := q4 A5 H5 e5 R5
  cases e
  exact q5

theorem marks_no {op : CmpOp} {e : Expr} (h : notSet e = true) : behindInMarks op e = false := by
  cases e <;> first | rfl | (exact absurd h Bool.false_ne_true)
theorem mem_any {α : Type} {l : List α} {p : α → Bool} (h : l.any p = true) : ∃ x ∈ l, p x = true := List.any_eq_true.mp h
theorem blkN_eq {N : List Str} {sc sc' scope : Scope} {own : List (Str × Nat)} (h : sc.names = sc'.names) : blkC N sc scope own = blkC N sc' scope own := by
  unfold blkC
  rw [h]
end
end Mi
namespace Mi
open PySem PySem.Spec PyProof.Rows L2
variable [TabsC]

/-! ### targets -/
def gSets : List Nat → TGs
  | [] => gNil
  | i :: is => gCons (gName i) (gSets is)
def gOne (K : PySem.W.Frag) : List Nat → TG
  | [i] => gName i
  | is => gTup K is.length (gSets is)
def gTns (K : PySem.W.Frag) : List (List Nat) → TGs
  | [] => gNil
  | t :: ts => gCons (gOne K t) (gTns K ts)
def gTg (K : PySem.W.Frag) : Tg → TG
  | .nm i => gName i
  | .tp is => gTup K is.length (gSets is)
  | .tn ts => gTup K ts.length (gTns K ts)
section
variable {S : Sx} {lv k : Nat} {cf : Str → List D → M D} {N : List Str} {cl : Bool} {ns : List (Str × NameKind)} {X : Cx}
theorem go_cons {i : Nat} {is : List Nat} {e : Expr} {es : List Expr} (h : chkT.go N cl ns (i :: is) (e :: es) = true) : ∃ x p, e = .Name x p ∧ N[i]? = some x ∧ stoB cl ns x = true ∧ chkT.go N cl ns is es = true := by
  cases e with
  | Name x p =>
    have h' : (N[i]? == some x && stoB cl ns x && chkT.go N cl ns is es) = true := h
    rw [Bool.and_eq_true, Bool.and_eq_true] at h'
    exact ⟨x, p, rfl, eq_of_beq h'.1.1, h'.1.2, h'.2⟩
  | _ => exact absurd h Bool.false_ne_true
theorem assign_names {env : Env} : ∀ {is : List Nat} {es : List Expr}, chkT.go N cl ns is es = true → assignEach es env = es.map (fun e => (false, assign e env)) ∧ es.length = is.length
  | [], [], _ => ⟨rfl, rfl⟩
  | [], _ :: _, h => absurd h Bool.false_ne_true
  | _ :: _, [], h => absurd h Bool.false_ne_true
  | i :: is, e :: es, h => by
    obtain ⟨x, p, rfl, h1, h2, h3⟩ := go_cons h
    obtain ⟨h1, h2⟩ := assign_names (env := env) h3
    exact ⟨by show (false, assign _ env) :: assignEach es env = _; rw [h1]; rfl, by rw [List.length_cons, List.length_cons, h2]⟩
theorem pgs_names (O : XOk S lv k cf N cl ns X) : ∀ {is : List Nat} {es : List Expr}, chkT.go N cl ns is es = true → PGs X es (gSets is)
  | [], [], _ => pgs_nil
  | [], _ :: _, h => absurd h Bool.false_ne_true
  | _ :: _, [], h => absurd h Bool.false_ne_true
  | i :: is, e :: es, h => by
    obtain ⟨x, p, rfl, h1, h2, h3⟩ := go_cons h
    obtain ⟨l1, l2⟩ := O.loc h2
    exact pgs_cons (pg_name (by rw [O.eN]; exact O.nd) (by rw [O.eN]; exact h1) l1 l2) (pgs_names O h3) rfl
theorem pg_names (O : XOk S lv k cf N cl ns X) {is : List Nat} {es : List Expr} {kk : Nat} {p : Pos} (h : chkT.go N cl ns is es = true) : PG X (.Tuple es kk p) (gTup X.K is.length (gSets is)) := by
  obtain ⟨h1, h2⟩ := assign_names (env := X.env) h
  refine pg_tup O.calm (pgs_names O h) ?_ ?_
  · rw [h1, List.length_map, h2]
  · rw [h1, List.findIdx?_eq_none_iff]
    intro p hp
    obtain ⟨q, _, rfl⟩ := List.mem_map.mp hp
    rfl
theorem pgs_tn (O : XOk S lv k cf N cl ns X) : ∀ {ts : List (List Nat)} {es : List Expr}, ts.length = es.length → ((ts.zip es).all fun p => match p.1, p.2 with
    | [i], .Name x _ => N[i]? == some x && stoB cl ns x
    | i :: j :: is, .Tuple xs _ _ => chkT.go N cl ns (i :: j :: is) xs
    | _, _ => false) = true → PGs X es (gTns X.K ts) ∧ assignEach es X.env = es.map (fun e => (false, assign e X.env))
  | [], [], _, _ => ⟨pgs_nil, rfl⟩
  | [], _ :: _, h, _ => by cases h
  | _ :: _, [], h, _ => by cases h
  | t :: ts, e :: es, hl, h => by
    rw [List.zip_cons_cons, List.all_cons, Bool.and_eq_true] at h
    obtain ⟨h1, h2⟩ := h
    obtain ⟨ih1, ih2⟩ := pgs_tn O (Nat.succ.inj hl) h2
    simp only at h1
    split at h1
    · rename_i i x p
      rw [Bool.and_eq_true] at h1
      obtain ⟨l1, l2⟩ := O.loc h1.2
      exact ⟨pgs_cons (pg_name (by rw [O.eN]; exact O.nd) (by rw [O.eN]; exact eq_of_beq h1.1) l1 l2) ih1 rfl, by show (false, assign _ X.env) :: assignEach es X.env = _; rw [ih2]; rfl⟩
    · rename_i i j is xs kk p
      exact ⟨pgs_cons (pg_names O h1) ih1 rfl, by show (false, assign _ X.env) :: assignEach es X.env = _; rw [ih2]; rfl⟩
    · cases h1
theorem pg_tg (O : XOk S lv k cf N cl ns X) {g : Tg} {e : Expr} (h : chkT N cl ns g e = true) : PG X e (gTg X.K g) := by
  unfold chkT at h
  split at h
  · rename_i i x p
    rw [Bool.and_eq_true] at h
    obtain ⟨l1, l2⟩ := O.loc h.2
    exact pg_name (by rw [O.eN]; exact O.nd) (by rw [O.eN]; exact eq_of_beq h.1) l1 l2
  · rename_i is es kk p
    obtain ⟨h1, h2⟩ := assign_names (env := X.env) h
    refine pg_tup O.calm (pgs_names O h) ?_ ?_
    · rw [h1, List.length_map, h2]
    · rw [h1, List.findIdx?_eq_none_iff]
      intro p hp
      obtain ⟨q, _, rfl⟩ := List.mem_map.mp hp
      rfl
  · rename_i ts es kk p
    rw [Bool.and_eq_true] at h
    have hl := of_decide_eq_true h.1
    obtain ⟨h1, h2⟩ := pgs_tn O hl h.2
    refine pg_tup O.calm h1 ?_ ?_
    · rw [h2, List.length_map, hl]
    · rw [h2, List.findIdx?_eq_none_iff]
      intro p hp
      obtain ⟨q, _, rfl⟩ := List.mem_map.mp hp
      rfl
  · cases h
end

theorem wipe_set {σ : L2.St} {i : Nat} {o : Option V} : ∀ {vs : List Nat}, i ∈ vs → L2.wipe (σ.set i o) vs = L2.wipe σ vs
  | v :: vs, h => by
    show (L2.wipe (σ.set i o) vs).set v none = (L2.wipe σ vs).set v none
    by_cases hm : i ∈ vs
    · rw [wipe_set hm]
    · have e : i = v := by
        rcases List.mem_cons.mp h with e | e
        · exact e
        · exact absurd e hm
      subst e
      have hc : L2.wipe (σ.set i o) vs = (L2.wipe σ vs).set i o := by
        clear h
        induction vs with
        | nil => rfl
        | cons w ws ih =>
          have hw : i ≠ w := fun z => hm (by rw [z]; exact List.mem_cons_self)
          show (L2.wipe (σ.set i o) ws).set w none = ((L2.wipe σ ws).set w none).set i o
          rw [ih (fun z => hm (List.mem_cons_of_mem _ z)), List.set_comm _ _ hw]
      rw [hc, List.set_set]
theorem wipe_wipe (σ : L2.St) : ∀ (us vs : List Nat), (∀ u ∈ us, u ∈ vs) → L2.wipe (L2.wipe σ us) vs = L2.wipe σ vs
  | [], _, _ => rfl
  | u :: us, vs, h => by
    show L2.wipe ((L2.wipe σ us).set u none) vs = _
    rw [wipe_set (h u List.mem_cons_self), wipe_wipe σ us vs fun w hw => h w (List.mem_cons_of_mem _ hw)]

section
variable {K : PySem.W.Frag} {A : List Addr} {H : Hp} {m : List SO}
theorem sets_ok {Q : L2.St → Hp → Prop} : ∀ {is : List Nat} {ds : List D} {vs : List V} {r r' : Rho} {σ : L2.St}, RSt K A H r σ → RDs K A H ds vs → setsR r is ds = some r' →
    (∀ σ', RSt K A H r' σ' → (∀ us : List Nat, (∀ i ∈ is, i ∈ us) → L2.wipe σ' us = L2.wipe σ us) → Q σ' H) → gSets is vs σ H Q
  | [], [], vs, r, r', σ, S, hd, h, q => by
    cases hd
    cases h
    exact ⟨rfl, q σ S fun _ _ => rfl⟩
  | i :: is, d :: ds, vs, r, r', σ, S, hd, h, q => by
    obtain ⟨v, rs, rfl, h1, h2⟩ := hd
    refine ⟨v, rs, rfl, ?_⟩
    show gSets is rs (σ.set i (some v)) H Q
    refine sets_ok (S.set h1) h2 (show setsR (r.set i (some d)) is ds = some r' from h) fun σ' S' w => q σ' S' fun us hu => ?_
    rw [w us fun j hj => hu j (List.mem_cons_of_mem _ hj), wipe_set (hu i List.mem_cons_self)]
  | [], _ :: _, _, _, _, _, _, _, h, _ => by cases h
  | _ :: _, [], _, _, _, _, _, _, h, _ => by cases h
theorem setsR_len : ∀ {is : List Nat} {ds : List D} {r r' : Rho}, setsR r is ds = some r' → is.length = ds.length
  | [], [], _, _, _ => rfl
  | [], _ :: _, _, _, h => by cases h
  | _ :: _, [], _, _, h => by cases h
  | i :: is, d :: ds, r, r', h => by rw [List.length_cons, List.length_cons, setsR_len (show setsR (r.set i (some d)) is ds = some r' from h)]
theorem setsR_one {r r' : Rho} {i : Nat} {d : D} : setsR r [i] [d] = some r' → r' = r.set i (some d) := fun h => by
  simp [setsR] at h
  exact h.symm
theorem setsN_ok {Q : L2.St → Hp → Prop} : ∀ {ts : List (List Nat)} {ds : List D} {vs : List V} {r r' : Rho} {σ : L2.St}, RSt K A H r σ → RDs K A H ds vs → setsN r ts ds = some r' →
    (∀ σ', RSt K A H r' σ' → (∀ us : List Nat, (∀ i ∈ ts.flatten, i ∈ us) → L2.wipe σ' us = L2.wipe σ us) → Q σ' H) → gTns K ts vs σ H Q
  | [], [], vs, r, r', σ, S, hd, h, q => by
    cases hd
    cases h
    exact ⟨rfl, q σ S fun _ _ => rfl⟩
  | [], _ :: _, _, _, _, _, _, _, h, _ => by cases h
  | _ :: _, [], _, _, _, _, _, _, h, _ => by simp [setsN] at h
  | t :: ts, d :: ds, vs, r, r', σ, S, hd, h, q => by
    obtain ⟨v, rs, rfl, h1, h2⟩ := hd
    refine ⟨v, rs, rfl, ?_⟩
    have many : ∀ xs, d = .tup xs → (∃ r1, setsR r t xs = some r1 ∧ setsN r1 ts ds = some r') → (∀ i, t ≠ [i]) → gOne K t v σ H fun σ1 H1 => gTns K ts rs σ1 H1 Q := by
      intro xs e hx ht
      obtain ⟨r1, hr1, hr2⟩ := hx
      subst e
      obtain ⟨a, ws, rfl, k1, k2⟩ := h1
      have hg : gOne K t = gTup K t.length (gSets t) := by
        unfold gOne
        split
        · rename_i i; exact absurd rfl (ht i)
        · rfl
      rw [hg]
      refine ⟨a, ws, rfl, k1, by rw [k2.length, setsR_len hr1], sets_ok S k2 hr1 fun σ1 S1 w1 => ?_⟩
      refine setsN_ok S1 h2 hr2 fun σ2 S2 w2 => q σ2 S2 fun us hu => ?_
      rw [w2 us fun i hi => hu i (by rw [List.flatten_cons]; exact List.mem_append_right _ hi), w1 us fun i hi => hu i (by rw [List.flatten_cons]; exact List.mem_append_left _ hi)]
    match t, h with
    | [i], h =>
      show gTns K ts rs (σ.set i (some v)) H Q
      refine setsN_ok (S.set h1) h2 (show setsN (r.set i (some d)) ts ds = some r' from h) fun σ' S' w => q σ' S' fun us hu => ?_
      rw [w us fun j hj => hu j (by rw [List.flatten_cons]; exact List.mem_append_right _ hj), wipe_set (hu i (by rw [List.flatten_cons]; exact List.mem_append_left _ (List.mem_singleton.mpr rfl)))]
    | [], h =>
      cases d with
      | tup xs =>
        refine many xs rfl ?_ (fun i z => by cases z)
        simp only [setsN] at h
        split at h
        · rename_i r1 hr1; exact ⟨r1, hr1, h⟩
        · cases h
      | _ => simp [setsN] at h
    | i :: j :: is, h =>
      cases d with
      | tup xs =>
        refine many xs rfl ?_ (fun i z => by cases z)
        simp only [setsN] at h
        split at h
        · rename_i r1 hr1; exact ⟨r1, hr1, h⟩
        · cases h
      | _ => simp [setsN] at h
theorem setsN_len : ∀ {ts : List (List Nat)} {ds : List D} {r r' : Rho}, setsN r ts ds = some r' → ts.length = ds.length
  | [], [], _, _, _ => rfl
  | [], _ :: _, _, _, h => by cases h
  | _ :: _, [], _, _, h => by simp [setsN] at h
  | t :: ts, d :: ds, r, r', h => by
    rw [List.length_cons, List.length_cons]
    congr 1
    match t, h with
    | [i], h => exact setsN_len (show setsN (r.set i (some d)) ts ds = some r' from h)
    | [], h =>
      cases d with
      | tup xs =>
        simp only [setsN] at h
        split at h
        · exact setsN_len h
        · cases h
      | _ => simp [setsN] at h
    | i :: j :: is, h =>
      cases d with
      | tup xs =>
        simp only [setsN] at h
        split at h
        · exact setsN_len h
        · cases h
      | _ => simp [setsN] at h
theorem tgt_ok {Q : L2.St → Hp → Prop} {g : Tg} {d : D} {v : V} {r r' : Rho} {σ : L2.St} (S : RSt K A H r σ) (hd : RD K A H d v) (h : tgt g d r m = some r')
    (q : ∀ σ', RSt K A H r' σ' → (∀ us : List Nat, (∀ i ∈ slots g, i ∈ us) → L2.wipe σ' us = L2.wipe σ us) → Q σ' H) : gTg K g v σ H Q := by
  cases g with
  | nm i =>
    cases h
    exact q _ (S.set hd) fun us hu => wipe_set (hu i (List.mem_singleton.mpr rfl))
  | tp is =>
    simp only [tgt] at h
    split at h
    · rename_i xs
      obtain ⟨a, vs, rfl, h1, h2⟩ := hd
      exact ⟨a, vs, rfl, h1, by rw [h2.length, setsR_len h], sets_ok S h2 h q⟩
    · cases h
  | tn ts =>
    simp only [tgt] at h
    split at h
    · rename_i xs
      obtain ⟨a, vs, rfl, h1, h2⟩ := hd
      exact ⟨a, vs, rfl, h1, by rw [h2.length, setsN_len h], setsN_ok S h2 h q⟩
    · cases h
end

/-! ### what is walked -/
structure ItGood (K : PySem.W.Frag) (J : It) (items : List D) (g : Option (Nat × List D)) (A0 : List Addr) (H0 : Hp) : Prop where
  go : ∀ A H m i d, Ext A0 H0 A H → Rl K A H m → Still g m → items[i]? = some d → J.go i H ∧ ∀ x H', J.yld i H x H' → Ext A H A H' ∧ Rl K A H' m ∧ RD K A H' d x
  stop : ∀ A H m i, Ext A0 H0 A H → Rl K A H m → Still g m → items.length ≤ i → J.stop i H
def tI (K : PySem.W.Frag) (c : Rho → M (List D × Option (Nat × List D))) : TI := fun σ H R => Pend K σ H [] c fun A H _ p => ∀ J, ItGood K J p.1 p.2 A H → R J H
theorem Ext.ext0 {A : List Addr} {H : Hp} : Ext A H A H := Ext.refl A H
section
variable {K : PySem.W.Frag} {A : List Addr} {H : Hp} {m : List SO}
theorem good_list (R : Rl K A H m) {n : Nat} {a : Addr} {ys : List D} (ha : A[n]? = some a) : ItGood K (Itl K a) ys (some (n, ys)) A H where
  go := fun A1 H1 m1 i d e R1 hs hd => by
    have h1 := e.get ha
    obtain ⟨vs, k1, k2⟩ := getL_at (xs := ys) (P := True) R1 (by unfold getL; rw [show m1[n]? = some (.lst ys) from hs]) ⟨h1, trivial⟩
    obtain ⟨v, k3, k4⟩ := k2.get hd
    refine ⟨⟨vs, v, SqL.of k1, k3⟩, fun x H' hy => ?_⟩
    obtain ⟨rfl, hy⟩ := hy
    have : vs[i]? = some x := hy vs (SqL.of k1)
    rw [k3] at this
    cases this
    exact ⟨Ext.refl _ _, R1, k4⟩
  stop := fun A1 H1 m1 i e R1 hs hi => by
    have h1 := e.get ha
    obtain ⟨vs, k1, k2⟩ := getL_at (xs := ys) (P := True) R1 (by unfold getL; rw [show m1[n]? = some (.lst ys) from hs]) ⟨h1, trivial⟩
    exact ⟨vs, SqL.of k1, by rw [k2.length]; exact hi⟩
theorem good_fz {a : Addr} {ys : List D} {vs : List V} (h1 : SqZ K A H a vs) (h2 : RDs K A H ys vs) : ItGood K (Itl K a) ys none A H where
  go := fun A1 H1 m1 i d e R1 hs hd => by
    have k1 := (e.sqZ h1).seq
    obtain ⟨v, k3, k4⟩ := (h2.mono e).get hd
    refine ⟨⟨vs, v, k1, k3⟩, fun x H' hy => ?_⟩
    obtain ⟨rfl, hy⟩ := hy
    have : vs[i]? = some x := hy vs k1
    rw [k3] at this
    cases this
    exact ⟨Ext.refl _ _, R1, k4⟩
  stop := fun A1 H1 m1 i e R1 hs hi => ⟨vs, (e.sqZ h1).seq, by rw [h2.length]; exact hi⟩
theorem good_tup {a : Addr} {ys : List D} {vs : List V} (h1 : SqT K H a vs) (h2 : RDs K A H ys vs) : ItGood K (Itt K a) ys none A H where
  go := fun A1 H1 m1 i d e R1 hs hd => by
    have k1 := e.sqT h1
    obtain ⟨v, k3, k4⟩ := (h2.mono e).get hd
    refine ⟨⟨vs, v, k1, k3⟩, fun x H' hy => ?_⟩
    obtain ⟨rfl, hy⟩ := hy
    have : vs[i]? = some x := hy vs k1
    rw [k3] at this
    cases this
    exact ⟨Ext.refl _ _, R1, k4⟩
  stop := fun A1 H1 m1 i e R1 hs hi => ⟨vs, e.sqT h1, by rw [h2.length]; exact hi⟩
theorem good_rng {lo : Int} {n : Nat} {ys : List D} (hy : ys = (List.range n).map fun (i : Nat) => D.int (lo + i)) : ItGood K (Itr lo n) ys none A H where
  go := fun A1 H1 m1 i d e R1 hs hd => by
    subst hy
    rw [List.getElem?_map] at hd
    cases hr : (List.range n)[i]? with
    | none => rw [hr] at hd; cases hd
    | some j =>
      rw [hr] at hd
      have hl := (List.getElem?_eq_some_iff.mp hr).1
      rw [List.length_range] at hl
      rw [List.getElem?_range hl] at hr
      cases hr
      cases hd
      refine ⟨hl, fun x H' hx => ?_⟩
      obtain ⟨rfl, rfl⟩ := hx
      exact ⟨Ext.refl _ _, R1, rfl⟩
  stop := fun A1 H1 m1 i e R1 hs hi => by
    subst hy
    rw [List.length_map, List.length_range] at hi
    exact hi
theorem good_txt {x : Str} : ItGood K (Its x) (x.cps.toList.map fun c => D.str ⟨#[c]⟩) none A H where
  go := fun A1 H1 m1 i d e R1 hs hd => by
    rw [List.getElem?_map] at hd
    cases hr : x.cps.toList[i]? with
    | none => rw [hr] at hd; cases hd
    | some c =>
      rw [hr] at hd
      cases hd
      have hl := (List.getElem?_eq_some_iff.mp hr).1
      refine ⟨(by simpa using hl : i < x.cps.size), fun v H' hy => ?_⟩
      obtain ⟨rfl, c', hc, rfl⟩ := hy
      rw [← Array.getElem?_toList, hr] at hc
      cases hc
      exact ⟨Ext.refl _ _, R1, rfl⟩
  stop := fun A1 H1 m1 i e R1 hs hi => by
    rw [List.length_map] at hi
    exact (by simpa using hi : x.cps.size ≤ i)
theorem good_rev (R : Rl K A H m) {n : Nat} {a : Addr} {ys : List D} (ha : A[n]? = some a) {l : Nat} (hl : l = ys.length) : ItGood K (Itv K a l) ys.reverse (some (n, ys)) A H where
  go := fun A1 H1 m1 i d e R1 hs hd => by
    subst hl
    have h1 := e.get ha
    obtain ⟨vs, k1, k2⟩ := getL_at (xs := ys) (P := True) R1 (by unfold getL; rw [show m1[n]? = some (.lst ys) from hs]) ⟨h1, trivial⟩
    have hi := (List.getElem?_eq_some_iff.mp hd).1
    rw [List.length_reverse] at hi
    rw [List.getElem?_reverse hi] at hd
    obtain ⟨v, k3, k4⟩ := k2.get hd
    refine ⟨⟨hi, vs, v, SqL.of k1, k3⟩, fun x H' hy => ?_⟩
    obtain ⟨rfl, hy⟩ := hy
    have : vs[ys.length - 1 - i]? = some x := hy vs (SqL.of k1)
    rw [k3] at this
    cases this
    exact ⟨Ext.refl _ _, R1, k4⟩
  stop := fun A1 H1 m1 i e R1 hs hi => by
    subst hl
    rw [List.length_reverse] at hi
    exact hi
theorem good_zip {a b : Addr} {xs ys : List D} {vs ws : List V} (h1 : SqT K H a vs) (h2 : RDs K A H xs vs) (h3 : SqT K H b ws) (h4 : RDs K A H ys ws) :
    ItGood K (RZ.ItzT K a b) ((xs.zip ys).map fun p => D.tup [p.1, p.2]) none A H where
  go := fun A1 H1 m1 i d e R1 hs hd => by
    rw [List.getElem?_map] at hd
    cases hz : (xs.zip ys)[i]? with
    | none => rw [hz] at hd; cases hd
    | some p =>
      obtain ⟨x, y⟩ := p
      rw [hz] at hd
      cases hd
      rw [List.getElem?_zip_eq_some] at hz
      obtain ⟨v, k1, k2⟩ := (h2.mono e).get hz.1
      obtain ⟨w, k3, k4⟩ := (h4.mono e).get hz.2
      refine ⟨⟨vs, ws, v, w, e.sqT h1, e.sqT h3, k1, k3⟩, fun z H' hy => ?_⟩
      obtain ⟨T, x', y', rfl, hT, rfl, f1, f2⟩ := hy
      have e1 := f1 vs (e.sqT h1)
      have e2 := f2 ws (e.sqT h3)
      rw [k1] at e1
      rw [k3] at e2
      cases e1
      cases e2
      have E := Ext.fresh (o := .tup [v, w]) R1 hT
      exact ⟨E, R1.tupled hT, T, _, rfl, SqT.of upd_same, v, [w], rfl, k2.mono E, w, [], rfl, k4.mono E, rfl⟩
  stop := fun A1 H1 m1 i e R1 hs hi => by
    rw [List.length_map, List.length_zip] at hi
    refine ⟨vs, ws, e.sqT h1, e.sqT h3, ?_⟩
    rw [h2.length, h4.length]
    omega
end
end Mi
namespace Mi
open PySem PySem.Spec PyProof.Rows L2
variable [TabsC]
section
variable {S : Sx} {lv k : Nat} {cf : Str → List D → M D} {N : List Str} {cl : Bool} {ns : List (Str × NameKind)} {X : Cx}

theorem XOk.blk (O : XOk S lv k cf N cl ns X) {scope : Scope} (hk : scope.kind = .function) (s : Shared) (H : Hp) (C : Addr) (cls : List (Str × Addr)) (fp : List Addr) :
    XOk S lv k cf N false (relN ns scope.names) (X.blk s H scope (compEnvC scope cls C X.env) fp) where
  eN := O.eN
  nd := O.nd
  names := by
    show scope.names.map _ = relN ns scope.names
    unfold relN
    congr 1
    funext p
    obtain ⟨n, kd⟩ := p
    have h1 : X.env.kindOf n = ns.lookup n := by
      show X.env.scope.names.lookup n = _
      rw [O.names]
    have h2 : (X.env.scope.kind == ScopeKind.function) = true := by rw [O.kind]; rfl
    show (if (kd == NameKind.free && X.env.scope.kind == ScopeKind.function && X.env.kindOf n == some NameKind.cell) = true then (n, NameKind.cell) else (n, kd)) = _
    rw [h1, h2, Bool.and_true]
  kind := hk
  calm := O.calm
  room := O.room
  lek := O.lek
  room2 := fun _ h => absurd h (by decide)
  never := rfl
  cells := fun h => absurd h (by decide)
  blt := O.blt
  gl := O.gl
  gd := O.gd
  fn := O.fn
  ew := O.ew
  tab := fun h => absurd h.2 (by decide)

theorem blk_by (O : XOk S lv k cf N cl ns X) {scope : Scope} {own : List (Str × Nat)} (h : blkC N { kind := .function, names := ns, isGenerator := false, isCoroutine := false } scope own = true) : BlkOk X.N X.env.scope scope own := by
  refine blkOk_by ?_
  rw [O.eN, ← h]
  exact blkN_eq O.names
theorem blk_kind {sc scope : Scope} {own : List (Str × Nat)} (h : blkC N sc scope own = true) : scope.kind = .function := (blkOk_by h).kind

theorem inv_one {d : D} {m m' : List SO} {p : List D × Option (Nat × List D)} (h : itemsD .one [d] m = some (p, m')) :
    m' = m ∧ ((∃ n ys, d = .loc n ∧ getL m n = some ys ∧ p = (ys, some (n, ys))) ∨ (∃ ys, d = .tup ys ∧ p = (ys, none)) ∨ ∃ ys, d = .fz ys ∧ p = (ys, none)) := by
  cases d with
  | loc n =>
    simp only [itemsD] at h
    split at h
    · cases h; exact ⟨rfl, .inl ⟨n, _, rfl, by assumption, rfl⟩⟩
    · cases h
  | tup ys => cases h; exact ⟨rfl, .inr (.inl ⟨ys, rfl, rfl⟩)⟩
  | fz ys => cases h; exact ⟨rfl, .inr (.inr ⟨ys, rfl, rfl⟩)⟩
  | _ => cases h
theorem inv_txt {d : D} {m m' : List SO} {p : List D × Option (Nat × List D)} (h : itemsD .txt [d] m = some (p, m')) : ∃ x, d = .str x ∧ p = (x.cps.toList.map fun c => D.str ⟨#[c]⟩, none) ∧ m' = m := by
  cases d with
  | str x => cases h; exact ⟨x, rfl, rfl, rfl⟩
  | _ => cases h
theorem inv_rng1 {ds : List D} {m m' : List SO} {p : List D × Option (Nat × List D)} (h : itemsD .rng1 ds m = some (p, m')) :
    ∃ j : Int, ds = [.int j] ∧ (-(2 ^ 62) ≤ j ∧ j < 2 ^ 62) ∧ p = ((List.range j.toNat).map fun (i : Nat) => D.int i, none) ∧ m' = m := by
  cases ds with
  | nil => cases h
  | cons d r =>
    cases r with
    | cons _ _ => cases d <;> cases h
    | nil =>
      cases d with
      | int j =>
        simp only [itemsD] at h
        split at h
        · cases h; exact ⟨j, rfl, by assumption, rfl, rfl⟩
        · cases h
      | _ => cases h
theorem inv_rev {ds : List D} {m m' : List SO} {p : List D × Option (Nat × List D)} (h : itemsD .rev ds m = some (p, m')) :
    ∃ n ys, ds = [.loc n] ∧ getL m n = some ys ∧ p = (ys.reverse, some (n, ys)) ∧ m' = m := by
  cases ds with
  | nil => cases h
  | cons d r =>
    cases r with
    | cons _ _ => cases d <;> cases h
    | nil =>
      cases d with
      | loc n =>
        simp only [itemsD] at h
        split at h
        · cases h; exact ⟨n, _, rfl, by assumption, rfl, rfl⟩
        · cases h
      | _ => cases h
theorem inv_rng2 {ds : List D} {m m' : List SO} {p : List D × Option (Nat × List D)} (h : itemsD .rng2 ds m = some (p, m')) :
    ∃ i j : Int, ds = [.int i, .int j] ∧ (-(2 ^ 62) ≤ i ∧ i < 2 ^ 62 ∧ -(2 ^ 62) ≤ j ∧ j < 2 ^ 62) ∧ p = ((List.range (j - i).toNat).map fun (k : Nat) => D.int (i + k), none) ∧ m' = m := by
  cases ds with
  | nil => cases h
  | cons d r =>
    cases r with
    | nil => cases d <;> cases h
    | cons e r =>
      cases r with
      | cons _ _ => cases d <;> cases e <;> cases h
      | nil =>
        cases d with
        | int i =>
          cases e with
          | int j =>
            simp only [itemsD] at h
            split at h
            · cases h; exact ⟨i, j, rfl, by assumption, rfl, rfl⟩
            · cases h
          | _ => cases h
        | _ => cases e <;> cases h
theorem inv_zip {ds : List D} {m m' : List SO} {p : List D × Option (Nat × List D)} (h : itemsD .zip ds m = some (p, m')) :
    ∃ a b, ds = [.tup a, .tup b] ∧ p = ((a.zip b).map fun p => D.tup [p.1, p.2], none) ∧ m' = m := by
  cases ds with
  | nil => cases h
  | cons d r =>
    cases r with
    | nil => cases d <;> cases h
    | cons e r =>
      cases r with
      | cons _ _ => cases d <;> cases e <;> cases h
      | nil =>
        cases d with
        | tup i =>
          cases e with
          | tup j => cases h; exact ⟨i, j, rfl, rfl, rfl⟩
          | _ => cases h
        | _ => cases e <;> cases h
/-- what a for walks -/
theorem pi_D (O : XOk S lv k cf N cl ns X) {ik : Itk} {ca : List Expr → Bool} {f : Rho → M (List D)} {tg iter : Expr} (h : chkI S ns ca tg ik iter = true)
    (hA : ∀ es, ca es = true → PA X es (tL X.K f) ∧ es.all notStar = true)
    (h1 : ∀ e, ca [e] = true → ∃ g, PE X e (tV X.K g) ∧ f = fun r => (g r).bnd fun d => .ret [d]) :
    PI X tg iter (tI X.K fun r => (f r).bnd (itemsD ik)) := by
  have bl : ∀ x : Str, S.blt.contains x = true → X.mg x = none := fun x hx => O.blt x (List.contains_iff_mem.mp hx)
  have imp : ∀ {w w' : TI}, PI X tg iter w → (∀ σ H R, w' σ H R → w σ H R) → PI X tg iter w' := fun hp hw => ⟨fun pins s σ H R I q => hp.run pins s σ H R I (hw σ H R q)⟩
  unfold chkI at h
  split at h
  · rw [Bool.and_eq_true] at h
    obtain ⟨g, hg, rfl⟩ := h1 _ h.1
    refine ⟨fun pins s σ H R I q => ?_⟩
    obtain ⟨A, m, r, p, m', Rr, St, hx, hc, q⟩ := q
    obtain ⟨ds, m1, e1, e2⟩ := bnd_some hc
    obtain ⟨d, m2, e3, e4⟩ := bnd_some e1
    cases e4
    obtain ⟨rfl, ⟨n, ys, rfl, hy, rfl⟩ | ⟨ys, rfl, rfl⟩ | ⟨ys, rfl, rfl⟩⟩ := inv_one e2
    · refine (pi_list hg).run pins s σ H R I ⟨A, m, r, _, _, Rr, St, hx, e3, fun A1 H1 x1 R1 v hv => ?_⟩
      obtain ⟨a, rfl, ha⟩ := hv
      obtain ⟨vs, k1, k2⟩ := getL_at R1 hy ha
      exact ⟨a, rfl, ⟨vs, SqL.of k1⟩, q A1 H1 x1 R1 _ (good_list R1 ha.1)⟩
    · refine (pi_tup hg).run pins s σ H R I ⟨A, m, r, _, _, Rr, St, hx, e3, fun A1 H1 x1 R1 v hv => ?_⟩
      obtain ⟨a, vs, rfl, k1, k2⟩ := hv
      exact ⟨a, rfl, ⟨vs, k1⟩, q A1 H1 x1 R1 _ (good_tup k1 k2)⟩
    · refine (pi_list hg).run pins s σ H R I ⟨A, m, r, _, _, Rr, St, hx, e3, fun A1 H1 x1 R1 v hv => ?_⟩
      obtain ⟨a, vs, rfl, k1, k2⟩ := hv
      exact ⟨a, rfl, ⟨vs, k1.seq⟩, q A1 H1 x1 R1 _ (good_fz k1 k2)⟩
  · rename_i x p a pos
    simp only [Bool.and_eq_true] at h
    obtain ⟨⟨⟨hx, hb⟩, hg⟩, hc⟩ := h
    have hx := eq_of_beq hx
    subst hx
    obtain ⟨pa, ns'⟩ := hA _ hc
    refine imp (pi_range1 (O.glo hg) (bl _ hb) pa (by
      rw [List.all_cons, Bool.and_eq_true] at ns'
      rw [star_cons ns'.1]; rfl)) fun σ H R q => ?_
    obtain ⟨A, m, r, p, m', Rr, St, hx, hc, q⟩ := q
    obtain ⟨ds, m1, e1, e2⟩ := bnd_some hc
    refine ⟨A, m, r, ds, m1, Rr, St, hx, e1, fun A1 H1 x1 R1 vs hv => ?_⟩
    obtain ⟨j, rfl, hb, rfl, rfl⟩ := inv_rng1 e2
    obtain ⟨v, rfl, hv'⟩ := rds1 hv
    have ev : v = .int j := hv'
    subst ev
    refine ⟨j, rfl, hb.1, hb.2, q A1 H1 x1 R1 _ (good_rng ?_)⟩
    apply List.map_congr_left
    intro i _
    rw [Int.zero_add]
  · rename_i x p a b pos
    simp only [Bool.and_eq_true] at h
    obtain ⟨⟨⟨hx, hb⟩, hg⟩, hc⟩ := h
    have hx := eq_of_beq hx
    subst hx
    obtain ⟨pa, ns'⟩ := hA _ hc
    rw [List.all_cons, Bool.and_eq_true, List.all_cons, Bool.and_eq_true] at ns'
    refine imp (pi_range2 (O.glo hg) (bl _ hb) pa (by rw [star_cons ns'.1, star_cons ns'.2.1]; rfl) (by rw [star_cons ns'.2.1]; rfl)) fun σ H R q => ?_
    obtain ⟨A, m, r, p, m', Rr, St, hx, hc, q⟩ := q
    obtain ⟨ds, m1, e1, e2⟩ := bnd_some hc
    refine ⟨A, m, r, ds, m1, Rr, St, hx, e1, fun A1 H1 x1 R1 vs hv => ?_⟩
    obtain ⟨i, j, rfl, hb, rfl, rfl⟩ := inv_rng2 e2
    obtain ⟨v, w, rfl, hv, hw⟩ := rds2 hv
    cases hv
    cases hw
    exact ⟨i, j, rfl, hb, q A1 H1 x1 R1 _ (good_rng rfl)⟩
  · rename_i x p a b pos
    simp only [Bool.and_eq_true] at h
    obtain ⟨⟨⟨⟨hx, hb⟩, hg⟩, hc⟩, ht⟩ := h
    have hx := eq_of_beq hx
    subst hx
    obtain ⟨pa, ns'⟩ := hA _ hc
    rw [List.all_cons, Bool.and_eq_true, List.all_cons, Bool.and_eq_true] at ns'
    cases tg with
    | Tuple elts kk tpos =>
      refine imp (RZ.pi_zipA (O.glo hg) (bl _ hb) pa (star_cons ns'.1) (by rw [star_cons ns'.2.1]; rfl)) fun σ H R q => ?_
      obtain ⟨A, m, r, p, m', Rr, St, hx, hc, q⟩ := q
      obtain ⟨ds, m1, e1, e2⟩ := bnd_some hc
      refine ⟨A, m, r, ds, m1, Rr, St, hx, e1, fun A1 H1 x1 R1 vs hv => ?_⟩
      obtain ⟨xs, ys, rfl, rfl, rfl⟩ := inv_zip e2
      obtain ⟨v, w, rfl, ⟨a', va, rfl, k1, k2⟩, ⟨b', vb, rfl, k3, k4⟩⟩ := rds2 hv
      exact ⟨a', b', va, vb, rfl, .inr ⟨k1, k3, q A1 H1 x1 R1 _ (good_zip k1 k2 k3 k4)⟩⟩
    | _ => exact absurd ht Bool.false_ne_true
  · rename_i x p a pos
    simp only [Bool.and_eq_true] at h
    obtain ⟨⟨⟨hx, hb⟩, hg⟩, hc⟩ := h
    have hx := eq_of_beq hx
    subst hx
    obtain ⟨pa, ns'⟩ := hA _ hc
    refine imp (pi_reversed (O.glo hg) (bl _ hb) pa (by
      rw [List.all_cons, Bool.and_eq_true] at ns'
      rw [star_cons ns'.1]; rfl)) fun σ H R q => ?_
    obtain ⟨A, m, r, p, m', Rr, St, hx, hc, q⟩ := q
    obtain ⟨ds, m1, e1, e2⟩ := bnd_some hc
    refine ⟨A, m, r, ds, m1, Rr, St, hx, e1, fun A1 H1 x1 R1 vs hv => ?_⟩
    obtain ⟨n, ys, rfl, hy, rfl, rfl⟩ := inv_rev e2
    obtain ⟨v, rfl, a', rfl, ha⟩ := rds1 hv
    obtain ⟨vs, k1, k2⟩ := getL_at R1 hy ha
    exact ⟨a', vs, rfl, SqL.of k1, q A1 H1 x1 R1 _ (good_rev R1 ha.1 k2.length)⟩
  · rw [Bool.and_eq_true] at h
    obtain ⟨g, hg, rfl⟩ := h1 _ h.1
    refine imp (pi_str hg) fun σ H R q => ?_
    obtain ⟨A, m, r, p, m', Rr, St, hx, hc, q⟩ := q
    obtain ⟨ds, m1, e1, e2⟩ := bnd_some hc
    obtain ⟨d, m2, e3, e4⟩ := bnd_some e1
    cases e4
    obtain ⟨x, rfl, rfl, rfl⟩ := inv_txt e2
    refine ⟨A, m, r, _, _, Rr, St, hx, e3, fun A1 H1 x1 R1 v hv => ?_⟩
    cases hv
    exact ⟨x, rfl, q A1 H1 x1 R1 _ good_txt⟩
  · cases h
end
end Mi
namespace Mi
open PySem PySem.Spec PyProof.Rows L2
variable [TabsC]
section
variable {S : Sx} {k : Nat} {cf : Str → List D → M D} {N : List Str} {cl : Bool} {ns : List (Str × NameKind)} {X : Cx}

/-- a comprehension's turns -/
noncomputable def cturn (k : Nat) (cf : Str → List D → M D) (g : Tg) (cond elt : Ex) (vs : List Nat) (r : Rho) : D → M (Option D) := fun x m => match tgt g x (wipeR r vs) m with
  | none => none
  | some r1 => match cond with
    | .nil => ((ev k cf elt r1).v.bnd fun d => .ret (some d)) m
    | c => ((ev k cf c r1).t.bnd fun t => if t = true then (ev k cf elt r1).v.bnd fun d => .ret (some d) else .ret none) m
theorem ev_comp {own : List (Str × Nat)} {g : Tg} {ik : Itk} {args cond elt : Ex} {r : Rho} {m m' : List SO} {d : D} (h : (ev k cf (.comp own g ik args cond elt) r).v m = some (d, m')) :
    ∃ it m1, ((ev k cf args r).l.bnd (itemsD ik)) m = some (it, m1) ∧ compL (cturn k cf g cond elt (own.map (·.2)) r) it.2 m1.length it.1 (m1 ++ [.lst []]) = some ((), m') ∧ d = .loc m1.length := by
  simp only [ev, den] at h
  obtain ⟨ds, m0, h1, h2⟩ := bnd_some h
  obtain ⟨it, m1, h3, h4⟩ := bnd_some h2
  refine ⟨it, m1, ?_, ?_⟩
  · unfold M.bnd
    rw [h1]
    exact h3
  · split at h4
    · rename_i u m2 hc
      cases h4
      exact ⟨hc, rfl⟩
    · cases h4
theorem still_of {g : Option (Nat × List D)} {m : List SO} {α : Type} {a : Option α} {b : α} {ins : Decidable (Still g m)} (h : @ite _ (Still g m) ins a none = some b) : Still g m ∧ a = some b := by
  split at h
  · exact ⟨by assumption, h⟩
  · cases h
/-- the condition of a comprehension -/
def tCond (K : PySem.W.Frag) (k : Nat) (cf : Str → List D → M D) (cond : Ex) : TT := match cond with
  | .nil => tYes
  | c => tT K fun r => (ev k cf c r).t
theorem comp_ok {K : PySem.W.Frag} {own : List (Str × Nat)} {g : Tg} {ik : Itk} {args cond elt : Ex} (hs : ∀ i ∈ slots g, i ∈ own.map (·.2)) {σ : L2.St} {H : Hp} {Q : VK}
    (h : tV K (fun r => (ev k cf (.comp own g ik args cond elt) r).v) σ H Q) :
    tLc (tI K fun r => (ev k cf args r).l.bnd (itemsD ik)) (gTg K g) (tCond K k cf cond) (tV K fun r => (ev k cf elt r).v) (own.map (·.2)) σ H Q := by
  obtain ⟨A, m, r, d, m', R, St, hx, hc, q⟩ := h
  obtain ⟨it, m1, h1, h2, rfl⟩ := ev_comp hc
  refine ⟨A, m, r, it, m1, R, St, hx, h1, fun A1 H1 e1 R1 J hJ C hC => ?_⟩
  have St1 := St.mono e1
  have eC := Ext.alloc (o := .lst []) R1 hC
  have RC := R1.alloc hC (show RDs K A1 H1 [] [] from rfl)
  refine ⟨fun i j H2 => j = it.1.length - i ∧ i ≤ it.1.length ∧ ∃ A2 mm, Ext (A1 ++ [C]) (upd H1 C (.lst [])) A2 H2 ∧ Rl K A2 H2 mm ∧ compL (cturn k cf g cond elt (own.map (·.2)) r) it.2 m1.length (it.1.drop i) mm = some ((), m'),
    ⟨_, rfl, Nat.zero_le _, _, _, Ext.refl _ _, RC, h2⟩, fun i j H2 hW => ?_⟩
  obtain ⟨rfl, hi, A2, mm, e2, R2, hl⟩ := hW
  have e02 : Ext A1 H1 A2 H2 := eC.trans e2
  have hCn : A2[m1.length]? = some C := e2.get (by rw [← R1.len, List.getElem?_append_right (Nat.le_refl _), Nat.sub_self]; rfl)
  by_cases hlt : i < it.1.length
  · have hg : it.1[i]? = some it.1[i] := List.getElem?_eq_getElem hlt
    rw [List.drop_eq_getElem_cons hlt] at hl
    unfold compL at hl
    obtain ⟨st, hl⟩ := still_of hl
    obtain ⟨go, yl⟩ := hJ.go A2 H2 mm i _ e02 R2 st hg
    refine .inr ⟨go, fun H' => i + 1 ≤ it.1.length ∧ ∃ A2 mm, Ext (A1 ++ [C]) (upd H1 C (.lst [])) A2 H' ∧ Rl K A2 H' mm ∧ compL (cturn k cf g cond elt (own.map (·.2)) r) it.2 m1.length (it.1.drop (i + 1)) mm = some ((), m'),
      fun H' hN => ⟨it.1.length - (i + 1), by omega, rfl, hN⟩, fun x H' hy => ?_⟩
    obtain ⟨e3, R3, rx⟩ := yl x H' hy
    have St3 : RSt K A2 H' (wipeR r (own.map (·.2))) (L2.wipe σ (own.map (·.2))) := (St1.mono (e02.trans e3)).wipe _
    cases hf : cturn k cf g cond elt (own.map (·.2)) r it.1[i] mm with
    | none => rw [hf] at hl; cases hl
    | some p =>
      obtain ⟨od, m2⟩ := p
      rw [hf] at hl
      unfold cturn at hf
      cases ht : tgt g it.1[i] (wipeR r (own.map (·.2))) mm with
      | none => rw [ht] at hf; cases hf
      | some r1 =>
        rw [ht] at hf
        refine tgt_ok (m := mm) St3 rx ht fun σ2 S2 hw => ⟨?_, ?_⟩
        · rw [hw _ hs, wipe_wipe _ _ _ fun u hu => hu]
        · have fin : ∀ A4 H4 m4, Ext A2 H' A4 H4 → Rl K A4 H4 m4 → ((ev k cf elt r1).v.bnd fun d => M.ret (some d)) m4 = some (od, m2) → RSt K A4 H4 r1 σ2 →
              tV K (fun r => (ev k cf elt r).v) σ2 H4 fun y H5 => ∃ acc, H5 C = some (.lst acc) ∧ acc.length < sizeLine ∧ (i + 1 ≤ it.1.length ∧ ∃ A2 mm, Ext (A1 ++ [C]) (upd H1 C (.lst [])) A2 (upd H5 C (.lst (acc ++ [y]))) ∧ Rl K A2 (upd H5 C (.lst (acc ++ [y]))) mm ∧ compL (cturn k cf g cond elt (own.map (·.2)) r) it.2 m1.length (it.1.drop (i + 1)) mm = some ((), m')) := by
            intro A4 H4 m4 e4 R4 hb S4
            obtain ⟨dv, m5, h5, h6⟩ := bnd_some hb
            cases h6
            refine ⟨A4, m4, r1, dv, m2, R4, S4, (fun _ z => nomatch z), h5, fun A5 H5 e5 R5 y ry => ?_⟩
            simp only at hl
            cases hgl : getL m2 m1.length with
            | none => rw [hgl] at hl; cases hl
            | some acc =>
              rw [hgl] at hl
              have hC5 : A5[m1.length]? = some C := (e3.trans (e4.trans e5)).get hCn
              obtain ⟨vs, k1, k2⟩ := getL_at (P := True) R5 hgl ⟨hC5, trivial⟩
              simp only at hl
              split at hl
              · rename_i hz
                refine ⟨vs, k1, by rw [k2.length]; exact hz, by omega, A5, _, ?_, R5.write hC5 ⟨_, k1⟩ (k2.append (RDs.one ry)), hl⟩
                exact (e2.trans (e3.trans (e4.trans e5))).trans (Ext.write R5 (List.mem_of_getElem? hC5) _ ⟨_, k1⟩)
              · cases hl
          cases cond with
          | nil => exact fin A2 H' mm (Ext.refl _ _) R3 hf S2
          | _ =>
            obtain ⟨t, m3, h3, h4⟩ := bnd_some hf
            refine ⟨A2, mm, r1, t, m3, R3, S2, (fun _ z => nomatch z), h3, fun A4 H4 e4 R4 => ?_⟩
            cases t with
            | true =>
              rw [if_pos rfl] at h4
              exact fin A4 H4 m3 e4 R4 h4 (S2.mono e4)
            | false =>
              rw [if_neg Bool.false_ne_true] at h4
              cases h4
              have fin2 : i + 1 ≤ it.1.length ∧ ∃ A2 mm, Ext (A1 ++ [C]) (upd H1 C (.lst [])) A2 H4 ∧ Rl K A2 H4 mm ∧ compL (cturn k cf g _ elt (own.map (·.2)) r) it.2 m1.length (it.1.drop (i + 1)) mm = some ((), m') := ⟨by omega, A4, _, e2.trans (e3.trans e4), R4, hl⟩
              exact fin2
  · have hi' : i = it.1.length := by omega
    subst hi'
    rw [List.drop_length] at hl
    unfold compL at hl
    obtain ⟨st, hl⟩ := still_of hl
    cases hl
    refine .inl ⟨hJ.stop A2 H2 _ _ e02 R2 st (Nat.le_refl _), ?_⟩
    exact q A2 H2 (e1.trans e02) R2 _ ⟨C, rfl, hCn, e2.kind C (by simp) _ upd_same⟩
end
end Mi
/-! all(.. for .. in ..): the generator's frame is a frame as any other -/
namespace Mi
open PySem PySem.Spec PyProof.Rows L2
open Sem (wp)

/-- the loop's code -/
abbrev gLp (elt tg iter : Expr) (scope : Scope) (pos : Pos) (it : Addr) (cenv : Env) : Code := .compLoop (.GeneratorExp elt [⟨tg, iter, [], 0⟩] scope pos) 0 (.ref it) .none cenv
/-- the generator's frame -/
def gX (X : Cx) (nms : List Str) (cenv : Env) (s4 : Shared) (H4 : Hp) (fp : List Addr) (c : Code) : Cx :=
  { prog := X.prog, w := X.w, K := X.K, mg := X.mg, base := X.base, A := X.A.in1.in1.over c [], N := nms, s_0 := s4, H_0 := H4, env := cenv, outer := X.stack, stack := cenv :: X.stack, ex := fp, fn := fun _ => true, calm := true, pn := [], xe := fun _ _ => False }
theorem inv_gens {X : Cx} {pins : List (Addr × Obj)} {σ : L2.St} {H : Hp} {s : Shared} {g : Array GenState} (I : L2.Inv X pins σ H s) (hg : AllBare g) : L2.Inv X pins σ H { s with gens := g } :=
  ⟨I.ok, I.os, hg, I.base, I.loc, I.cell, I.free, I.freeC, I.pin, I.hok, I.len⟩
theorem bare_set {s : Shared} {g : Nat} {x : GenState} (h : AllBare s.gens) (hx : x.bare = true) : AllBare (s.setGen g x).gens := by
  intro y hy
  have hy : y ∈ s.gens.setIfInBounds g x := hy
  obtain ⟨i, hi, e⟩ := Array.mem_iff_getElem.mp hy
  rw [Array.getElem_setIfInBounds (by simpa using hi)] at e
  split at e
  · rw [← e]; exact hx
  · rw [← e]; exact h _ (Array.getElem_mem (by simpa using hi))
theorem inv_set {X : Cx} {pins : List (Addr × Obj)} {σ : L2.St} {H : Hp} {s : Shared} {g : Nat} {x : GenState} (I : L2.Inv X pins σ H s) (hx : x.bare = true) : L2.Inv X pins σ H (s.setGen g x) :=
  inv_gens I (bare_set I.bare hx)

/-- one turn after another -/
abbrev AW := Nat → Nat → Hp → Prop
section
variable {X' : Cx} {pin : List (Addr × Obj)} {tg elt iter : Expr} {J : It} {fp : List Addr} {it : Addr} {tn : Nat → Heap → Prop} {σ0 : L2.St} {W : AW} {Q : VK}
/-- what a turn wants -/
def Turns (J : It) (g : TG) (te : TE) (σ0 : L2.St) (W : AW) (Q : VK) : Prop := ∀ i m H, W i m H →
  (J.stop i H ∧ Q (.bl true) H) ∨ (J.go i H ∧ ∃ N : Hp → Prop, (∀ H', N H' → ∃ m', m' < m ∧ W (i + 1) m' H') ∧
    ∀ x H', J.yld i H x H' → g x σ0 H' fun σ2 H2 => te σ2 H2 fun v H3 => ∃ b, v = .bl b ∧ if b = true then N H3 else Q (.bl false) H3)
/-- where the generator stands -/
structure GAt (X' : Cx) (pin : List (Addr × Obj)) (fp : List Addr) (tn : Nat → Heap → Prop) (σ0 : L2.St) (i : Nat) (H : Hp) (s : Shared) : Prop where
  inv : L2.Inv X' pin σ0 H s
  tn : tn i s.heap
  fp : ∀ b ∈ fp, H b = none
def gEnd (X' : Cx) (pin : List (Addr × Obj)) (σ0 : L2.St) (Q : VK) : Nat → Shared → Shared → Prop := fun _ _ s1 => ∃ H, L2.Inv X' pin σ0 H s1 ∧ Q (.bl true) H
def gPr (X' : Cx) (pin : List (Addr × Obj)) (fp : List Addr) (tn : Nat → Heap → Prop) (σ0 : L2.St) (W : AW) (Q : VK) : Protocol := fun n _ v s kap =>
  ∃ b H, v = .bool b ∧ L2.Inv X' pin σ0 H s ∧ (b = false → Q (.bl false) H) ∧ (b = true → ∃ i m, W i m H ∧ m < n ∧ GAt X' pin fp tn σ0 i H s ∧ ∀ s'', GAt X' pin fp tn σ0 i H s'' → kap (.send .none) s'')
/-- what never changes of the iterator's objects -/
def FpS (X' : Cx) (pin : List (Addr × Obj)) (b : Addr) : Prop := b ≠ X'.env.locals ∧ b ∉ X'.fs ∧ (b ∈ X'.ex ∨ X'.s_0.heap.objs.size ≤ b) ∧ (∀ x c, X'.env.cells.lookup x = some c → c ≠ b) ∧ ∀ p ∈ X'.pn ++ pin, p.1 ≠ b
theorem FpS.ok {X' : Cx} {pin : List (Addr × Obj)} {b : Addr} {H : Hp} (h : FpS X' pin b) (n : H b = none) : FpOk X' pin H b := ⟨n, h.1, h.2.1, h.2.2.1, h.2.2.2.1, h.2.2.2.2⟩
/-- pins for the iterator's objects -/
theorem pins_for {X' : Cx} {pin : List (Addr × Obj)} {h : Heap} : ∀ {fp : List Addr}, (∀ b ∈ fp, ∃ o, h.get? b = some o ∧ ∀ v, o.data ≠ .cell v) → ∃ ps : List (Addr × Obj), (∀ p ∈ ps, p.1 ∈ fp ∧ h.get? p.1 = some p.2 ∧ ∀ v, p.2.data ≠ .cell v) ∧ ∀ b ∈ fp, ∃ o, (b, o) ∈ ps
  | [], _ => ⟨[], by simp, by simp⟩
  | b :: fp, hb => by
    obtain ⟨ps, h1, h2⟩ := pins_for (X' := X') (pin := pin) (fp := fp) fun c hc => hb c (List.mem_cons_of_mem _ hc)
    obtain ⟨o, ho, hd⟩ := hb b List.mem_cons_self
    refine ⟨(b, o) :: ps, fun p hp => ?_, fun c hc => ?_⟩
    · rcases List.mem_cons.mp hp with rfl | hp
      · exact ⟨List.mem_cons_self, ho, hd⟩
      · exact ⟨List.mem_cons_of_mem _ (h1 p hp).1, (h1 p hp).2⟩
    · rcases List.mem_cons.mp hc with rfl | hc
      · exact ⟨o, List.mem_cons_self⟩
      · obtain ⟨u, hu⟩ := h2 c hc
        exact ⟨u, List.mem_cons_of_mem _ hu⟩
theorem inv_forget {X : Cx} {pins : List (Addr × Obj)} {σ σ' : L2.St} {H : Hp} {s : Shared} (I : L2.Inv X pins σ H s) (hl : σ'.length = σ.length) (hn : ∀ (i : Nat) (v : V), σ'[i]? ≠ some (some v)) : L2.Inv X pins σ' H s := by
  obtain ⟨m, hm, _⟩ := I.loc
  exact ⟨I.ok, I.os, I.bare, I.base, ⟨m, hm, fun i x v _ h2 _ => absurd h2 (hn i v)⟩, I.cell, I.free, I.freeC, I.pin, I.hok, hl.trans I.len⟩
theorem seg_all {X X' : Cx} {nms : List Str} {cenv : Env} {s4 : Shared} {H4 : Hp} {scope : Scope} {pos : Pos} {g : TG} {te : TE} (hX : X' = gX X nms cenv s4 H4 fp (gLp elt tg iter scope pos it cenv)) (hT : Turn X.prog X.w X.K tg J fp it tn) (hg : PG X' tg g) (he : PE X' elt te)
    (hco : cenv.scope.isCoroutine = false) (hf : ∀ b ∈ fp, FpS X' pin b) (hs0 : σ0.length = nms.length) (hsn : ∀ (i : Nat) (v : V), σ0[i]? ≠ some (some v)) (tr : Turns J g te σ0 W Q) :
    ∀ (n i m : Nat) (H : Hp) (s₀ s : Shared), m < n → W i m H → GAt X' pin fp tn σ0 i H s →
      Seg (model X.prog X.w) X.A.in1.in1 (fun n s₀ r s₁ => r = .ok .next ∧ gEnd X' pin σ0 Q n s₀ s₁) (gPr X' pin fp tn σ0 W Q) n s₀ (gLp elt tg iter scope pos it cenv) ((model X.prog X.w).den (gLp elt tg iter scope pos it cenv)) [] s := by
  intro n
  induction n with
  | zero => intro i m H s₀ s h; exact absurd h (Nat.not_lt_zero _)
  | succ n ih =>
    intro i m H s₀ s hm hW hG
    obtain ⟨I, ht, hn⟩ := hG
    have hA : X'.A = X.A.in1.in1.over (gLp elt tg iter scope pos it cenv) [] := by rw [hX]; rfl
    have hE : X'.env = cenv := by rw [hX]; rfl
    have hxe : X'.xe = fun _ _ => False := by rw [hX]; rfl
    have hP : X'.prog = X.prog := by rw [hX]; rfl
    have hw : X'.w = X.w := by rw [hX]; rfl
    have hK : X'.K = X.K := by rw [hX]; rfl
    have hc : X'.calm = true := by rw [hX]; rfl
    show Seg _ _ _ _ _ s₀ _ ((compTurn (.GeneratorExp elt [⟨tg, iter, [], 0⟩] scope pos) 0 (.ref it) .none cenv).onRaise (leaving cenv)) [] s
    rw [compTurn_gen, Sem.onRaise_eq_wrap]
    refine seg_bind_wrap (wpAny_standAt (seg_bind_wrap ?_))
    rw [← hA]
    rcases tr i m H hW with ⟨hst, hQ⟩ | ⟨hgo, N, hN, hy⟩
    · refine wpAny_mono (hT.done X' hP hw hK hc i pin s σ0 H (fun _ _ => False) I (fun b hb => (hf b hb).ok (hn b hb)) ht hst) (fun r s1 hr => ?_) fun _ _ z => z.elim
      obtain ⟨rfl, I1⟩ := hr
      exact seg_end (.ok .next) ⟨rfl, H, I1, hQ⟩
    · refine wpAny_mono (hT.item X' hP hw hK hc i pin s σ0 H (fun _ _ => False) I (fun b hb => (hf b hb).ok (hn b hb)) ht hgo) (fun r s1 hr => ?_) fun _ _ z => z.elim
      obtain ⟨u, rfl, hl⟩ := hr
      refine seg_bind_wrap ?_
      rw [← hA]
      refine wpAny_mono hl (fun _ s2 h2 => ?_) fun _ _ z => z.elim
      obtain ⟨x, H2, I2, rx, hyl, ht2, hn2⟩ := h2
      obtain ⟨ps, hp1, hp2⟩ := pins_for (X' := X') (pin := pin) (hT.obj (i + 1) s2.heap ht2)
      have I2' : L2.Inv X' (pin ++ ps) σ0 H2 s2 := by
        refine ⟨I2.ok, I2.os, I2.bare, I2.base, I2.loc, I2.cell, I2.free, I2.freeC, fun p hp => ?_, I2.hok, I2.len⟩
        rw [← List.append_assoc] at hp
        rcases List.mem_append.mp hp with hp | hp
        · exact I2.pin p hp
        · obtain ⟨q1, q2, q3⟩ := hp1 p hp
          have F := hf _ q1
          exact ⟨q2, hn2 _ q1, F.1, F.2.1, q3⟩
      refine seg_bind_wrap ?_
      rw [← hA]
      have hgr := hg.run (pin ++ ps) s2 σ0 H2 x u _ I2' rx (hy x H2 hyl)
      rw [hE, hP, hw, hxe] at hgr
      refine wpAny_mono hgr (fun _ s3 h3 => ?_) fun _ _ z => z.elim
      obtain ⟨σ3, H3, I3, h3⟩ := h3
      refine seg_bind_wrap ?_
      rw [List.forIn_nil]
      refine wpAny_pure ?_
      have yo : ∀ v, yieldOut cenv v = yieldValue v := fun v => by unfold yieldOut; rw [hco]; rfl
      simp only [if_true, yo]
      rw [Sem.bind_eq_wrap', Sem.bind_eq_wrap', Sem.wrap_wrap, Sem.wrap_wrap]
      refine seg_wrap ?_
      rw [← hA]
      have her := he.run (pin ++ ps) s3 σ3 H3 _ I3 h3
      rw [hE, hP, hw, hxe] at her
      refine wpAny_mono her (fun y s5 h5 => ?_) fun _ _ z => z.elim
      obtain ⟨v, H5, I5, rv, b, rfl, hb⟩ := h5
      obtain rfl : y = .bool b := rv
      have J5 : L2.Inv X' pin σ3 H5 s5 := I5.pins_of fun p hp => I5.pin p (List.mem_append_right _ (List.mem_append_left _ hp))
      have J6 : L2.Inv X' pin σ0 H5 s5 := inv_forget J5 (by rw [J5.len, hs0, hX]; rfl) hsn
      have keepF : ∀ b ∈ fp, ∀ o, s2.heap.get? b = some o → s5.heap.get? b = some o := fun b hb o e => by
        obtain ⟨u, hu⟩ := hp2 b hb
        have q := (I5.pin (b, u) (List.mem_append_right _ (List.mem_append_right _ hu))).1
        have q2 := (hp1 (b, u) hu).2.1
        rw [q2] at e
        cases e
        exact q
      have nF : ∀ b ∈ fp, H5 b = none := fun b hb => by
        obtain ⟨u, hu⟩ := hp2 b hb
        exact (I5.pin (b, u) (List.mem_append_right _ (List.mem_append_right _ hu))).2.1
      have tn5 := hT.keep (i + 1) s2.heap s5.heap ht2 keepF
      refine seg_at (seg_yield rfl rfl rfl ⟨b, H5, rfl, J6, fun hf => ?_, fun htrue => ?_⟩)
      · subst hf; simpa using hb
      · subst htrue
        obtain ⟨m', hm', hW'⟩ := hN H5 (by simpa using hb)
        refine ⟨i + 1, m', hW', by omega, ⟨J6, tn5, nF⟩, fun s'' hG'' => ?_⟩
        exact seg_again rfl (ih (i + 1) m' H5 s'' s'' (by omega) hW' hG'')
/-- the first turn's code -/
theorem seg_first {A : Around} {P : Program} {w : World} {R : GenEnd} {Y : Protocol} {n : Nat} {s₀ s : Shared} {scope : Scope} {pos : Pos} {cenv : Env} (hself : ∀ (B : Around) (s : Shared) (Q : Value → Shared → Prop) (E : Value → Shared → Prop), tn 0 s.heap → Q (.ref it) s → wpAny (model P w) B (pyIter (.ref it)) Q E s) (ht : tn 0 s.heap)
    (loop : Seg (model P w) A R Y n s₀ (gLp elt tg iter scope pos it cenv) ((model P w).den (gLp elt tg iter scope pos it cenv)) [] s) :
    Seg (model P w) A R Y n s₀ (.compStart (.GeneratorExp elt [⟨tg, iter, [], 0⟩] scope pos) 0 (.ref it) .none cenv) ((model P w).den (.compStart (.GeneratorExp elt [⟨tg, iter, [], 0⟩] scope pos) 0 (.ref it) .none cenv)) [] s := by
  show Seg _ _ _ _ _ s₀ _ ((compStart (.GeneratorExp elt [⟨tg, iter, [], 0⟩] scope pos) 0 (.ref it) .none cenv).onRaise (leaving cenv)) [] s
  unfold compStart
  rw [Sem.onRaise_eq_wrap]
  show Seg _ _ _ _ _ s₀ _ ((ask >>= _).wrap _ _ _ _) [] s
  refine seg_bind_wrap (wpAny_askSetting ?_)
  split
  · exact seg_again rfl loop
  · refine seg_bind_wrap (wpAny_rule ?_)
    show Seg _ _ _ _ _ s₀ _ ((standAt iter.pos >>= _).wrap _ _ _ _) [] s
    exact seg_bind_wrap (wpAny_standAt (seg_bind_wrap (hself _ s _ _ ht (seg_again rfl loop))))
/-- the consumer, between two turns -/
def CSt (X X' : Cx) (pin : List (Addr × Obj)) (fp : List Addr) (tn : Nat → Heap → Prop) (σ0 : L2.St) (W : AW) (Q : VK) (g n : Nat) (s : Shared) : Prop :=
  ∃ gs i m H, s.gens[g]? = some gs ∧ W i m H ∧ m < n ∧ GAt X' pin fp tn σ0 i H s ∧
    ∀ s'', GAt X' pin fp tn σ0 i H s'' → gs.Goes (model X.prog X.w) X.A.in1.in1 (fun n s₀ r s₁ => r = .ok .next ∧ gEnd X' pin σ0 Q n s₀ s₁) (gPr X' pin fp tn σ0 W Q) n (.send .none) s''
theorem GAt.set {X' : Cx} {i : Nat} {H : Hp} {s : Shared} {g : Nat} {x : GenState} (h : GAt X' pin fp tn σ0 i H s) (hx : x.bare = true) : GAt X' pin fp tn σ0 i H (s.setGen g x) := ⟨inv_set h.inv hx, h.tn, h.fp⟩
theorem all_loop {X X' : Cx} {a : Addr} {g : Nat} {go : Obj} (hP : X'.prog = X.prog) (hw : X'.w = X.w) (hh : X.A.handled = none) (hd : X.A.depth < recursionLimit) (hpin : (a, go) ∈ pin) (hgen : ∀ h : Heap, h.get? a = some go → h.IsGen a g) {R : Result → Shared → Prop} (hR : ∀ b H s', L2.Inv X' pin σ0 H s' → Q (.bl b) H → R (.ok (.ret (.bool b))) s') :
    ∀ (n : Nat) (s : Shared), CSt X X' pin fp tn σ0 W Q g n s → codeAny (model X.prog X.w) X.A (.builtin "all.loop" ⟨[.ref a], []⟩) R s
  | 0, s, h => by
    obtain ⟨_, _, m, _, _, _, hm, _⟩ := h
    exact absurd hm (Nat.not_lt_zero m)
  | n + 1, s, h => by
    obtain ⟨gs, i, m, H, hgs, hW, hm, hG, hgo⟩ := h
    have hlt : g < s.gens.size := by
      rcases Nat.lt_or_ge g s.gens.size with q | q
      · exact q
      · rw [Array.getElem?_eq_none q] at hgs; cases hgs
    have eA : X.A.under (.builtin "all.loop" ⟨[.ref a], []⟩) = X.A.in1 := Around.under_plainId F.plain_all_loop _
    have nl : s.heap.NoLimit := hG.inv.nolimit
    refine codeAny_builtin F.entry_all_loop ?_; rw [eA]
    show wpAny _ X.A.in1 (pyNext (.ref a) >>= _) _ _ s
    have hpa := hG.inv.pin (a, go) (List.mem_append_right _ hpin)
    refine wpAny_bind (GenW.wpAny_gsz (n := s.gens.size) (Nat.le_refl _) (wpAny_pyNext_genexpQ (P := gEnd X' pin σ0 Q) (Y := gPr X' pin fp tn σ0 W Q) (n := n + 1) hh nl hd (hgen _ hpa.1) hgs (hgo _ (hG.set rfl)) (fun v s1 gs' hb hy => ?_) (fun s1 hp h' hk => ?_)))
    · obtain ⟨b, H1, rfl, I1, hf, ht⟩ := hy
      intro hsz
      refine wpAny_bind (wpAny_holding (wpAny_truthy_bool ?_)); refine wpAny_bind (wpAny_letGo ?_)
      cases b with
      | true =>
        simp only [if_true]
        obtain ⟨i', m', hW', hm', hG', hkap⟩ := ht rfl
        have hlt1 : g < (s1.setGen g gs').gens.size := Nat.lt_of_lt_of_le hlt hsz
        have hlt2 : g < s1.gens.size := by rw [GenW.setGen_size] at hlt1; exact hlt1
        refine wpAny_pure ⟨plainId_quiet F.plain_all_loop _, all_loop hP hw hh hd hpin hgen hR n _ ⟨gs', i', m', H1, ?_, hW', hm', hG'.set hb, fun s'' hG'' => ?_⟩⟩
        · show (s1.gens.setIfInBounds g gs')[g]? = some gs'
          rw [Array.getElem?_setIfInBounds_self_of_lt hlt2]
        · exact hkap s'' hG''
      | false =>
        simp only [Bool.false_eq_true, if_false]
        exact wpAny_bind (wpAny_rule (wpAny_pure (hR false H1 _ (inv_set I1 hb) (hf rfl))))
    · obtain ⟨H1, I1, hq⟩ := hp
      intro _
      have I2 := inv_set (g := g) (x := .finished) I1 rfl
      have I3 : L2.Inv X' pin σ0 H1 { s1.setGen g .finished with heap := h' } := I2.kept (t' := (s1.setGen g .finished).toks) hk
      exact wpAny_bind (wpAny_rule (wpAny_pure (hR true H1 _ I3 hq)))
end
/-- a generator expression's scope: its own names, none captured -/
structure GSc (scope : Scope) (nms : List Str) : Prop where
  kind : scope.kind = .function
  co : scope.isCoroutine = false
  cell : ∀ y ∈ scope.names, y.2 ≠ .cell ∧ y.2 ≠ .free
  dot : scope.names.lookup (".0" : Str) = some NameKind.local
theorem clo_nil {cells : List (Str × Addr)} {names : List (Str × NameKind)} (h : ∀ y ∈ names, y.2 ≠ .cell ∧ y.2 ≠ .free) : cloFrom cells names [] = [] := by
  cases e : cloFrom cells names [] with
  | nil => rfl
  | cons p r =>
    obtain ⟨n, c⟩ := p
    have := cloFrom_mem (cells := cells) (names := names) (acc := []) (n := n) (c := c) (by rw [e]; exact List.mem_cons_self)
    rcases this with z | ⟨z, _⟩
    · cases z
    · exact absurd rfl (h _ z).2
/-- the state behind the making of the generator -/
theorem gX_inv {X : Cx} {pins : List (Addr × Obj)} {σ : L2.St} {H : Hp} {s4 s5 : Shared} {nms : List Str} {scope : Scope} {code : Value} {fp : List Addr} {c : Code} {go : Obj} {m : Str → Option Value}
    (I : L2.Inv X pins σ H s4) (S : GSc scope nms) (hh : X.A.handled = none) (hfp : ∀ b ∈ fp, FpOk X pins H b) (hfl : ∀ b ∈ fp, b < s4.heap.objs.size) (hfr : (X.A.in1.in1.over c []).frames = some (genEnv scope [] s4.heap.objs.size code builtinsNs X.env :: X.stack)) (hha : (X.A.in1.in1.over c []).handled = none)
    (os : s5.os = s4.os) (bare : AllBare s5.gens) (keep : ∀ b o, s4.heap.get? b = some o → s5.heap.get? b = some o) (hC : s5.heap.Ns s4.heap.objs.size m) (hgo : s5.heap.get? (s4.heap.objs.size + 1) = some go) (hgd : ∀ v, go.data ≠ .cell v) :
    L2.Inv (gX X nms (genEnv scope [] s4.heap.objs.size code builtinsNs X.env) s4 H fp c) [(s4.heap.objs.size + 1, go)] (nms.map fun _ => none) H s5 := by
  have fresh : ∀ b, s4.heap.objs.size ≤ b → H b = none := fun b hb => I.hok.fresh hb
  have stk : ∀ b ∈ frs X.stack, b < s4.heap.objs.size := fun b hb => by
    rcases List.mem_cons.mp (I.stkSub b hb) with e | e
    · rw [e]; exact I.lt
    · rcases Nat.lt_or_ge b s4.heap.objs.size with q | q
      · exact q
      · exact absurd e (I.nofs q)
  have fpb : ∀ b ∈ fp, b ∉ frs X.stack := fun b hb hm => by
    have F := hfp b hb
    rcases List.mem_cons.mp (I.stkSub b hm) with e | e
    · exact F.2.1 e
    · exact F.2.2.1 e
  have nobase : ∀ b o, X.base.get? b = some o → b ∉ fp := fun b o e hb => by
    have F := hfp b hb
    rcases F.2.2.2.1 with q | q
    · exact I.ok.noex b o e q
    · exact absurd (Nat.lt_of_lt_of_le (Heap.lt_size e) I.ok.bsz) (Nat.not_lt.mpr q)
  have nocell : ∀ x : Str, ((genEnv scope [] s4.heap.objs.size code builtinsNs X.env).cells.lookup x) = none := fun x => rfl
  refine ⟨⟨I.ok.mod, S.kind, I.ok.glob, rfl, Nat.le_refl _, fun x y c' h1 _ => ?_, fun x hx => ?_, fun x c' _ h => ?_, fun _ => hha, hfr, .inr ⟨rfl, rfl⟩, fun b hb => ⟨Nat.ne_of_lt (hfl b hb), fun x c' h => ?_⟩, I.bs, Nat.le_trans I.ok.bsz I.sz, nobase, fpb, I.stack, I.stkFree⟩,
    os, bare, ⟨fun b o e _ _ _ => keep b o e, fun b o e _ _ _ => ⟨o.slots, keep b o e⟩, fun _ _ _ n _ => n, fun b o e _ => ⟨o, keep b o e⟩, fun _ _ e => e, fun _ _ _ e => e, fun b ps e => ⟨#[], by rw [show H b = some (.tbl ps) from e]; simp⟩⟩,
    ⟨m, hC, fun i x v _ h2 _ => ?_⟩, fun x c' h => ?_, fresh _ (Nat.le_refl _), fun x c' h => ?_, fun p hp => ?_, I.hok.kept keep, ?_⟩
  · have h1 : (none : Option Addr) = some c' := h1
    cases h1
  · exfalso
    have hx : scope.names.lookup x = some .cell ∨ scope.names.lookup x = some .free := hx
    rcases hx with q | q
    · exact (S.cell _ (PySem.mem_of_lookup q)).1 rfl
    · exact (S.cell _ (PySem.mem_of_lookup q)).2 rfl
  · have h : (none : Option Addr) = some c' := h
    cases h
  · have h : (none : Option Addr) = some c' := h
    cases h
  · rw [List.getElem?_map] at h2
    cases e : nms[i]? <;> rw [e] at h2 <;> cases h2
  · have h : (none : Option Addr) = some c' := h
    cases h
  · have h : (none : Option Addr) = some c' := h
    cases h
  · have hp : p ∈ [(s4.heap.objs.size + 1, go)] := by
      rcases List.mem_append.mp hp with z | z
      · have z : p ∈ ([] : List (Addr × Obj)) := z
        cases z
      · exact z
    rw [List.mem_singleton.mp hp]
    exact ⟨hgo, fresh _ (Nat.le_succ _), Nat.succ_ne_self _, fun z => absurd (stk _ z) (Nat.not_lt.mpr (Nat.le_succ _)), hgd⟩
  · show (nms.map fun _ => (none : Option V)).length = nms.length
    simp
/-- all(elt for tg in iter) -/
def tAllG (P : Addr) (ti : TI) (g : TG) (te : TE) (σ0 : L2.St) : TE := fun σ H Q => ti σ H fun J H1 => GxR.TabG H1 P ∧ ∀ H2, GxR.Tabbed P H1 H2 → ∃ W : AW, (∃ m, W 0 m H2) ∧ Turns J g te σ0 W Q
theorem pe_allG {X : Cx} {c P : Addr} {elt tg iter : Expr} {p gpos pos : Pos} {scope : Scope} {nms : List Str} {ti : TI} {g : TG} {te : TE}
    (hc : X.calm = true) (hh : X.A.handled = none) (hroom : X.A.depth < recursionLimit) (ga : Gl X "all") (ma : X.mg "all" = none) (TB : GxR.TabB X.base X.mg c P) (hcode : X.env.code = .ref c) (S : GSc scope nms) (hi : PI X tg iter ti) (hfold : ∀ x, genFold iter X.env x = pure x)
    (hg : ∀ (s4 : Shared) (H4 : Hp) (fp : List Addr) (code : Value) (it : Addr), PG (gX X nms (genEnv scope [] s4.heap.objs.size code builtinsNs X.env) s4 H4 fp (gLp elt tg iter scope gpos it (genEnv scope [] s4.heap.objs.size code builtinsNs X.env))) tg g)
    (he : ∀ (s4 : Shared) (H4 : Hp) (fp : List Addr) (code : Value) (it : Addr), PE (gX X nms (genEnv scope [] s4.heap.objs.size code builtinsNs X.env) s4 H4 fp (gLp elt tg iter scope gpos it (genEnv scope [] s4.heap.objs.size code builtinsNs X.env))) elt te) :
    PE X (.Call (.Name "all" p) [.GeneratorExp elt [⟨tg, iter, [], 0⟩] scope gpos] [] pos) (tAllG P ti g te (nms.map fun _ => none)) := by
  have hst : ∀ (e : Expr), e = .GeneratorExp elt [⟨tg, iter, [], 0⟩] scope gpos → starEach [e] X.env = (false, eval e X.env) :: starEach [] X.env := by
    intro e he; subst he; rfl
  refine ⟨fun pins s σ H Q I h => ?_⟩
  refine wpAny_Call_Name_kw (ld_blt I ga ma PyProof.Rows.boot_all ?_)
  refine PyProof.Rows.callWith_builtin1 ?_ (hst _ rfl) rfl
  rw [hst _ rfl]
  have hclo : closureFor scope X.env = pure [] := by
    rw [closure_ok (fun y hy hf => absurd hf (S.cell y hy).2), clo_nil S.cell]
  refine Calls.spliced_cons (wpAny_GeneratorExp_make S.co hclo (fun y hy => (S.cell y hy).1) S.dot S.kind hroom (wpAny_mono (hi.run pins s σ H _ I h) (fun v s1 h1 => wpAny_mono h1 (fun itv s2 h2 => ?_) fun _ _ z => z) fun _ _ z => z) hfold)
  obtain ⟨it, fp, tn, J, H1, rfl, I2, hT, ht0, hfp, ⟨ps, hP, hps⟩, hR⟩ := h2
  refine ⟨I2.nolimit, ?_⟩
  have gP : s2.heap.get? P = some { cls := .none, data := .fields ps } := I2.hok P _ hP
  have ltP : P < s2.heap.objs.size := Heap.lt_size gP
  have cdp : PySem.W.CodeHd s2.heap c P := TB.code.keeps fun b u q => I2.bk b u q
  have nP : ∀ b, H1 b = none → b ≠ P := fun b e z => by rw [z, hP] at e; cases e
  have frs_of : ∀ (it : Addr) (cenv : Env), cenv.scope = scope → (X.A.in1.in1.over (gLp elt tg iter scope gpos it cenv) []).frames = some (cenv :: X.stack) := fun it cenv _ => by
    have e : (X.A.in1.in1.over (gLp elt tg iter scope gpos it cenv) []).frames = pushEnvs [cenv] X.A.frames := rfl
    rw [e, I2.ok.frames]; rfl
  have fin : ∀ (code : Value) (H2 : Hp) (s4 : Shared), L2.Inv X pins σ H2 s4 → tn 0 s4.heap → (∀ b ∈ fp, FpOk X pins H2 b) → (∀ b ∈ fp, b < s4.heap.objs.size) → (∃ W : AW, (∃ m, W 0 m H2) ∧ Turns J g te (nms.map fun _ => none) W Q) →
      ∀ h' : Heap, (h'.Ns s4.heap.objs.size fun y => if y = Str.ofString ".0" then some (Value.ref it) else none) → Heap.SameBut s4.heap.objs.size (s4.heap.push { cls := Value.type "frame", data := Data.dict #[] }) h' →
      ∀ (tk : Nat) (nm qn : Value), wpAny (model X.prog X.w) X.A (call (Value.builtin "all") [Value.ref h'.objs.size]) (EP X pins σ Q) X.xe
        { s4 with heap := h'.push { cls := Value.type "generator", data := Data.fields #[Value.int (s4.gens.size) 0, nm, qn] }, gens := s4.gens.push (GenState.fresh (Code.compStart (elt.GeneratorExp [{ target := tg, iter := iter, ifs := [], is_async := 0 }] scope gpos) 0 (Value.ref it) Value.none (genEnv scope [] s4.heap.objs.size code builtinsNs X.env))), toks := tk } := by
    intro code H2 s4 I4 ht4 hf4 hl4 hW h' hn' hs' tk nm qn
    obtain ⟨W, ⟨m0, w0⟩, tr⟩ := hW
    obtain ⟨go, hgo⟩ : ∃ go : Obj, go = { cls := Value.type "generator", data := Data.fields #[Value.int (s4.gens.size) 0, nm, qn] } := ⟨_, rfl⟩
    rw [← hgo]
    have hsz : h'.objs.size = s4.heap.objs.size + 1 := by rw [hs'.1, Heap.size_push]
    have keep' : ∀ b o, s4.heap.get? b = some o → h'.get? b = some o := fun b o e => hs'.extBut b o (Nat.ne_of_lt (Heap.lt_size e)) (Heap.get?_push_of_some _ e)
    have keep5 : ∀ b o, s4.heap.get? b = some o → (h'.push go).get? b = some o := fun b o e => Heap.get?_push_of_some _ (keep' b o e)
    have hat : (h'.push go).get? (s4.heap.objs.size + 1) = some go := by rw [← hsz]; exact Heap.get?_push_size _ (by subst hgo; rfl)
    have hgen : ∀ h : Heap, h.get? (s4.heap.objs.size + 1) = some go → h.IsGen (s4.heap.objs.size + 1) s4.gens.size := fun h e => ⟨go, nm, qn, e, by rw [hgo], by rw [hgo], by rw [hgo]⟩
    rw [hsz]
    obtain ⟨cenv, hce⟩ : ∃ cenv, cenv = genEnv scope [] s4.heap.objs.size code builtinsNs X.env := ⟨_, rfl⟩
    obtain ⟨X', hX'⟩ : ∃ X', X' = gX X nms cenv s4 H2 fp (gLp elt tg iter scope gpos it cenv) := ⟨_, rfl⟩
    have bare5 : AllBare (s4.gens.push (GenState.fresh (Code.compStart (elt.GeneratorExp [{ target := tg, iter := iter, ifs := [], is_async := 0 }] scope gpos) 0 (Value.ref it) Value.none cenv))) := I4.bare.push rfl
    have I5 : ∀ s5 : Shared, s5.os = s4.os → AllBare s5.gens → s5.heap = h'.push go → L2.Inv X' [(s4.heap.objs.size + 1, go)] (nms.map fun _ => none) H2 s5 := fun s5 e1 e2 e3 => by
      rw [hX', hce]
      exact gX_inv I4 S hh hf4 hl4 (frs_of _ _ rfl) hh e1 e2 (by rw [e3]; exact keep5) (by rw [e3]; exact hn'.push _) (by rw [e3]; exact hat) (fun v => by rw [hgo]; intro z; cases z)
    rw [← hce]
    have back : ∀ b H s', L2.Inv X' [(s4.heap.objs.size + 1, go)] (nms.map fun _ => none) H s' → Q (.bl b) H → EP X pins σ Q (.bool b) s' := fun b H s' J q => by
      have h1 := J.os
      have h2 := J.bare
      have h3 := J.base
      have h4 := J.hok
      rw [hX'] at h1 h3 h4
      refine ⟨.bl b, H, I4.call' (ch := fp) h1 h3 h4 h2 fun b hb => ?_, rfl, q⟩
      have F := hf4 b hb
      exact ⟨F.2.2.2.1, F.2.1, F.2.2.2.2.1, F.2.2.2.2.2⟩
    have hgX : PG X' tg g := by rw [hX', hce]; exact hg s4 H2 fp code it
    have heX : PE X' elt te := by rw [hX', hce]; exact he s4 H2 fp code it
    have hfs : ∀ b ∈ fp, FpS X' [(s4.heap.objs.size + 1, go)] b := fun b hb => by
      have hlt := hl4 b hb
      have F := hf4 b hb
      rw [hX']
      refine ⟨?_, fun hm => ?_, .inl hb, fun x c' z => ?_, fun p hp => ?_⟩
      · rw [hce]; exact Nat.ne_of_lt hlt
      · have hm : b ∈ frs X.stack := hm
        rcases List.mem_cons.mp (I4.stkSub b hm) with e | e
        · exact F.2.1 e
        · exact F.2.2.1 e
      · rw [hce] at z
        have z : (none : Option Addr) = some c' := z
        cases z
      · have hp : p ∈ [(s4.heap.objs.size + 1, go)] := hp
        rw [List.mem_singleton.mp hp]
        exact Nat.ne_of_gt (Nat.lt_succ_of_lt hlt)
    have hco' : cenv.scope.isCoroutine = false := by rw [hce]; exact S.co
    have seg := seg_all (X := X) (X' := X') (pin := [(s4.heap.objs.size + 1, go)]) (fp := fp) (tn := tn) (σ0 := nms.map fun _ => none) (W := W) (Q := Q) hX' hT hgX heX hco' hfs (by simp) (fun i v z => by
      rw [List.getElem?_map] at z
      cases e : nms[i]? <;> rw [e] at z <;> cases z) tr
    refine call_function_tree F.kind_all F.plain_all F.entry_all (F.args_all1 _) ?_
    unfold Builtin.«all»
    refine wpAny_bind (m := oneArg "all" _) (wpAny_pure (wpAny_bind (wpAny_pyIter_gen (hgen _ hat) (wpAny_pure ⟨plainId_quiet F.plain_all_loop _, ?_⟩))))
    refine all_loop (X := X) (X' := X') (pin := [(s4.heap.objs.size + 1, go)]) (fp := fp) (tn := tn) (σ0 := nms.map fun _ => none) (W := W) (Q := Q) (by rw [hX']; rfl) (by rw [hX']; rfl) hh hroom List.mem_cons_self hgen (fun b H s' J q => back b H s' J q) (m0 + 1) _ ⟨_, 0, m0, H2, Array.getElem?_push_size .., w0, Nat.lt_succ_self _, ⟨I5 _ rfl bare5 rfl, hT.keep 0 _ _ ht4 fun b _ o e => keep5 b o e, fun b hb => (hf4 b hb).1⟩, fun s'' hG => ?_⟩
    exact ⟨rfl, seg_first (fun B s Q E h1 h2 => hT.self B 0 s Q E h1 h2) hG.tn (seg (m0 + 1) 0 m0 H2 s'' s'' (Nat.lt_succ_self _) w0 hG)⟩
  have made : ∀ (code : Value) (h3 : Heap) (tk : Nat) (ps' : Array Value), Heap.ExtBut P s2.heap h3 → s2.heap.objs.size ≤ h3.objs.size → h3.get? P = some { cls := .none, data := .fields ps' } → (∃ ad, ps' = ps ++ ad) → TriplesOk ps'.toList →
      wpAny (model X.prog X.w) X.A (builtinsFor X.env.globals X.env.builtins) (fun bi s₄ =>
          ∀ (h' : Heap),
            (h'.Ns s₄.heap.objs.size fun y => if y = Str.ofString ".0" then some (Value.ref it) else none) →
              Heap.SameBut s₄.heap.objs.size (s₄.heap.push { cls := Value.type "frame", data := Data.dict #[] }) h' →
                wpAny (model X.prog X.w) X.A (spliced (backTo pos (starEach [] X.env)))
                  (fun vs s₂ => wpAny (model X.prog X.w) X.A (call (Value.builtin "all") (Value.ref h'.objs.size :: vs)) (EP X pins σ Q) X.xe s₂)
                  X.xe
                  { heap := h'.push { cls := Value.type "generator", data := Data.fields #[Value.int (↑s₄.gens.size) 0, Value.str (Str.ofString "<genexpr>") (s₄.toks + 1), Value.str (X.env.qual ++ Str.ofString "<genexpr>") (s₄.toks + 1 + 1)] },
                    gens := s₄.gens.push (GenState.fresh (Code.compStart (elt.GeneratorExp [{ target := tg, iter := iter, ifs := [], is_async := 0 }] scope gpos) 0 (Value.ref it) Value.none (genEnv scope [] s₄.heap.objs.size code bi X.env))),
                    drawn := s₄.drawn, toks := s₄.toks + 1 + 1 + 1, os := s₄.os }) X.xe { s2 with heap := h3, toks := tk } := by
    intro code h3 tk ps' ex3 sz3 gP3 had tr3
    obtain ⟨ad, rfl⟩ := had
    obtain ⟨bm, ob, e1, e2, e3, e4, e5, e6, e7, e8⟩ := TB.bm
    have k3 : ∀ b u, b ≠ P → s2.heap.get? b = some u → h3.get? b = some u := fun b u nb q => ex3 b u nb q
    have glob3 : h3.Ns X.env.globals X.mg := by
      rw [I2.ok.glob]
      exact (I2.mod.glob.keeps I2.bk).extBut ex3 TB.gP
    refine wpAny_builtinsFor (m := X.mg) glob3 e1 e2 (k3 _ _ e4 (I2.bk _ _ e5)) e6 e7 e8 ?_
    intro h' hn' hs'
    have I3 : L2.Inv X pins σ (upd H1 P (.tbl (ps ++ ad))) { s2 with heap := h3, toks := tk } := GxR.inv_tab (more := ad) (h' := h3) (g' := s2.gens) (d' := s2.drawn) (t' := tk) I2 hP k3 gP3 I2.bare
    refine Calls.spliced_nil ?_
    refine fin code (upd H1 P (.tbl (ps ++ ad))) { s2 with heap := h3, toks := tk } I3 (hT.keep 0 _ _ ht0 fun b hb o e => k3 b o (nP b (hfp b hb).1) e) (fun b hb => ?_) (fun b hb => ?_) (hR _ ⟨⟨ps ++ ad, upd_same, tr3⟩, fun b nb => upd_ne nb⟩) h' hn' hs' _ _ _
    · have F := hfp b hb
      exact ⟨by rw [upd_ne (nP b F.1)]; exact F.1, F.2⟩
    · obtain ⟨o, ho, _⟩ := hT.obj 0 _ ht0 b hb
      exact Nat.lt_of_lt_of_le (Heap.lt_size ho) sz3
  cases hf : codeAmong gpos ps.toList with
  | none =>
    refine wpAny_genexprCodeX hcode (cdp.code gP hps) (cdp.tab gP) hf fun c' h' tk hx hge hlt hco' _ htab' _ => ?_
    obtain ⟨o1, vs, f1, tf, fl, tg', inF, tx, tt, op, _, _, _, _, _, _, _, _, _, htr, _⟩ := hco'
    exact made _ h' tk _ hx (Nat.le_trans hge (Nat.le_of_lt hlt)) htab'.2 ⟨_, rfl⟩ htr
  | some cv =>
    refine wpAny_genexprCode_hit hcode (cdp.code gP hps) hf ?_
    exact made cv s2.heap s2.toks ps (Heap.ExtBut.refl _ _) (Nat.le_refl _) gP ⟨#[], by simp⟩ hps
end Mi
namespace Mi
open PySem PySem.Spec PyProof.Rows L2
variable [TabsC]
/-- v is a tuple with the text t at its front -/
def TagAt (h : Heap) (v : Value) (t : Str) : Prop := ∃ (a : Addr) (its : Array Value) (u : Tok), v = .ref a ∧ IsTup h a its ∧ its[0]? = some (.str t u)
theorem elt_tag {prog : Program} {w : World} {x z t : Str} {j1 j2 : Nat} {p1 p2 p3 p4 p5 : Pos} {cenv : Env} {B : Around} {F : Value → Shared → Prop} {v : Value} {s2 : Shared} {m2 : Str → Option Value}
    (hk : cenv.scope.kind = .function) (hl : cenv.scope.names.lookup x = some .local) (hd : (x == ("__debug__" : Str)) = false) (hn : s2.heap.Ns cenv.locals m2) (hm : m2 x = some v) (ht : TagAt s2.heap v t) :
    wpAny (model prog w) B (eval (.Compare (.Subscript (.Name x p1) (.Constant (.int 0) j1 p2) p3) [.Eq] [.Constant (.str z) j2 p4] p5) cenv) (fun y s3 => y = .bool (t == z) ∧ Keeps s2 s3) F s2 := by
  refine wpAny_Compare1 (Subscript_Constant (wpAny_Name (wpAny_loadName_local hk hl hn hm ?_) hd))
  obtain ⟨a, its, u, rfl, h1, h2⟩ := ht
  have hc : ∀ (Q : Value → Shared → Prop) (s : Shared), (∀ k, Q (.int 0 k) { s with toks := s.toks + 1 }) → (∀ k, Q (.int 0 k) s) → wpAny (model prog w) B (eval (.Constant (.int 0) j1 p2) cenv) Q F s := by
    intro Q s h h'
    first | exact fun _ _ _ => h _ | exact fun _ _ _ => h' _
  have fin : ∀ (k : Tok) (tk : Nat), ItemOn (model prog w) B F (.ref a) (.int 0 k) (fun y s3 => wpAny (model prog w) B (eval (.Constant (.str z) j2 p4) cenv) (fun r s4 => wpAny (model prog w) B (compareOp .Eq y r) (fun y s3 => y = .bool (t == z) ∧ Keeps s2 s3) F s4) F s3) { s2 with toks := tk } := by
    intro k tk
    obtain ⟨o, ho, hcl, n, hdt⟩ := id h1
    refine ⟨"tuple", _, slot_tuple_getitem.lookup, ⟨o, ho, hcl⟩, ?_⟩
    refine PyProof.Rows.getItem_tuple (j := 0) (x := .str t u) (s := { s2 with toks := tk }) h1 (by decide) (by decide) ?_ h2 ?_
    · have hpos : 0 < its.size := by
        rcases Nat.lt_or_ge 0 its.size with q | q
        · exact q
        · rw [Array.getElem?_eq_none q] at h2; cases h2
      exact seqIndex_of (by decide) (by omega)
    refine Calls.Constant_str ?_
    refine PySem.P.eq_str ?_
    refine ⟨?_, GxR.keeps_tok _ _⟩
    have e : (t.cps.toList == z.cps.toList) = (t == z) := by
      rw [Bool.eq_iff_iff, beq_iff_eq, beq_iff_eq]
      constructor
      · intro q
        cases t; cases z
        simp at q
        rw [q]
      · intro q; rw [q]
    rw [e]
  exact hc _ _ (fun k => fin k _) (fun k => fin k s2.toks)
/-- the front texts of tuples -/
def Tagged (K : PySem.W.Frag) (H : Hp) : List V → List Str → Prop
  | [], ts => ts = []
  | v :: vs, ts => ∃ a r t ts', v = .ref a ∧ SqT K H a (.str t :: r) ∧ ts = t :: ts' ∧ Tagged K H vs ts'
theorem tagged_at {X : Cx} {pins : List (Addr × Obj)} {σ : L2.St} {H : Hp} {s : Shared} (I : L2.Inv X pins σ H s) : ∀ {vs : List V} {ts : List Str} {us : List Value}, Tagged X.K H vs ts → Vals vs us → ∀ (i : Nat) (v : Value), us[i]? = some v → ∃ t, ts[i]? = some t ∧ TagAt s.heap v t
  | [], _, us, _, hv, i, v, h => by cases hv; simp at h
  | y :: vs, ts, us, ht, hv, i, v, h => by
    obtain ⟨a, r, t, ts', rfl, h1, rfl, h2⟩ := ht
    cases hv with
    | @cons _ u _ us hr hrest =>
      cases i with
      | zero =>
        have e : u = v := by simpa using h
        subst e
        obtain rfl : u = Value.ref a := hr
        obtain ⟨its, rv, hT, _⟩ := I.tuple h1
        cases rv with
        | @cons _ u2 _ us2 hr2 _ =>
          obtain ⟨tk, rfl⟩ := hr2
          exact ⟨t, rfl, a, _, tk, rfl, hT, rfl⟩
      | succ i =>
        have e : us[i]? = some v := by simpa using h
        obtain ⟨t', q1, q2⟩ := tagged_at I h2 hrest i v e
        exact ⟨t', by simpa using q1, q2⟩
theorem TagAt.stay {h h' : Heap} {v : Value} {t : Str} (x : TagAt h v t) (k : ∀ a o, v = .ref a → h.get? a = some o → h'.get? a = some o) : TagAt h' v t := by
  obtain ⟨a, its, u, rfl, ⟨o, h1, h2⟩, h3⟩ := x
  exact ⟨a, its, u, rfl, ⟨o, k a o rfl h1, h2⟩, h3⟩
/-- the generator at g, ready: it tells bl, one by one -/
def ReadyG (X : Cx) (pins : List (Addr × Obj)) (σ : L2.St) (H1 : Hp) (P : Addr) (bl : List Bool) (g : Addr) (s5 : Shared) : Prop :=
  ∃ (fp wr : List Addr) (G : Array GenState → Array GenState → Prop) (F : Nat → Value → Prop) (St : Nat → Shared → Prop),
    WalksS X.prog X.w X.A.in1 g fp wr G bl.length F St ∧ St 0 s5 ∧ TruthOf X.prog X.w X.A.in1 F (fun j => bl[j]?.getD false) ∧
    ∀ s', Moved wr G s5 s' → ∃ H2, GxR.Tabbed P H1 H2 ∧ L2.Inv X pins σ H2 s'
theorem gen_rev {X : Cx} {pins : List (Addr × Obj)} {σ : L2.St} {H : Hp} {s : Shared} {c P : Addr} {e : Expr} {x z : Str} {j1 j2 : Nat} {px q1 q2 gpos p1 p2 p3 p4 p5 : Pos} {scope : Scope} {te : TE} {k : Nat} {Q' : Value → Shared → Prop} {R : List Str → Hp → Prop}
    (hr : Room k X.A) (TB : GxR.TabB X.base X.mg c P) (hcode : X.env.code = .ref c) (S : GxR.GenS X.env scope x) (hdb : (x == ("__debug__" : Str)) = false) (hg : Gl X "reversed") (hm : X.mg "reversed" = none) (he : PE X e te)
    (hsE : starEach [e] X.env = [(false, eval e X.env)])
    (I : L2.Inv X pins σ H s) (h : te σ H fun v H1 => ∃ l xs tags, v = .ref l ∧ H1 l = some (.lst xs) ∧ Tagged X.K H1 xs tags ∧ GxR.TabG H1 P ∧ R tags H1)
    (hQ : ∀ tags H1 g s5, R tags H1 → ReadyG X pins σ H1 P (tags.map (· == z)).reverse g s5 → Q' (.ref g) s5) :
    wpAny (model X.prog X.w) X.A (eval (.GeneratorExp (.Compare (.Subscript (.Name x p1) (.Constant (.int 0) j1 p2) p3) [.Eq] [.Constant (.str z) j2 p4] p5) [⟨.Name x px, .Call (.Name "reversed" q1) [e] [] q2, [], 0⟩] scope gpos) X.env) Q' X.xe s := by
  refine wpAny_GeneratorExp_walksQ hr.hd S.co (closure_ok S.free) S.cell S.dot S.loc S.kind (by have := hr.dp; omega) ?_ (fun _ => rfl)
  refine Call_ (ld_blt I hg hm PyProof.Rows.boot_reversed (PyProof.Rows.callWith_type1 ?_ hsE rfl))
  rw [hsE]
  refine Calls.spliced_cons (thn (he.run pins s σ H _ I h) fun u s1 ⟨v, H1, I1, r1, q1⟩ => Calls.spliced_nil ?_)
  obtain ⟨l, xs, tags, rfl, hl, htg, ⟨ps, hP, hps⟩, hR⟩ := q1
  obtain rfl : u = Value.ref l := r1
  obtain ⟨its, rv, pl, hz⟩ := I1.list (.inl (.inl hl))
  have il := pl.isList
  have itags : ∀ (i : Nat) (v : Value), its.toArray[i]? = some v → ∃ t, tags[i]? = some t ∧ TagAt s1.heap v t := fun i v hv => tagged_at I1 htg rv i v (by simpa using hv)
  have ntags : its.length = tags.length := by
    have q : ∀ {vs : List V} {ts : List Str}, Tagged X.K H1 vs ts → vs.length = ts.length := by
      intro vs
      induction vs with
      | nil => intro ts q; cases q; rfl
      | cons y vs ih =>
        intro ts q
        obtain ⟨_, _, _, ts', _, _, rfl, q⟩ := q
        simp [ih q]
    rw [← rv.length]; exact q htg
  refine call_reversed_list il (wpAny_pyIter_revIter (l := l) (i := ((its.toArray.size : Nat) : Int) - 1) ⟨_, Heap.get?_push_size _ rfl, rfl, rfl⟩ ?_)
  obtain ⟨hp, ehp⟩ : ∃ hp, hp = s1.heap.push (revObj l ((its.toArray.size : Int) - 1)) := ⟨_, rfl⟩
  rw [← ehp]
  have kp : ∀ b o, s1.heap.get? b = some o → hp.get? b = some o := fun b o q => by rw [ehp]; exact Heap.get?_push_of_some _ q
  have szp : hp.objs.size = s1.heap.objs.size + 1 := by rw [ehp]; exact Heap.size_push ..
  have gP : s1.heap.get? P = some { cls := .none, data := .fields ps } := I1.hok P _ hP
  have ltP : P < s1.heap.objs.size := Heap.lt_size gP
  have limp : hp.NoLimit := by rw [ehp]; exact I1.nolimit.push _
  have cdp : PySem.W.CodeHd hp c P := TB.code.keeps fun b u q => kp b u (I1.bk b u q)
  have lne : l ≠ s1.heap.objs.size := by
    obtain ⟨o, _, ho, _⟩ := id pl
    exact Nat.ne_of_lt (Heap.lt_size ho)
  have ltl : l < s1.heap.objs.size := by
    obtain ⟨o, _, ho, _⟩ := id pl
    exact Heap.lt_size ho
  refine ⟨limp, ?_⟩
  have more : ∀ (code : Value) (h3 : Heap) (tk : Nat) (ps' : Array Value), Heap.ExtBut P hp h3 → hp.objs.size ≤ h3.objs.size → h3.get? P = some { cls := .none, data := .fields ps' } → (∃ ad, ps' = ps ++ ad) → TriplesOk ps'.toList →
      wpAny (model X.prog X.w) X.A (builtinsFor X.env.globals X.env.builtins) (fun bi s₄ =>
        ∃ I fp wr n₀ Pf St₀ pz F, Value.ref s1.heap.objs.size = Value.ref I ∧ (∀ A' : Around, A'.handled = none → Walks X.prog X.w A' I fp wr n₀ Pf St₀) ∧ St₀ 0 s₄.heap ∧ (∀ b ∈ fp, b < s₄.heap.objs.size) ∧ s₄.heap.NoLimit ∧ cStatics ∉ wr ∧
          (∀ href : Heap, (∀ b o, s₄.heap.get? b = some o → href.get? b = some o) →
            QuietGen X.prog X.w (genEnv scope (cloFrom X.env.cells scope.names []) s₄.heap.objs.size code bi X.env) x [] (.Compare (.Subscript (.Name x p1) (.Constant (.int 0) j1 p2) p3) [.Eq] [.Constant (.str z) j2 p4] p5) (List.range s₄.heap.objs.size) wr Pf pz F href) ∧
          ∀ a h₅ tk gs, gs.bare = true → s₄.heap.objs.size < a → h₅.objs.size = a + 1 → (∀ b o, s₄.heap.get? b = some o → h₅.get? b = some o) →
            WalksS X.prog X.w X.A.in4 a (a :: s₄.heap.objs.size :: List.range s₄.heap.objs.size) (s₄.heap.objs.size :: wr) (GenOnlyQ s₄.gens.size) (passing pz n₀ 0).length
              (fun j y => ∃ i, (passing pz n₀ 0)[j]? = some i ∧ F i y) (GenAt X.prog X.w X.A.in4 a s₄.gens.size s₄.heap.objs.size (List.range s₄.heap.objs.size) wr pz n₀ F) →
            GenAt X.prog X.w X.A.in4 a s₄.gens.size s₄.heap.objs.size (List.range s₄.heap.objs.size) wr pz n₀ F 0 { s₄ with gens := s₄.gens.push gs, toks := tk, heap := h₅ } →
            Q' (.ref a) { s₄ with gens := s₄.gens.push gs, toks := tk, heap := h₅ }) X.xe { s1 with heap := h3, toks := tk } := by
    intro code h3 tk ps' ex3 sz3 gP3 had tr3
    obtain ⟨bm, ob, e1, e2, e3, e4, e5, e6, e7, e8⟩ := TB.bm
    have k3 : ∀ b u, b ≠ P → s1.heap.get? b = some u → h3.get? b = some u := fun b u nb q => ex3 b u nb (kp b u q)
    have hcP : cStatics ≠ P := by
      intro q
      obtain ⟨_, hns, _⟩ := I1.nolimit
      obtain ⟨o', es, ep, ho, hd, _⟩ := hns
      rw [q, gP] at ho
      cases ho
      cases hd
    have hcl : cStatics < s1.heap.objs.size := by
      obtain ⟨_, hns, _⟩ := I1.nolimit
      exact hns.lt
    have pIt : P ≠ s1.heap.objs.size := Nat.ne_of_lt ltP
    have glob3 : h3.Ns X.env.globals X.mg := by
      rw [I1.ok.glob]
      have := (I1.mod.glob.keeps I1.bk).push (revObj l ((its.toArray.size : Int) - 1))
      rw [← ehp] at this
      exact this.extBut ex3 TB.gP
    refine wpAny_builtinsFor (m := X.mg) glob3 e1 e2 (k3 _ _ e4 (I1.bk _ _ e5)) e6 e7 e8 ?_
    have itP : ∀ b ∈ [s1.heap.objs.size, l], b ≠ P := by
      intro b hb
      have hb : b = s1.heap.objs.size ∨ b = l := by simpa using hb
      rcases hb with rfl | rfl
      · exact fun q => pIt q.symm
      · intro q
        rw [q, hP] at hl
        cases hl
    refine ⟨s1.heap.objs.size, [s1.heap.objs.size, l], [s1.heap.objs.size], its.toArray.size, _, _, (fun _ => true), (fun i y => y = .bool ((tags[its.toArray.size - 1 - i]?.map (· == z)).getD false)), rfl, fun A' hA => Walks.listRev hA s1.heap.objs.size l lne its.toArray, ?_, ?_, limp.extBut ex3 hcP, ?_, ?_, ?_⟩
    · refine ⟨Nat.zero_le _, ⟨revObj l ((its.toArray.size : Int) - 1), ex3 _ _ (fun q => pIt q.symm) (by rw [ehp]; exact Heap.get?_push_size _ rfl), rfl, ?_⟩, ?_⟩
      · show _ = Data.fields #[.ref l, rawInt ((its.toArray.size : Int) - 1 - ((0 : Nat) : Int))]
        rw [show ((its.toArray.size : Int) - 1 - ((0 : Nat) : Int)) = (its.toArray.size : Int) - 1 from by omega]
        rfl
      · obtain ⟨o, n, ho, q1, q2, q3⟩ := id pl
        exact PlainL.isList ⟨o, n, k3 l o (itP l (by simp)) ho, q1, q2, q3⟩
    · intro b hb
      have hb : b = s1.heap.objs.size ∨ b = l := by simpa using hb
      have hlt3 : s1.heap.objs.size < h3.objs.size := by omega
      rcases hb with rfl | rfl
      · exact hlt3
      · exact Nat.lt_trans ltl hlt3
    · intro q
      have q : cStatics = s1.heap.objs.size := by simpa using q
      rw [q] at hcl
      exact Nat.lt_irrefl _ hcl
    · intro href hhref
      refine ⟨fun A' E' i v s₂ m₂ hA hPv hn hm2 hk2 => ?_, fun A' E' i v s₂ m₂ hA hPv hpz hn hm2 hk2 => ?_⟩
      · simp only [List.forIn_nil]
        exact wpAny_pure ⟨rfl, GxR.keeps_refl _⟩
      · obtain ⟨t, ht1, a, its', u, rfl, ⟨o, o1, o2⟩, o3⟩ := itags _ v hPv
        have na : a ≠ P := by
          intro q
          rw [q, gP] at o1
          cases o1
          cases o2.1
        have la := Heap.lt_size o1
        have hlt3 : s1.heap.objs.size < h3.objs.size := by omega
        have ht2 : TagAt s₂.heap (.ref a) t := by
          refine ⟨a, its', u, rfl, ⟨o, hk2 a (List.mem_range.mpr (Nat.lt_trans la hlt3)) (fun q => ?_) o (hhref a o (k3 a o na o1)), o2⟩, o3⟩
          have q : a = s1.heap.objs.size := by simpa using q
          rw [q] at la
          exact Nat.lt_irrefl _ la
        have el := elt_tag (prog := X.prog) (w := X.w) (j1 := j1) (j2 := j2) (p1 := p1) (p2 := p2) (p3 := p3) (p4 := p4) (p5 := p5) (z := z) (B := A') (F := E') (cenv := genEnv scope (cloFrom X.env.cells scope.names []) h3.objs.size code _ X.env) S.kind S.loc hdb hn hm2 ht2
        refine wpAny_mono el (fun y s3 q => ⟨?_, q.2⟩) fun _ _ q => q
        rw [q.1, ht1]
        rfl
    · intro g h5 tk5 gs hgb hag hsz5 hk5 W5 hat
      simp only [GxR.passing_true, List.length_range] at W5
      have nbl : ((tags.map (· == z)).reverse).length = its.toArray.size := by simp [ntags]
      refine hQ tags H1 g _ hR ⟨_, _, _, _, _, (by rw [nbl]; exact W5.in4_1), hat, ?_, fun s' hmv => ?_⟩
      · intro j y sj Qj Ej hy hQj
        obtain ⟨i, hij, rfl⟩ := hy
        obtain ⟨hj, ej⟩ := List.getElem?_eq_some_iff.mp hij
        rw [List.getElem_range] at ej
        subst ej
        have hjn : j < its.toArray.size := by simpa using hj
        have e9 : ((tags.map (· == z)).reverse)[j]?.getD false = (tags[its.toArray.size - 1 - j]?.map (· == z)).getD false := by
          rw [List.getElem?_reverse (by simpa [← ntags] using hjn), List.getElem?_map]
          simp [ntags]
        have hQ2 : Qj (((tags.map (· == z)).reverse)[j]?.getD false) sj := hQj
        rw [e9] at hQ2
        exact wpAny_truthy_bool hQ2
      · obtain ⟨ad, had⟩ := had
        have out : ∀ b u, s1.heap.get? b = some u → b ∉ h3.objs.size :: [s1.heap.objs.size] := by
          intro b u q hb
          have hb2 := Heap.lt_size q
          have hlt3 : s1.heap.objs.size < h3.objs.size := by omega
          rcases List.mem_cons.mp hb with e0 | e0
          · rw [e0] at hb2
            exact Nat.lt_asymm hlt3 hb2
          · rw [List.mem_singleton.mp e0] at hb2
            exact Nat.lt_irrefl _ hb2
        have J := GxR.inv_tab (more := ad) (h' := s'.heap) (g' := s'.gens) (d' := s'.drawn) (t' := s'.toks) I1 hP (fun b u nb q => hmv.heap b u (out b u q) (hk5 b u (k3 b u nb q)))
          (by rw [← had]; exact hmv.heap P _ (out P _ gP) (hk5 P _ gP3)) (AllBare.movedS (I1.bare.push hgb) hmv)
        rw [GxR.sh_eta s1 s' hmv.os] at J
        exact ⟨upd H1 P (.tbl (ps ++ ad)), ⟨⟨ps ++ ad, upd_same, by rw [← had]; exact tr3⟩, fun b nb => upd_ne nb⟩, J⟩
  cases hf : codeAmong gpos ps.toList with
  | none =>
    refine wpAny_genexprCodeX hcode (cdp.code (kp _ _ gP) hps) (cdp.tab (kp _ _ gP)) hf fun c' h' tk hx hge hlt hco' _ htab' _ => ?_
    obtain ⟨o1, vs, f1, tf, fl, tg, inF, tx, tt, op, _, _, _, _, _, _, _, _, _, htr, _⟩ := hco'
    exact more _ h' tk _ hx (Nat.le_trans hge (Nat.le_of_lt hlt)) htab'.2 ⟨_, rfl⟩ htr
  | some cv =>
    refine wpAny_genexprCode_hit hcode (cdp.code (kp _ _ gP) hps) hf ?_
    exact more cv hp s1.toks ps (Heap.ExtBut.refl _ _) (Nat.le_refl _) (kp _ _ gP) ⟨#[], by simp⟩ hps
/-- any(x[0] == z for x in reversed(e)) -/
def tAnyR (K : PySem.W.Frag) (P : Addr) (z : Str) (te : TE) : TE := fun σ H Q => te σ H fun v H1 => ∃ l xs tags, v = .ref l ∧ H1 l = some (.lst xs) ∧ Tagged K H1 xs tags ∧ GxR.TabG H1 P ∧ ∀ H2, GxR.Tabbed P H1 H2 → Q (.bl (tags.any (· == z))) H2
theorem any_rev (tags : List Str) (z : Str) : (List.range ((tags.map (· == z)).reverse).length).any (fun j => ((tags.map (· == z)).reverse)[j]?.getD false) = tags.any (· == z) := by
  have key : ∀ bl : List Bool, (List.range bl.length).any (fun j => bl[j]?.getD false) = bl.any id := by
    intro bl
    rw [Bool.eq_iff_iff, List.any_eq_true, List.any_eq_true]
    constructor
    · intro ⟨j, hj, q⟩
      have hj := List.mem_range.mp hj
      rw [List.getElem?_eq_getElem hj] at q
      exact ⟨bl[j], List.getElem_mem hj, q⟩
    · intro ⟨b, hb, q⟩
      obtain ⟨j, hj, e⟩ := List.getElem_of_mem hb
      exact ⟨j, List.mem_range.mpr hj, by rw [List.getElem?_eq_getElem hj, e]; exact q⟩
  rw [key, List.any_reverse, List.any_map]
  rfl
theorem pe_anyR {X : Cx} {c P : Addr} {e : Expr} {x z : Str} {j1 j2 : Nat} {px p pos q1 q2 gpos p1 p2 p3 p4 p5 : Pos} {scope : Scope} {te : TE} {k : Nat}
    (hr : Room k X.A) (ga : Gl X "any") (ma : X.mg "any" = none) (TB : GxR.TabB X.base X.mg c P) (hcode : X.env.code = .ref c) (S : GxR.GenS X.env scope x) (hdb : (x == ("__debug__" : Str)) = false) (hg : Gl X "reversed") (hm : X.mg "reversed" = none) (he : PE X e te)
    (hsE : starEach [e] X.env = [(false, eval e X.env)]) :
    PE X (.Call (.Name "any" p) [.GeneratorExp (.Compare (.Subscript (.Name x p1) (.Constant (.int 0) j1 p2) p3) [.Eq] [.Constant (.str z) j2 p4] p5) [⟨.Name x px, .Call (.Name "reversed" q1) [e] [] q2, [], 0⟩] scope gpos] [] pos) (tAnyR X.K P z te) := by
  have hst : ∀ (g : Expr), g = .GeneratorExp (.Compare (.Subscript (.Name x p1) (.Constant (.int 0) j1 p2) p3) [.Eq] [.Constant (.str z) j2 p4] p5) [⟨.Name x px, .Call (.Name "reversed" q1) [e] [] q2, [], 0⟩] scope gpos → starEach [g] X.env = (false, eval g X.env) :: starEach [] X.env := by
    intro g hg; subst hg; rfl
  refine ⟨fun pins s σ H Q I h => ?_⟩
  refine wpAny_Call_Name_kw (ld_blt I ga ma PyProof.Rows.boot_any ?_)
  refine PyProof.Rows.callWith_builtin1 ?_ (hst _ rfl) rfl
  rw [hst _ rfl]
  refine Calls.spliced_cons (gen_rev (R := fun tags H1 => ∀ H2, GxR.Tabbed P H1 H2 → Q (.bl (tags.any (· == z))) H2) hr TB hcode S hdb hg hm he hsE I h fun tags H1 g s5 hR hG => ?_)
  obtain ⟨fp, wr, G, F, Sr, W, w0, tr, hI⟩ := hG
  refine Calls.spliced_nil ?_
  refine call_any_walkS (W.self 0 _ _ _ w0 ⟨g, fp, wr, G, _, F, Sr, _, rfl, W, w0, tr, fun s' hmv => ?_⟩)
  obtain ⟨H2, hT, J⟩ := hI s' hmv
  refine ⟨.bl _, H2, J, rfl, ?_⟩
  rw [any_rev tags z]
  exact hR H2 hT
end Mi
namespace Mi
open PySem PySem.Spec PyProof.Rows L2
variable [TabsC]

/-! ### a dict that is read at once -/
section
variable {K : PySem.W.Frag} {A : List Addr} {H : Hp} {p : Addr} {o : HO} {kd : List (Key × V)}
theorem sqT_upd (hp : H p = some (.dK kd)) {a : Addr} {vs : List V} (h : SqT K H a vs) : SqT K (upd H p o) a vs := by
  rcases h with (h | ⟨u, h⟩) | h
  · exact .inl (.inl (by rw [upd_ne (fun e => by subst e; rw [hp] at h; cases h)]; exact h))
  · exact .inl (.inr ⟨u, by rw [upd_ne (fun e => by subst e; rw [hp] at h; cases h)]; exact h⟩)
  · exact .inr h
theorem sqZ_upd (hp : H p = some (.dK kd)) {a : Addr} {vs : List V} (h : SqZ K A H a vs) : SqZ K A (upd H p o) a vs := by
  rcases h with (⟨u, h⟩ | ⟨h, n⟩) | h
  · exact .inl (.inl ⟨u, by rw [upd_ne (fun e => by subst e; rw [hp] at h; cases h)]; exact h⟩)
  · exact .inl (.inr ⟨by rw [upd_ne (fun e => by subst e; rw [hp] at h; cases h)]; exact h, n⟩)
  · exact .inr h
mutual
theorem RD.upd (hp : H p = some (.dK kd)) (hA : p ∉ A) : ∀ {d : D} {v : V}, RD K A H d v → RD K A (upd H p o) d v
  | .non, _, h => h
  | .bl _, _, h => h
  | .int _, _, h => h
  | .str _, _, h => h
  | .tup xs, v, h => by
    obtain ⟨a, vs, rfl, h1, h2⟩ := h
    exact ⟨a, vs, rfl, sqT_upd hp h1, RDs.upd hp hA h2⟩
  | .fn _, v, h => h
  | .nd d, v, h => by
    obtain ⟨⟨a, o, vs, rfl, h1, h2⟩, h3⟩ := h
    exact ⟨⟨a, o, vs, rfl, by rw [upd_ne (fun e => by subst e; rw [hp] at h1; cases h1)]; exact h1, h2⟩, RD.upd hp hA (d := d) h3⟩
  | .set0, v, h => by
    obtain ⟨a, rfl, h1, h2⟩ := h
    exact ⟨a, rfl, by rw [upd_ne (fun e => by subst e; rw [hp] at h1; cases h1)]; exact h1, h2⟩
  | .loc n, v, h => by
    obtain ⟨a, rfl, h1, u, h2, h3⟩ := h
    exact ⟨a, rfl, h1, u, by rw [upd_ne (fun e => hA (by rw [← e]; exact List.mem_of_getElem? h1))]; exact h2, h3⟩
  | .dloc n, v, h => by
    obtain ⟨a, rfl, h1, u, h2, h3⟩ := h
    exact ⟨a, rfl, h1, u, by rw [upd_ne (fun e => hA (by rw [← e]; exact List.mem_of_getElem? h1))]; exact h2, h3⟩
  | .fz xs, v, h => by
    obtain ⟨a, vs, rfl, h1, h2⟩ := h
    exact ⟨a, vs, rfl, sqZ_upd hp h1, RDs.upd hp hA h2⟩
theorem RDs.upd (hp : H p = some (.dK kd)) (hA : p ∉ A) : ∀ {xs : List D} {vs : List V}, RDs K A H xs vs → RDs K A (upd H p o) xs vs
  | [], _, h => h
  | x :: xs, vs, h => by
    obtain ⟨v, r, rfl, h1, h2⟩ := h
    exact ⟨v, r, rfl, RD.upd hp hA h1, RDs.upd hp hA h2⟩
end
theorem Rl.updD {m : List SO} (R : Rl K A H m) (hp : H p = some (.dK kd)) (hA : p ∉ A) : Rl K A (upd H p o) m where
  len := R.len
  tab := fun P hP => by
    obtain ⟨ps, h1, h2⟩ := R.tab P hP
    exact ⟨ps, by rw [upd_ne (fun e => by subst e; rw [hp] at h1; cases h1)]; exact h1, h2⟩
  nd := R.nd
  ob := fun n u a h1 h2 => by
    have := R.ob n u a h1 h2
    cases u with
    | lst xs =>
      obtain ⟨vs, e1, e2⟩ := this
      refine ⟨vs, ?_, RDs.upd hp hA e2⟩
      rw [upd_ne (fun e => by subst e; rw [hp] at e1; cases e1)]
      exact e1
    | dct xs =>
      obtain ⟨vs, e1, e2, e3⟩ := this
      refine ⟨vs, ?_, e2, RDs.upd hp hA e3⟩
      rw [upd_ne (fun e => hA (by rw [← e]; exact List.mem_of_getElem? h2))]
      exact e1
theorem sqZ_wide (hp : H p = some (.dK kd)) {a : Addr} {vs : List V} (h : SqZ K A H a vs) : SqZ K (A ++ [p]) H a vs := by
  rcases h with (h | ⟨h, n⟩) | h
  · exact .inl (.inl h)
  · refine .inl (.inr ⟨h, fun m => ?_⟩)
    rcases List.mem_append.mp m with m | m
    · exact n m
    · rw [List.mem_singleton.mp m, hp] at h; cases h
  · exact .inr h
mutual
theorem RD.wide (hp : H p = some (.dK kd)) : ∀ {d : D} {v : V}, RD K A H d v → RD K (A ++ [p]) H d v
  | .non, _, h => h
  | .bl _, _, h => h
  | .int _, _, h => h
  | .str _, _, h => h
  | .tup xs, v, h => by
    obtain ⟨a, vs, rfl, h1, h2⟩ := h
    exact ⟨a, vs, rfl, h1, RDs.wide hp h2⟩
  | .fn _, v, h => h
  | .nd d, v, h => ⟨h.1, RD.wide hp (d := d) h.2⟩
  | .set0, v, h => by
    obtain ⟨a, rfl, h1, h2⟩ := h
    refine ⟨a, rfl, h1, fun m => ?_⟩
    rcases List.mem_append.mp m with m | m
    · exact h2 m
    · rw [List.mem_singleton.mp m, hp] at h1; cases h1
  | .loc n, v, h => by
    obtain ⟨a, rfl, h1, h2⟩ := h
    exact ⟨a, rfl, by rw [List.getElem?_append_left (List.getElem?_eq_some_iff.mp h1).1]; exact h1, h2⟩
  | .dloc n, v, h => by
    obtain ⟨a, rfl, h1, h2⟩ := h
    exact ⟨a, rfl, by rw [List.getElem?_append_left (List.getElem?_eq_some_iff.mp h1).1]; exact h1, h2⟩
  | .fz xs, v, h => by
    obtain ⟨a, vs, rfl, h1, h2⟩ := h
    exact ⟨a, vs, rfl, sqZ_wide hp h1, RDs.wide hp h2⟩
theorem RDs.wide (hp : H p = some (.dK kd)) : ∀ {xs : List D} {vs : List V}, RDs K A H xs vs → RDs K (A ++ [p]) H xs vs
  | [], _, h => h
  | x :: xs, vs, h => by
    obtain ⟨v, r, rfl, h1, h2⟩ := h
    exact ⟨v, r, rfl, RD.wide hp h1, RDs.wide hp h2⟩
end
/-- a dict that stands already comes into the store -/
theorem Rl.addD {m : List SO} (R : Rl K A H m) (hA : p ∉ A) {vs : List (Key × V)} (hp : H p = some (.dK vs)) {xs : List (Key × D)} (hk : xs.map (·.1) = vs.map (·.1)) (h : RDs K A H (xs.map (·.2)) (vs.map (·.2))) : Rl K (A ++ [p]) H (m ++ [.dct xs]) where
  len := by simp [R.len]
  nd := List.nodup_append.mpr ⟨R.nd, by simp, fun a ha b hb => by
    rw [List.mem_singleton.mp hb]
    intro e
    exact hA (e ▸ ha)⟩
  tab := R.tab
  ob := fun n u a h1 h2 => by
    by_cases hn : n < m.length
    · rw [List.getElem?_append_left hn] at h1
      rw [List.getElem?_append_left (by rw [R.len]; exact hn)] at h2
      have ob := R.ob n u a h1 h2
      cases u with
      | lst ys => obtain ⟨ws, k1, k2⟩ := ob; exact ⟨ws, k1, k2.wide hp⟩
      | dct ys => obtain ⟨ws, k1, k2, k3⟩ := ob; exact ⟨ws, k1, k2, k3.wide hp⟩
    · rw [List.getElem?_append_right (by omega)] at h1
      rw [List.getElem?_append_right (by rw [R.len]; omega)] at h2
      rw [R.len] at h2
      cases hkn : n - m.length with
      | zero =>
        rw [hkn] at h1 h2
        simp at h1 h2
        subst h1 h2
        exact ⟨vs, hp, hk, h.wide hp⟩
      | succ j => rw [hkn] at h1; simp at h1
theorem ext_dict {A1 : List Addr} {H1 : Hp} (hp : H p = none) (e : Ext A (upd H p (.dK kd)) A1 H1) : Ext A H A1 (upd H1 p o) where
  pre := e.pre
  kind := fun b hb u h => by
    have hn := ne_of_none h hp
    obtain ⟨u', h1, h2⟩ := e.kind b hb u (by rw [upd_ne hn]; exact h)
    exact ⟨u', by rw [upd_ne hn]; exact h1, h2⟩
  keep := fun b u h no n => by
    have hb := ne_of_none h hp
    rw [upd_ne hb]
    exact e.keep b u (by rw [upd_ne hb]; exact h) no n
  tbs := fun b ps h => by
    have hb := ne_of_none h hp
    obtain ⟨ps', e1, q⟩ := e.tbs b ps (by rw [upd_ne hb]; exact h)
    exact ⟨ps', by rw [upd_ne hb]; exact e1, q⟩
  new := fun b h n => by
    have := e.new b h n
    by_cases hb : b = p
    · rw [hb]; exact hp
    · rwa [upd_ne hb] at this
  tups := fun b xs h => by
    have hb := ne_of_none h hp
    rw [upd_ne hb]
    exact e.tups b xs (by rw [upd_ne hb]; exact h)
  frzs := fun b u xs h => by
    have hb := ne_of_none h hp
    rw [upd_ne hb]
    exact e.frzs b u xs (by rw [upd_ne hb]; exact h)
end
theorem valV_merge (k : Key) : ∀ (more acc : List (Key × V)), (more.map (·.1)).Nodup → valV (mergeK acc more) k = match valV more k with
    | some v => some v
    | none => valV acc k
  | [], acc, _ => by rw [valV_nil]; rfl
  | q :: r, acc, h => by
    rw [List.map_cons, List.nodup_cons] at h
    have ih := valV_merge k r (putK acc q.1 q.2) h.2
    show valV (mergeK (putK acc q.1 q.2) r) k = _
    rw [ih, valV_put]
    by_cases e : q.1 = k
    · rw [valV_pos e]
      have hn : valV r k = none := by
        cases hv : valV r k with
        | none => rfl
        | some v =>
          have := valV_any k r
          rw [hv] at this
          obtain ⟨z, hz, hz2⟩ := List.any_eq_true.mp this
          exact absurd (List.mem_map.mpr ⟨z, hz, (of_decide_eq_true hz2).trans e.symm⟩) h.1
      rw [hn, if_pos e.symm]
    · rw [valV_neg e, if_neg (fun z => e z.symm)]
def kvsOf (ks : List Str) (vs : List V) : List (Key × V) := (ks.zip vs).map fun q => (.inr q.1, q.2)
theorem valV_zip {K : PySem.W.Frag} {A : List Addr} {H : Hp} {z : Str} {d : D} : ∀ {ks : List Str} {ds : List D} {vs : List V}, RDs K A H ds vs → (ks.zip ds).lookup z = some d → ∃ v, valV (kvsOf ks vs) (.inr z) = some v ∧ RD K A H d v
  | [], ds, vs, h, q => by simp at q
  | x :: ks, [], vs, h, q => by simp at q
  | x :: ks, e :: ds, vs, h, q => by
    obtain ⟨v, r, rfl, h1, h2⟩ := h
    rw [List.zip_cons_cons, List.lookup_cons] at q
    unfold kvsOf
    rw [List.zip_cons_cons, List.map_cons]
    by_cases hz : z = x
    · subst hz
      rw [beq_self_eq_true] at q
      cases q
      exact ⟨v, valV_pos rfl, h1⟩
    · have hb : (z == x) = false := beq_eq_false_iff_ne.mpr hz
      rw [hb] at q
      rw [valV_neg (fun w => hz (by injection w with w; exact w.symm))]
      exact valV_zip h2 q
theorem kvs_pairs (ks : List Str) (vs : List V) : (ks.map V.str).zip vs = (kvsOf ks vs).map fun kv => (kV kv.1, kv.2) := by
  unfold kvsOf
  rw [List.map_map, List.zip_map_left]
  rfl
theorem zip_sub : ∀ (ks : List Str) (vs : List V), List.Sublist ((ks.zip vs).map (·.1)) ks
  | [], _ => by simp
  | k :: ks, [] => by simp
  | k :: ks, v :: vs => by
    rw [List.zip_cons_cons, List.map_cons]
    exact (zip_sub ks vs).cons_cons k
theorem kvs_nodup : ∀ {ks : List Str} {vs : List V}, ks.Nodup → ((kvsOf ks vs).map (·.1)).Nodup := by
  intro ks vs h
  have e : (kvsOf ks vs).map (·.1) = ((ks.zip vs).map (·.1)).map Sum.inr := by
    unfold kvsOf
    rw [List.map_map, List.map_map]; rfl
  rw [e]
  have h2 : ((ks.zip vs).map (·.1)).Nodup := h.sublist (zip_sub ks vs)
  exact List.Pairwise.map _ (fun a b hab w => hab (by injection w)) h2
def DPs (X : Cx) (f : Rho → M (List D)) (es : List Expr) : Prop :=
  ∀ (pos : Pos) (ks : List Str) (keys : List (Option Expr)), keysB ks keys = true → ks.length = es.length → ∃ trs, PPs X pos keys es trs ∧
    ∀ (σ : L2.St) (A : List Addr) (H : Hp) (m : List SO) (r : Rho) (ds : List D) (m1 : List SO) (Q : List (V × V) → Hp → Prop), Rl X.K A H m → RSt X.K A H r σ → f r m = some (ds, m1) →
      (∀ A1 H1 vs, Ext A H A1 H1 → Rl X.K A1 H1 m1 → RDs X.K A1 H1 ds vs → Q ((ks.map V.str).zip vs) H1) → tPairs trs σ H Q
theorem keys_cons {z : Str} {zs : List Str} {keys : List (Option Expr)} (h : keysB (z :: zs) keys = true) : ∃ j p es, keys = some (.Constant (.str z) j p) :: es ∧ keysB zs es = true := by
  unfold keysB at h
  split at h
  · rename_i hh; cases hh
  · rename_i z' zs' x j p es h1
    injection h1 with h1 h2
    subst h1 h2
    rw [Bool.and_eq_true] at h
    have e := eq_of_beq h.1
    subst e
    exact ⟨j, p, es, rfl, h.2⟩
  · cases h
theorem dps_nil {X : Cx} : DPs X (fun _ => M.ret []) [] := by
  intro pos ks keys hk hl
  cases ks with
  | cons z zs => cases hl
  | nil =>
    cases keys with
    | cons z zs => cases z <;> cases hk
    | nil =>
      refine ⟨[], pps_nil, fun σ A H m r ds m1 Q R S h q => ?_⟩
      cases h
      exact q A H [] (Ext.refl A H) R rfl
theorem dps_cons {X : Cx} {f : Rho → M D} {g : Rho → M (List D)} {e : Expr} {es : List Expr} (he : PE X e (tV X.K f)) (hes : DPs X g es) : DPs X (fun r => (f r).bnd fun d => (g r).bnd fun ds => .ret (d :: ds)) (e :: es) := by
  intro pos ks keys hk hl
  cases ks with
  | nil => cases hl
  | cons z zs =>
    obtain ⟨j, p, keys', rfl, hk'⟩ := keys_cons hk
    obtain ⟨trs, hp, hq⟩ := hes pos zs keys' hk' (by simpa using hl)
    refine ⟨(tC (.str z), tV X.K f) :: trs, pps_cons pe_str he hp, fun σ A H m r ds m1 Q R S h q => ?_⟩
    obtain ⟨d, ma, h1, h2⟩ := bnd_some h
    obtain ⟨ds', mb, h3, h4⟩ := bnd_some h2
    cases h4
    refine ⟨A, m, r, d, ma, R, S, (fun _ z => nomatch z), h1, fun A1 H1 e1 R1 v hv => ?_⟩
    exact hq σ A1 H1 ma r ds' _ _ R1 (S.mono e1) h3 fun A2 H2 vs e2 R2 hvs => q A2 H2 (v :: vs) (e1.trans e2) R2 ⟨v, vs, rfl, hv.mono e2, hvs⟩
theorem dsub_ok {X : Cx} {f : Rho → M (List D)} {g : Rho → M D} {keys : List (Option Expr)} {values : List Expr} {ix : Expr} {p1 p2 : Pos} {ks : List Str} (hu : X.A.units + 1 < cLine)
    (hd : DPs X f values) (hi : PE X ix (tV X.K g)) (hk : keysB ks keys = true) (hl : ks.length = values.length) (h0 : ks ≠ []) (h15 : ks.length ≤ 15) (hn : ks.Nodup) (hs : PlainIx ix) :
    PE X (.Subscript (.Dict keys values p1) ix p2) (tV X.K fun r => (f r).bnd fun ds => (g r).bnd fun x m => match x with
      | .str z => match (ks.zip ds).lookup z with
        | some d => some (d, m)
        | none => none
      | _ => none) := by
  obtain ⟨trs, hp, hq⟩ := hd p1 ks keys hk hl
  have hlen : ∀ {ks : List Str} {keys : List (Option Expr)}, keysB ks keys = true → keys.length = ks.length ∧ keys.all (·.isSome) = true := by
    intro ks
    induction ks with
    | nil =>
      intro keys hk
      cases keys with
      | nil => exact ⟨rfl, rfl⟩
      | cons z zs => cases z <;> cases hk
    | cons z zs ih =>
      intro keys hk
      obtain ⟨j, p, keys', rfl, hk'⟩ := keys_cons hk
      obtain ⟨i1, i2⟩ := ih hk'
      exact ⟨by rw [List.length_cons, List.length_cons, i1], by rw [List.all_cons, i2]; rfl⟩
  obtain ⟨l1, l2⟩ := hlen hk
  have hne : keys ≠ [] := by
    intro e
    rw [e] at l1
    cases ks with
    | nil => exact h0 rfl
    | cons z zs => cases l1
  refine PE.imp (pe_dget hu (pe_disp hp l2 (l1.trans hl) hne (by omega)) hi hs) fun σ H Q q => ?_
  obtain ⟨A, m, r, b, m', R, S, hx, hc, q⟩ := q
  obtain ⟨ds, m1, h1, hc⟩ := bnd_some hc
  obtain ⟨x, m2, h2, hc⟩ := bnd_some hc
  intro p hpn
  have E0 : Ext A H A (upd H p (.dK [])) := Ext.fresh R hpn
  refine hq σ A _ m r ds m1 _ (R.tupled hpn) (S.mono E0) h1 fun A1 H1 vs e1 R1 hvs => ?_
  have hpA : p ∉ A := R.fresh_ne hpn
  have hd1 : H1 p = some (.dK []) := e1.keep p _ upd_same (fun _ z => by cases z) hpA
  have hpA1 : p ∉ A1 := fun hin => by
    have := e1.new p hin hpA
    rw [upd_same] at this
    cases this
  refine ⟨hd1, kvsOf ks vs, kvs_pairs ks vs, ?_, ?_⟩
  · unfold kvsOf
    rw [List.length_map, List.length_zip]
    omega
  have E1 : Ext A H A1 (upd H1 p (.dK (mergeK [] (kvsOf ks vs)))) := ext_dict hpn e1
  refine ⟨A1, m1, r, x, m2, R1.updD hd1 hpA1, S.mono E1, (fun _ z => nomatch z), h2, fun A2 H2 e2 R2 v hv => ?_⟩
  have hd2 : H2 p = some (.dK (mergeK [] (kvsOf ks vs))) := e2.keep p _ upd_same (fun _ z => by cases z) hpA1
  cases x with
  | str z =>
    simp only at hc
    split at hc
    · rename_i d hlk
      cases hc
      cases hv
      obtain ⟨u, k1, k2⟩ := valV_zip (RDs.upd (o := .dK (mergeK [] (kvsOf ks vs))) hd1 hpA1 hvs) hlk
      refine ⟨p, u, rfl, ?_, q A2 H2 (E1.trans e2) R2 u (k2.mono e2)⟩
      have := DGet.k (k := .inr z) hd2
      rw [valV_merge _ _ _ (kvs_nodup hn), k1] at this
      exact this
    · cases hc
  | non => cases hc
  | bl b => cases hc
  | int b => cases hc
  | tup b => cases hc
  | loc b => cases hc
  | fz b => cases hc
  | set0 => cases hc
  | fn _ => cases hc
  | nd _ => cases hc
  | dloc _ => cases hc
theorem kvs_rel {K : PySem.W.Frag} {A : List Addr} {H : Hp} : ∀ {ks : List Str} {ds : List D} {vs : List V}, RDs K A H ds vs →
    ((ks.zip ds).map fun q => ((.inr q.1, q.2) : Key × D)).map (·.1) = (kvsOf ks vs).map (·.1) ∧ RDs K A H (((ks.zip ds).map fun q => ((.inr q.1, q.2) : Key × D)).map (·.2)) ((kvsOf ks vs).map (·.2))
  | [], ds, vs, h => ⟨rfl, rfl⟩
  | x :: ks, [], vs, h => by cases h; exact ⟨rfl, rfl⟩
  | x :: ks, e :: ds, vs, h => by
    obtain ⟨v, r, rfl, h1, h2⟩ := h
    obtain ⟨i1, i2⟩ := kvs_rel (ks := ks) h2
    unfold kvsOf at i1 i2 ⊢
    simp only [List.zip_cons_cons, List.map_cons]
    exact ⟨congrArg _ i1, ⟨v, _, rfl, h1, i2⟩⟩
/-- a dict as it is written -/
theorem ddsp_ok {X : Cx} {f : Rho → M (List D)} {keys : List (Option Expr)} {values : List Expr} {p1 : Pos} {ks : List Str}
    (hd : DPs X f values) (hk : keysB ks keys = true) (hl : ks.length = values.length) (h0 : ks ≠ []) (h15 : ks.length ≤ 15) :
    PE X (.Dict keys values p1) (tV X.K fun r => (f r).bnd fun ds m => some (.dloc m.length, m ++ [.dct (dmerge [] ((ks.zip ds).map fun q => (.inr q.1, q.2)))])) := by
  obtain ⟨trs, hp, hq⟩ := hd p1 ks keys hk hl
  have hlen : ∀ {ks : List Str} {keys : List (Option Expr)}, keysB ks keys = true → keys.length = ks.length ∧ keys.all (·.isSome) = true := by
    intro ks
    induction ks with
    | nil =>
      intro keys hk
      cases keys with
      | nil => exact ⟨rfl, rfl⟩
      | cons z zs => cases z <;> cases hk
    | cons z zs ih =>
      intro keys hk
      obtain ⟨j, p, keys', rfl, hk'⟩ := keys_cons hk
      obtain ⟨i1, i2⟩ := ih hk'
      exact ⟨by rw [List.length_cons, List.length_cons, i1], by rw [List.all_cons, i2]; rfl⟩
  obtain ⟨l1, l2⟩ := hlen hk
  have hne : keys ≠ [] := by
    intro e
    rw [e] at l1
    cases ks with
    | nil => exact h0 rfl
    | cons z zs => cases l1
  refine PE.imp (pe_disp hp l2 (l1.trans hl) hne (by omega)) fun σ H Q q => ?_
  obtain ⟨A, m, r, b, m', R, S, hx, hc, q⟩ := q
  obtain ⟨ds, m1, h1, hc⟩ := bnd_some hc
  cases hc
  intro p hpn
  have E0 : Ext A H A (upd H p (.dK [])) := Ext.fresh R hpn
  refine hq σ A _ m r ds m1 _ (R.tupled hpn) (S.mono E0) h1 fun A1 H1 vs e1 R1 hvs => ?_
  have hpA : p ∉ A := R.fresh_ne hpn
  have hd1 : H1 p = some (.dK []) := e1.keep p _ upd_same (fun _ z => by cases z) hpA
  have hpA1 : p ∉ A1 := fun hin => by
    have := e1.new p hin hpA
    rw [upd_same] at this
    cases this
  refine ⟨hd1, kvsOf ks vs, kvs_pairs ks vs, ?_, ?_⟩
  · unfold kvsOf
    rw [List.length_map, List.length_zip]
    omega
  obtain ⟨g1, g2⟩ := kvs_rel (ks := ks) hvs
  obtain ⟨k1, k2⟩ := dmerge_ok (xs := []) (vs := []) g1 g2 rfl (show RDs X.K A1 H1 [] [] from rfl)
  have E1 : Ext A H A1 (upd H1 p (.dK (mergeK [] (kvsOf ks vs)))) := ext_dict hpn e1
  have R2 := R1.updD (o := .dK (mergeK [] (kvsOf ks vs))) hd1 hpA1
  have k3 := RDs.upd (o := .dK (mergeK [] (kvsOf ks vs))) hd1 hpA1 k2
  refine q (A1 ++ [p]) _ ?_ (R2.addD hpA1 upd_same k1 k3) _ ⟨p, rfl, ?_, _, upd_same, rfl⟩
  · refine ⟨?_, E1.keep, fun b hb hn => ?_, E1.tups, E1.frzs, E1.tbs, E1.kind⟩
    · obtain ⟨B, hB⟩ := E1.pre
      exact ⟨B ++ [p], by rw [hB, List.append_assoc]⟩
    · rcases List.mem_append.mp hb with hb | hb
      · exact E1.new b hb hn
      · rw [List.mem_singleton.mp hb]; exact hpn
  · rw [← R1.len, List.getElem?_append_right (Nat.le_refl _), Nat.sub_self]
    rfl
end Mi
namespace Mi
open PySem PySem.Spec PyProof.Rows L2
variable [TabsC]
section
variable {S : Sx} {lv k : Nat} {cf : Str → List D → M D} {N : List Str} {cl : Bool} {ns : List (Str × NameKind)} {X : Cx}

theorem gsc_by {scope : Scope} {own : List Str} (h : gscB scope = true) : GSc scope own := by
  unfold gscB at h
  simp only [Bool.and_eq_true, List.all_eq_true, Bool.not_eq_true', bne_iff_ne, beq_iff_eq] at h
  obtain ⟨⟨⟨h1, h2⟩, h3⟩, h4⟩ := h
  exact ⟨h1, h2, fun y hy => ⟨(h3 y hy).1, (h3 y hy).2⟩, h4⟩
theorem fold_gen {env : Env} {e : Expr} (h : notSet e = true) (h2 : notList e = true) : ∀ x, genFold e env x = pure x := by
  intro x
  cases e <;> first | rfl | (exact absurd h Bool.false_ne_true) | (exact absurd h2 Bool.false_ne_true)
omit [TabsC] in
theorem gl_units (A : Around) (elt tg iter : Expr) (scope : Scope) (pos : Pos) (it : Addr) (cenv : Env) : (A.in1.in1.over (gLp elt tg iter scope pos it cenv) []).units ≤ A.units + 8 := by
  show A.units + 1 + 1 + 0 + (gLp elt tg iter scope pos it cenv).cUnits ≤ _
  have : (gLp elt tg iter scope pos it cenv).cUnits ≤ 6 := by
    show 3 * (1 : Nat) ≤ 6
    decide
  omega
theorem gX_ok (O : XOk S lv k cf N cl ns X) (hgen : S.gen = true) (hcl : cl = true) {own : List Str} {scope : Scope} {pos : Pos} {elt tg iter : Expr} (hs : GSc scope own) (hn : own.Nodup) (s4 : Shared) (H4 : Hp) (fp : List Addr) (code : Value) (it : Addr) :
    XOk S lv k cf own false scope.names (gX X own (genEnv scope [] s4.heap.objs.size code builtinsNs X.env) s4 H4 fp (gLp elt tg iter scope pos it (genEnv scope [] s4.heap.objs.size code builtinsNs X.env))) where
  eN := rfl
  nd := hn
  names := rfl
  kind := hs.kind
  calm := rfl
  room := by
    have R := O.room2 hgen hcl
    refine ⟨R.hd, ?_, ?_⟩
    · have := R.dp
      show X.A.depth + 0 + 1 + 3 * lv + 5 < recursionLimit
      omega
    · have h1 := gl_units X.A elt tg iter scope pos it (genEnv scope [] s4.heap.objs.size code builtinsNs X.env)
      have h2 := R.un
      show (X.A.in1.in1.over _ []).units + 16 * lv + 200 < cLine
      omega
  lek := O.lek
  room2 := fun _ h => absurd h (by decide)
  never := rfl
  cells := fun h => absurd h (by decide)
  blt := O.blt
  gl := O.gl
  gd := O.gd
  fn := O.fn
  ew := O.ew
  tab := fun h => absurd h.2 (by decide)
end
section
variable {K : PySem.W.Frag} {A : List Addr} {H : Hp} {m : List SO} {c P : Addr}
/-- a table that has grown -/
theorem tab_ext (hmem : (c, P) ∈ TabsC.C) (R : Rl K A H m) {H2 : Hp} (hT : GxR.Tabbed P H H2) : Ext A H A H2 ∧ Rl K A H2 m := by
  have E : Ext A H A H2 := by
    obtain ⟨hT1, hT2⟩ := hT
    obtain ⟨ps0, g1, g2⟩ := R.tab _ hmem
    refine ⟨⟨[], by simp⟩, fun b o hb no _ => ?_, fun b h n => absurd h n, fun b xs hb => ?_, fun b o u hb => ?_, fun b ps hb => ?_, fun b hb o ho => ⟨o, by rw [hT2 b (fun e => by subst e; obtain ⟨o2, k1, k2⟩ := R.mem hb; rw [g1] at k1; cases k1; exact k2.elim)]; exact ho, rfl⟩⟩
    · rw [hT2 b (fun e => by subst e; rw [g1] at hb; cases hb; exact no _ rfl)]; exact hb
    · rw [hT2 b (fun e => by subst e; rw [g1] at hb; cases hb)]; exact hb
    · rw [hT2 b (fun e => by subst e; rw [g1] at hb; cases hb)]; exact hb
    · by_cases e : b = P
      · subst e
        obtain ⟨ps1, k3, k4⟩ := hT1
        exact ⟨ps1, k3, fun _ => k4⟩
      · exact ⟨ps, by rw [hT2 b e]; exact hb, fun z => z⟩
  refine ⟨E, R.len, R.nd, fun n o a h3 h4 => ?_, fun p hp => E.tabG (R.tab p hp)⟩
  have ob := R.ob n o a h3 h4
  cases o with
  | lst ys =>
    obtain ⟨ws, w1, w2⟩ := ob
    refine ⟨ws, ?_, w2.mono E⟩
    obtain ⟨ps0, g1, g2⟩ := R.tab _ hmem
    rw [hT.2 a (fun e => by subst e; rw [g1] at w1; cases w1)]
    exact w1
  | dct ys =>
    obtain ⟨ws, w1, w2, w3⟩ := ob
    refine ⟨ws, ?_, w2, w3.mono E⟩
    obtain ⟨ps0, g1, g2⟩ := R.tab _ hmem
    rw [hT.2 a (fun e => by subst e; rw [g1] at w1; cases w1)]
    exact w1
theorem rst_none (own : List Str) : RSt K A H (own.map fun _ => none) (own.map fun _ => none) :=
  ⟨by simp, fun i d h => by
    rw [List.getElem?_map] at h
    cases e : own[i]? <;> rw [e] at h <;> cases h⟩
/-- all(..), whatever the turns do -/
theorem all_fin {own : List Str} {g : Tg} {ik : Itk} {f : Rho → M (List D)} {e : Rho → M D} {σ : L2.St} {Q : VK} (hmem : (c, P) ∈ TabsC.C)
    (q : tV K (fun r => (f r).bnd fun ds => (itemsD ik ds).bnd fun it => allL (aturn g own e) it.2 it.1) σ H Q) : tAllG P (tI K fun r => (f r).bnd (itemsD ik)) (gTg K g) (tV K e) (own.map fun _ => none) σ H Q := by
  obtain ⟨A, m, r, b, m', R, St, hx, hc, q⟩ := q
  obtain ⟨ds, m0, h1, h2⟩ := bnd_some hc
  obtain ⟨it, m1, h3, h4⟩ := bnd_some h2
  refine ⟨A, m, r, it, m1, R, St, hx, ?_, fun A1 H1 e1 R1 J hJ => ⟨R1.tab _ hmem, fun H2 hT => ?_⟩⟩
  · show ((f r).bnd (itemsD ik)) m = _
    unfold M.bnd
    rw [h1]
    exact h3
  obtain ⟨E, R2⟩ := tab_ext hmem R1 hT
  refine ⟨fun i j H3 => j = it.1.length - i ∧ i ≤ it.1.length ∧ ∃ A2 mm, Ext A1 H2 A2 H3 ∧ Rl K A2 H3 mm ∧ allL (aturn g own e) it.2 (it.1.drop i) mm = some (b, m'),
    ⟨_, rfl, Nat.zero_le _, A1, m1, Ext.refl _ _, R2, h4⟩, fun i j H3 hW => ?_⟩
  obtain ⟨rfl, hi, A2, mm, e2, R3, hl⟩ := hW
  have e02 : Ext A1 H1 A2 H3 := E.trans e2
  by_cases hlt : i < it.1.length
  · have hg : it.1[i]? = some it.1[i] := List.getElem?_eq_getElem hlt
    rw [List.drop_eq_getElem_cons hlt] at hl
    unfold allL at hl
    obtain ⟨st, hl⟩ := still_of hl
    obtain ⟨go, yl⟩ := hJ.go A2 H3 mm i _ e02 R3 st hg
    refine .inr ⟨go, fun H' => i + 1 ≤ it.1.length ∧ ∃ A2 mm, Ext A1 H2 A2 H' ∧ Rl K A2 H' mm ∧ allL (aturn g own e) it.2 (it.1.drop (i + 1)) mm = some (b, m'),
      fun H' hN => ⟨it.1.length - (i + 1), by omega, rfl, hN⟩, fun x H' hy => ?_⟩
    obtain ⟨e3, R4, rx⟩ := yl x H' hy
    cases hf : aturn g own e it.1[i] mm with
    | none => rw [hf] at hl; cases hl
    | some p =>
      obtain ⟨d, m2⟩ := p
      rw [hf] at hl
      unfold aturn at hf
      cases ht : tgt g it.1[i] (own.map fun _ => none) mm with
      | none => rw [ht] at hf; cases hf
      | some r1 =>
        rw [ht] at hf
        refine tgt_ok (m := mm) (rst_none own) rx ht fun σ2 S2 _ => ?_
        refine ⟨A2, mm, r1, d, m2, R4, S2, (fun _ z => nomatch z), hf, fun A5 H5 e5 R5 v hv => ?_⟩
        cases d with
        | bl t =>
          cases hv
          refine ⟨t, rfl, ?_⟩
          cases t with
          | true => exact ⟨by omega, A5, m2, e2.trans (e3.trans e5), R5, hl⟩
          | false =>
            cases hl
            exact q A5 H5 (e1.trans (e02.trans (e3.trans e5))) R5 _ rfl
        | _ => cases hl
  · have hi' : i = it.1.length := by omega
    subst hi'
    rw [List.drop_length] at hl
    unfold allL at hl
    obtain ⟨st, hl⟩ := still_of hl
    cases hl
    exact .inl ⟨hJ.stop A2 H3 _ _ e02 R3 st (Nat.le_refl _), q A2 H3 (e1.trans e02) R3 _ rfl⟩
end
end Mi
namespace Mi
open PySem PySem.Spec PyProof.Rows L2
section
variable {X : Cx} {k i : Nat} {x : Str} {p pos : Pos} {e : Expr} {es : List Expr} {t : TA}
/-- a call of a local that holds a def -/
def tCallF (i : Nat) (P : Addr → Sp → Prop) (t : TA) : TE := fun σ H Q => ∃ f sp, σ[i]? = some (some (.ref f)) ∧ P f sp ∧ t σ H fun vs H1 => sp (vs ++ []) H1 Q E0
theorem pe_callF {P : Addr → Sp → Prop} (A : ∀ f sp, P f sp → ∃ (fd : FuncData) (ps : List Str), FnOk X.prog X.w X.K X.mg X.base CX0 k f fd ps sp ∧ PySem.W.keepIn X.K (.ref f) = true ∧ Binds X.K fd ps []) (hr : Room k X.A) (hN : X.N[i]? = some x) (hv : Vis X.env.scope x) (ha : PA X (e :: es) t)
    (hdb : (x == ("__debug__" : Str)) = false) (hcd : (x == ("__classdict__" : Str)) = false)
    (he : starEach (e :: es) X.env = (false, eval e X.env) :: starEach es X.env) (hpl : (backTo pos (starEach es X.env)).any (·.1) = false) : PE X (.Call (.Name x p) (e :: es) [] pos) (tCallF i P t) := by
  refine ⟨fun pins s σ H Q I h => ?_⟩
  obtain ⟨f, sp, hs, hS, ht⟩ := h
  obtain ⟨fd, ps, F, hk, hb⟩ := A f sp hS
  exact (pe_callL (i := i) (f := f) (sp := sp) (dvs := []) (E := E0) F hr hN hv hk hb .nil pass0 ha hdb hcd he hpl).run pins s σ H Q I ⟨hs, ht⟩
end
variable [TabsC]
section
variable {S : Sx} {lv k : Nat} {cf : Str → List D → M D} {N : List Str} {cl : Bool} {ns : List (Str × NameKind)} {X : Cx}

/-- what is shown of an expression's text -/
structure Snd (S : Sx) (N : List Str) (k : Nat) (cf : Str → List D → M D) (c : Ex) (cl : Bool) (ns : List (Str × NameKind)) (X : Cx) : Prop where
  e : ∀ e, (chk S N c cl ns).e e = true → PE X e (tV X.K fun r => (ev k cf c r).v) ∧ PT X e (tT X.K fun r => (ev k cf c r).t)
  a : ∀ es, (chk S N c cl ns).a es = true → PA X es (tL X.K fun r => (ev k cf c r).l) ∧ es.all notStar = true
  a0 : (chk S N c cl ns).a [] = true → ∀ r, (ev k cf c r).l = M.ret []
  a1 : ∀ e, (chk S N c cl ns).a [e] = true → ∃ g, PE X e (tV X.K g) ∧ (fun r => (ev k cf c r).l) = fun r => (g r).bnd fun d => .ret [d]
  d : ∀ es, (chk S N c cl ns).a es = true → DPs X (fun r => (ev k cf c r).l) es
  s : ∀ es, (chk S N c cl ns).s es = true → PA X es (tL X.K fun r => (ev k cf c r).l)
theorem Snd.of {c : Ex} {f : Expr → Bool} (hc : chk S N c cl ns = ckE f) (h : ∀ e, f e = true → PE X e (tV X.K fun r => (ev k cf c r).v) ∧ PT X e (tT X.K fun r => (ev k cf c r).t)) : Snd S N k cf c cl ns X where
  e := fun e he => h e (by rw [hc] at he; exact he)
  a := fun es he => by rw [hc] at he; exact absurd he Bool.false_ne_true
  a0 := fun he => by rw [hc] at he; exact absurd he Bool.false_ne_true
  a1 := fun es he => by rw [hc] at he; exact absurd he Bool.false_ne_true
  d := fun es he => by rw [hc] at he; exact absurd he Bool.false_ne_true
  s := fun es he => by rw [hc] at he; exact absurd he Bool.false_ne_true

theorem bnd_assoc {α β γ : Type} (x : M α) (f : α → M β) (g : β → M γ) : (x.bnd f).bnd g = x.bnd fun a => (f a).bnd g := by
  funext m
  unfold M.bnd
  cases x m with
  | none => rfl
  | some p => rfl
theorem ret_bnd {α β : Type} (a : α) (f : α → M β) : (M.ret a).bnd f = f a := rfl
theorem bnd_ret {α : Type} (x : M α) : (x.bnd fun a => M.ret a) = x := by
  funext m
  unfold M.bnd
  cases x m with
  | none => rfl
  | some p => rfl

theorem mem_eqb {l : List (Str × D)} {x : Str} {d : D} (h : (l.any fun p => p.1 == x && eqbD p.2 d) = true) : (x, d) ∈ l := by
  obtain ⟨p, hp, hq⟩ := mem_any h
  rw [Bool.and_eq_true] at hq
  have e1 := eq_of_beq hq.1
  have e2 := eqbD_eq hq.2
  obtain ⟨a, b⟩ := p
  subst e1 e2
  exact hp
theorem mem_eqk {l : List (Str × List (Str × D))} {x : Str} {d : List (Str × D)} (h : (l.any fun p => p.1 == x && eqbK p.2 d) = true) : (x, d) ∈ l := by
  obtain ⟨p, hp, hq⟩ := mem_any h
  rw [Bool.and_eq_true] at hq
  have e1 := eq_of_beq hq.1
  have e2 := eqbK_eq hq.2
  obtain ⟨a, b⟩ := p
  subst e1 e2
  exact hp

/-- a comprehension's parts -/
theorem comp_parts (O : XOk S lv k cf N cl ns X) {own : List (Str × Nat)} {g : Tg} {ik : Itk} {args cond elt : Ex} {e : Expr} (h : (chk S N (.comp own g ik args cond elt) cl ns).e e = true)
    (iA : Snd S N k cf args cl ns X) (iC : ∀ {ns' : List (Str × NameKind)} {X' : Cx}, XOk S lv k cf N false ns' X' → Snd S N k cf cond false ns' X') (iE : ∀ {ns' : List (Str × NameKind)} {X' : Cx}, XOk S lv k cf N false ns' X' → Snd S N k cf elt false ns' X') :
    ∃ el tg iter ifs scope pos, e = .ListComp el [⟨tg, iter, ifs, 0⟩] scope pos ∧ PI X tg iter (tI X.K fun r => (ev k cf args r).l.bnd (itemsD ik)) ∧ BlkOk X.N X.env.scope scope own ∧ (∀ i ∈ slots g, i ∈ own.map (·.2)) ∧
      (∀ (s : Shared) (H : Hp) (C : Addr) (cls : List (Str × Addr)) (fp : List Addr), PG (X.blk s H scope (compEnvC scope cls C X.env) fp) tg (gTg X.K g)) ∧
      (∀ (s : Shared) (H : Hp) (C : Addr) (cls : List (Str × Addr)) (fp : List Addr), PTs (X.blk s H scope (compEnvC scope cls C X.env) fp) ifs (tCond X.K k cf cond)) ∧
      (∀ (s : Shared) (H : Hp) (C : Addr) (cls : List (Str × Addr)) (fp : List Addr), PE (X.blk s H scope (compEnvC scope cls C X.env) fp) el (tV X.K fun r => (ev k cf elt r).v)) ∧ ∀ x, foldedSetIterable iter X.env x = pure x := by
  cases e with
  | ListComp el gens scope pos =>
    cases gens with
    | nil => exact absurd h Bool.false_ne_true
    | cons gh gt =>
      obtain ⟨tg, iter, ifs, as⟩ := gh
      cases gt with
      | cons _ _ => exact absurd h Bool.false_ne_true
      | nil =>
        have h' : (decide (as = 0) && blkC N { kind := .function, names := ns, isGenerator := false, isCoroutine := false } scope own &&
          chkI S ns (chk S N args cl ns).a tg ik iter && chkT N false (relN ns scope.names) g tg && (slots g).all (fun i => (own.map (·.2)).contains i) && notSet iter && (chk S N elt false (relN ns scope.names)).e el &&
          (match (generalizing := false) ifs with
            | [] => (match (generalizing := false) cond with | .nil => true | _ => false)
            | [c] => (match (generalizing := false) cond with | .nil => false | _ => true) && (chk S N cond false (relN ns scope.names)).e c
            | _ => false)) = true := h
        simp only [Bool.and_eq_true] at h'
        obtain ⟨⟨⟨⟨⟨⟨⟨has, hblk⟩, hi⟩, ht⟩, hsl⟩, hns⟩, hel⟩, hifs⟩ := h'
        have has := of_decide_eq_true has
        subst has
        have OB := fun s H C cls fp => O.blk (blk_kind hblk) s H C cls fp
        refine ⟨el, tg, iter, ifs, scope, pos, rfl, pi_D O hi iA.a fun e he => ?_, blk_by O hblk, fun i hi => List.contains_iff_mem.mp (List.all_eq_true.mp hsl i hi), fun s H C cls fp => pg_tg (OB s H C cls fp) ht, ?_,
          fun s H C cls fp => ((iE (OB s H C cls fp)).e el hel).1, fold_set hns⟩
        · obtain ⟨g', h1, h2⟩ := iA.a1 e he
          exact ⟨g', h1, h2⟩
        · intro s H C cls fp
          cases ifs with
          | nil =>
            cases cond with
            | nil => exact pts_nil
            | _ => exact absurd hifs Bool.false_ne_true
          | cons c r =>
            cases r with
            | cons _ _ => exact absurd hifs Bool.false_ne_true
            | nil =>
              rw [Bool.and_eq_true] at hifs
              have pt := ((iC (OB s H C cls fp)).e c hifs.2).2
              cases cond with
              | nil => exact absurd hifs.1 Bool.false_ne_true
              | _ => exact pts_one pt
  | _ => exact absurd h Bool.false_ne_true

theorem genS_by {X : Cx} {scope : Scope} {x : Str} (h : genB scope x = true) : GxR.GenS X.env scope x := by
  unfold genB at h
  simp only [Bool.and_eq_true, List.all_eq_true, Bool.not_eq_true', bne_iff_ne, beq_iff_eq] at h
  obtain ⟨⟨⟨⟨h1, h2⟩, h3⟩, h4⟩, h5⟩ := h
  exact ⟨h1, h2, fun y hy => (h3 y hy).1, h4, h5, fun y hy e => absurd e (h3 y hy).2⟩
theorem tags_ok {K : PySem.W.Frag} {A : List Addr} {H : Hp} : ∀ {xs : List D} {vs : List V} {ts : List Str}, RDs K A H xs vs → tagsD xs = some ts → Tagged K H vs ts
  | [], vs, ts, h, q => by cases h; cases q; rfl
  | x :: xs, vs, ts, h, q => by
    obtain ⟨v, r, rfl, h1, h2⟩ := h
    unfold tagsD at q
    split at q
    · rename_i z; cases z
    · rename_i t w r' hx
      injection hx with hx1 hx2
      subst hx1 hx2
      rw [Option.map_eq_some_iff] at q
      obtain ⟨ts', q1, rfl⟩ := q
      obtain ⟨a, us, rfl, k1, k2⟩ := h1
      obtain ⟨u, us', rfl, k3, _⟩ := k2
      cases k3
      exact ⟨a, us', t, ts', rfl, k1, rfl, tags_ok h2 q1⟩
    · cases q
theorem any_fin {K : PySem.W.Frag} {P c : Addr} {z : Str} {f : Rho → M D} {σ : L2.St} {H : Hp} {Q : VK} (hmem : (c, P) ∈ TabsC.C)
    (q : tV K (fun r => (f r).bnd fun x m => match x with
      | .loc n => match getL m n with
        | some xs => match tagsD xs with
          | some ts => some (.bl (ts.any (· == z)), m)
          | none => none
        | none => none
      | _ => none) σ H Q) : tAnyR K P z (tV K f) σ H Q := by
  obtain ⟨A, m, r, b, m', R, S, hx, hc, q⟩ := q
  obtain ⟨d, m1, h1, h2⟩ := bnd_some hc
  refine ⟨A, m, r, d, m1, R, S, (fun _ z => nomatch z), h1, fun A1 H1 e1 R1 v hv => ?_⟩
  cases d with
  | loc n =>
    simp only at h2
    split at h2
    · rename_i xs hxs
      split at h2
      · rename_i ts hts
        cases h2
        obtain ⟨a, rfl, ha⟩ := hv
        obtain ⟨vs, k1, k2⟩ := getL_at R1 hxs ha
        refine ⟨a, vs, ts, rfl, k1, tags_ok k2 hts, R1.tab _ hmem, fun H2 hT => ?_⟩
        have E : Ext A1 H1 A1 H2 := by
          obtain ⟨hT1, hT2⟩ := hT
          obtain ⟨ps0, g1, g2⟩ := R1.tab _ hmem
          refine ⟨⟨[], by simp⟩, fun b o hb no _ => ?_, fun b h n => absurd h n, fun b xs hb => ?_, fun b o u hb => ?_, fun b ps hb => ?_, fun b hb o ho => ⟨o, by rw [hT2 b (fun e => by subst e; obtain ⟨o2, k1, k2⟩ := R1.mem hb; rw [g1] at k1; cases k1; exact k2.elim)]; exact ho, rfl⟩⟩
          · rw [hT2 b (fun e => by subst e; rw [g1] at hb; cases hb; exact no _ rfl)]; exact hb
          · rw [hT2 b (fun e => by subst e; rw [g1] at hb; cases hb)]; exact hb
          · rw [hT2 b (fun e => by subst e; rw [g1] at hb; cases hb)]; exact hb
          · by_cases e : b = P
            · subst e
              obtain ⟨ps1, k3, k4⟩ := hT1
              exact ⟨ps1, k3, fun _ => k4⟩
            · exact ⟨ps, by rw [hT2 b e]; exact hb, fun z => z⟩
        have R2 : Rl K A1 H2 m' := by
          refine ⟨R1.len, R1.nd, fun n o a h3 h4 => ?_, fun p hp => E.tabG (R1.tab p hp)⟩
          have ob := R1.ob n o a h3 h4
          cases o with
          | lst ys =>
            obtain ⟨ws, w1, w2⟩ := ob
            refine ⟨ws, ?_, w2.mono E⟩
            obtain ⟨ps0, g1, g2⟩ := R1.tab _ hmem
            rw [hT.2 a (fun e => by subst e; rw [g1] at w1; cases w1)]
            exact w1
          | dct ys =>
            obtain ⟨ws, w1, w2, w3⟩ := ob
            refine ⟨ws, ?_, w2, w3.mono E⟩
            obtain ⟨ps0, g1, g2⟩ := R1.tab _ hmem
            rw [hT.2 a (fun e => by subst e; rw [g1] at w1; cases w1)]
            exact w1
        exact q A1 H2 (e1.trans E) R2 _ rfl
      · cases h2
    · cases h2
  | non => cases h2
  | bl b => cases h2
  | int b => cases h2
  | str b => cases h2
  | tup b => cases h2
  | fz b => cases h2
  | set0 => cases h2
  | fn _ => cases h2
  | nd _ => cases h2
  | dloc _ => cases h2
theorem snil_ok {es : List Expr} (h : es.isEmpty = true) : PA X es (tL X.K fun r => (ev k cf .nil r).l) := by
  cases es with
  | nil =>
    refine PA.imp pa_nil fun σ H Q h => ?_
    obtain ⟨A, m, r, b, m', R, St, hx, hc, q⟩ := h
    cases hc
    exact q A H (Ext.refl A H) R [] rfl
  | cons _ _ => exact absurd h Bool.false_ne_true
theorem op_din {k : Nat} (hr : Room k X.A) (neg : Bool) : OpR X (compareOp (if neg then .NotIn else .In)) (r2B X.K (fun y x m => match dctAt m x y with
    | some p => some ((dvalD p.1 p.2).isSome != neg, m)
    | none => none)) := by
  intro pins s σ H v w u1 u2 Q I r1 r2 h
  obtain ⟨A, m, x, y, b, m', R, hx, hy, hb, q⟩ := h
  simp only at hb
  split at hb
  · rename_i p hp
    cases hb
    obtain ⟨a, vs, rfl, rfl, k1, k2, k3⟩ := dctAt_ok R hp hy hx
    have hg := DGet.k (k := p.2) k1
    have hs : (dvalD p.1 p.2).isSome = (valV vs p.2).isSome := by
      rcases dval_ok p.2 k2 k3 with ⟨e1, e2⟩ | ⟨d, v, e1, e2, _⟩ <;> rw [e1, e2] <;> rfl
    cases r2
    cases neg with
    | false =>
      refine d_in (hu_of hr) I hg r1 fun s3 I3 => ⟨.bl _, H, I3, rfl, ?_⟩
      rw [← hs]
      have := q A H (Ext.refl A H) R
      simpa using this
    | true =>
      refine d_notIn (hu_of hr) I hg r1 fun s3 I3 => ⟨.bl _, H, I3, rfl, ?_⟩
      rw [← hs]
      have := q A H (Ext.refl A H) R
      simpa using this
  · cases hb
theorem sound : ∀ (c : Ex) {N : List Str} {cl : Bool} {ns : List (Str × NameKind)} {X : Cx}, XOk S lv k cf N cl ns X → Snd S N k cf c cl ns X
  | .nil, N, cl, ns, X, O => ⟨fun e h => absurd h Bool.false_ne_true, fun es h => by
      cases es with
      | nil => exact ⟨PA.imp pa_nil fun σ H Q h => by
          obtain ⟨A, m, r, b, m', R, St, hx, hc, q⟩ := h
          cases hc
          exact q A H (Ext.refl A H) R [] rfl, rfl⟩
      | cons _ _ => exact absurd h Bool.false_ne_true, fun _ _ => rfl, fun e h => absurd h Bool.false_ne_true, fun es h => by
      cases es with
      | nil => exact dps_nil
      | cons _ _ => exact absurd h Bool.false_ne_true, fun es h => snil_ok h⟩
  | .scons c cs, N, cl, ns, X, O => by
      have ih1 := sound c O
      have ih2 := sound cs O
      refine ⟨fun e h => absurd h Bool.false_ne_true, fun es h => absurd h Bool.false_ne_true, fun h => absurd h Bool.false_ne_true, fun e h => absurd h Bool.false_ne_true, fun es h => absurd h Bool.false_ne_true, fun es h => ?_⟩
      cases es with
      | nil => exact absurd h Bool.false_ne_true
      | cons e es =>
        cases e with
        | Starred e ps =>
          have h' : ((chk S N c cl ns).e e && (chk S N cs cl ns).s es) = true := h
          rw [Bool.and_eq_true] at h'
          obtain ⟨p1, _⟩ := ih1.e e h'.1
          have p2 := ih2.s es h'.2
          refine PA.imp (StX.pa_star p1 p2) fun σ H Q q => ?_
          obtain ⟨A, m, r, b, m', R, St, hx, hc, q⟩ := q
          obtain ⟨d, m1, h1, h2⟩ := bnd_some hc
          split at h2
          · rename_i xs hxs
            obtain ⟨ds, m2, h3, h4⟩ := bnd_some h2
            cases h4
            refine ⟨A, m, r, d, m1, R, St, hx, h1, fun A1 H1 e1 R1 v hv => ?_⟩
            obtain ⟨a', vs, rfl, k1, k2⟩ := seqOf_at R1 hxs hv
            exact ⟨a', vs, rfl, k2.symm, A1, m1, r, ds, m', R1, St.mono e1, (fun _ z => nomatch z), h3, fun A2 H2 e2 R2 us hus => q A2 H2 (e1.trans e2) R2 (vs ++ us) ((k1.mono e2).append hus)⟩
          · cases h2
        | _ => exact absurd h Bool.false_ne_true
  | .cons c cs, N, cl, ns, X, O => by
      have ih1 := sound c O
      have ih2 := sound cs O
      refine ⟨fun e h => absurd h Bool.false_ne_true, fun es h => ?_, fun h => absurd h Bool.false_ne_true, fun e h => ?_, fun es h => ?_, fun es h => ?_⟩
      rotate_left 3
      · cases es with
        | nil => exact absurd h Bool.false_ne_true
        | cons e es =>
          have h' : (notStar e && (chk S N c cl ns).e e && (chk S N cs cl ns).s es) = true := h
          rw [Bool.and_eq_true, Bool.and_eq_true] at h'
          obtain ⟨p1, _⟩ := ih1.e e h'.1.2
          have p2 := ih2.s es h'.2
          refine PA.imp (pa_cons p1 p2 (star_cons h'.1.1)) fun σ H Q q => ?_
          obtain ⟨A, m, r, b, m', R, St, hx, hc, q⟩ := q
          obtain ⟨d, m1, h1, h2⟩ := bnd_some hc
          obtain ⟨ds, m2, h3, h4⟩ := bnd_some h2
          cases h4
          exact ⟨A, m, r, d, m1, R, St, hx, h1, fun A1 H1 e1 R1 v hv => ⟨A1, m1, r, ds, m', R1, St.mono e1, (fun _ z => nomatch z), h3, fun A2 H2 e2 R2 vs hvs => q A2 H2 (e1.trans e2) R2 (v :: vs) ⟨v, vs, rfl, hv.mono e2, hvs⟩⟩⟩
      rotate_left 2
      · cases es with
        | nil => exact absurd h Bool.false_ne_true
        | cons e es =>
          have h' : (notStar e && (chk S N c cl ns).e e && (chk S N cs cl ns).a es) = true := h
          rw [Bool.and_eq_true, Bool.and_eq_true] at h'
          exact dps_cons (ih1.e e h'.1.2).1 (ih2.d es h'.2)
      · cases es with
        | nil => exact absurd h Bool.false_ne_true
        | cons e es =>
          have h' : (notStar e && (chk S N c cl ns).e e && (chk S N cs cl ns).a es) = true := h
          rw [Bool.and_eq_true, Bool.and_eq_true] at h'
          obtain ⟨p1, _⟩ := ih1.e e h'.1.2
          obtain ⟨p2, s2⟩ := ih2.a es h'.2
          refine ⟨PA.imp (pa_cons p1 p2 (star_cons h'.1.1)) fun σ H Q q => ?_, by rw [List.all_cons, Bool.and_eq_true]; exact ⟨h'.1.1, s2⟩⟩
          obtain ⟨A, m, r, b, m', R, St, hx, hc, q⟩ := q
          obtain ⟨d, m1, h1, h2⟩ := bnd_some hc
          obtain ⟨ds, m2, h3, h4⟩ := bnd_some h2
          cases h4
          exact ⟨A, m, r, d, m1, R, St, hx, h1, fun A1 H1 e1 R1 v hv => ⟨A1, m1, r, ds, m', R1, St.mono e1, (fun _ z => nomatch z), h3, fun A2 H2 e2 R2 vs hvs => q A2 H2 (e1.trans e2) R2 (v :: vs) ⟨v, vs, rfl, hv.mono e2, hvs⟩⟩⟩
      · have h' : (notStar e && (chk S N c cl ns).e e && (chk S N cs cl ns).a []) = true := h
        rw [Bool.and_eq_true, Bool.and_eq_true] at h'
        obtain ⟨p1, _⟩ := ih1.e e h'.1.2
        refine ⟨_, p1, ?_⟩
        funext r
        show (ev k cf c r).v.bnd (fun d => (ev k cf cs r).l.bnd fun ds => .ret (d :: ds)) = _
        rw [ih2.a0 h'.2 r]
        rfl
  | .var i, N, cl, ns, X, O => .of rfl fun e h => by
      split at h
      · rename_i x p
        rw [Bool.and_eq_true, Bool.and_eq_true] at h
        obtain ⟨d1, d2⟩ := noDb_1 h.2
        refine both_den rfl (PE.imp (pe_var (by rw [O.eN]; exact eq_of_beq h.1.1) (O.vis h.1.2) d1 d2) fun σ H Q q => ?_)
        obtain ⟨A, m, r, b, m', R, St, hx, hc, q⟩ := q
        simp only at hc
        split at hc
        · rename_i d hd
          cases hc
          obtain ⟨v, e1, e2⟩ := St.at_ i _ hd
          exact ⟨v, e1, q A H (Ext.refl A H) R v e2⟩
        · cases hc
      · cases h
  | .cst d, N, cl, ns, X, O => .of rfl fun e h => by
      split at h
      · rename_i c j p
        refine both_den rfl ?_
        have fin : ∀ {v : V}, (∀ A H, RD X.K A H d v) → ∀ σ H Q, tV X.K (fun _ => M.ret d) σ H Q → tC v σ H Q := fun {v} hv σ H Q q => by
          obtain ⟨A, m, r, b, m', R, St, hx, hc, q⟩ := q
          cases hc
          exact q A H (Ext.refl A H) R v (hv A H)
        split at h
        · exact PE.imp pe_non (fin fun _ _ => rfl)
        · have := eq_of_beq h; subst this; exact PE.imp pe_bl (fin fun _ _ => rfl)
        · have := eq_of_beq h; subst this; exact PE.imp pe_int (fin fun _ _ => rfl)
        · have := eq_of_beq h; subst this; exact PE.imp pe_str (fin fun _ _ => rfl)
        · cases h
      · cases h
  | .glb x d, N, cl, ns, X, O => .of rfl fun e h => by
      split at h
      · rename_i y p
        simp only [Bool.and_eq_true] at h
        obtain ⟨⟨⟨hx, hg⟩, hd⟩, hm⟩ := h
        have hx := eq_of_beq hx
        subst hx
        obtain ⟨u, v, e1, e2, e3⟩ := O.gl _ (mem_eqb hm)
        refine both_den rfl (PE.imp (pe_glob (O.glo hg) e1 e2 (noDb_1 hd).1) fun σ H Q q => ?_)
        obtain ⟨A, m, r, b, m', R, St, hx, hc, q⟩ := q
        cases hc
        exact q A H (Ext.refl A H) R v (e3 A H)
      · cases h
  | .bin o a b, N, cl, ns, X, O => .of rfl fun e h => by
      split at h
      · simp only [Bool.and_eq_true] at h
        have ho := of_decide_eq_true h.1.1
        subst ho
        exact both_den rfl (PE.imp (pe_op (op_bin o) ((sound a O).e _ h.1.2).1 ((sound b O).e _ h.2).1) fun σ H Q q => pend_2 q)
      · cases h
  | .neg a, N, cl, ns, X, O => .of rfl fun e h => by
      split at h
      · refine both_den rfl (PE.imp (pe_un un_neg ((sound a O).e _ h).1) fun σ H Q q => ?_)
        refine (pend_1 q).imp fun A z => ?_
        obtain ⟨m, r, d, m1, R, St, hx, h1, q⟩ := z
        refine ⟨m, r, d, m1, R, St, hx, h1, fun A1 H1 e1 R1 v hv => ?_⟩
        obtain ⟨A2, m2, d2, b, m3, R2, hd, hc, q2⟩ := q A1 H1 e1 R1 v hv
        simp only at hc
        split at hc
        · cases hc
          cases hd
          exact ⟨_, rfl, q2 A2 H1 (Ext.refl _ _) R2 _ rfl⟩
        · cases hc
      · cases h
  | .cmp o a b, N, cl, ns, X, O => .of rfl fun e h => by
      split at h
      · simp only [Bool.and_eq_true] at h
        obtain ⟨⟨⟨ho, h1⟩, h2⟩, h3⟩ := h
        have ho := of_decide_eq_true ho
        subst ho
        exact both_cmp (op_cmp (O.room.mono O.lek) o) ((sound a O).e _ h1).1 ((sound b O).e _ h2).1 (marks_no h3)
      · cases h
  | .chain o o' a b c, N, cl, ns, X, O => .of rfl fun e h => by
      split at h
      · rename_i x op op' y z p
        simp only [Bool.and_eq_true] at h
        obtain ⟨⟨⟨⟨⟨ho, ho'⟩, h1⟩, h2⟩, h3⟩, h4⟩ := h
        have ho := of_decide_eq_true ho
        have ho' := of_decide_eq_true ho'
        subst ho ho'
        have hm : lastMarks [copOf o, copOf o'] [y, z] = false := marks_no h4
        have key : ∀ σ H (Q : Bool → Hp → Prop), tT X.K (fun r => (ev k cf (.chain o o' a b c) r).t) σ H Q →
            tChain (r2B X.K (cmpM k o)) (r2B X.K (cmpM k o')) (tV X.K fun r => (ev k cf a r).v) (tV X.K fun r => (ev k cf b r).v) (tV X.K fun r => (ev k cf c r).v) σ H fun z H3 => ∃ b, z = .bl b ∧ Q b H3 := by
          intro σ H Q q
          obtain ⟨A, m, r, t, m', R, St, hx, hc, q⟩ := q
          obtain ⟨d1, m1, k1, hc⟩ := bnd_some hc
          obtain ⟨d2, m2, k2, hc⟩ := bnd_some hc
          obtain ⟨t1, m3, k3, hc⟩ := bnd_some hc
          refine ⟨A, m, r, d1, m1, R, St, hx, k1, fun A1 H1 e1 R1 v1 hv1 => ⟨A1, m1, r, d2, m2, R1, St.mono e1, (fun _ z => nomatch z), k2, fun A2 H2 e2 R2 v2 hv2 => ?_⟩⟩
          refine ⟨A2, m2, d1, d2, t1, m3, R2, hv1.mono e2, hv2, k3, fun A3 H3 e3 R3 => ⟨t1, rfl, ?_⟩⟩
          cases t1 with
          | true =>
            rw [if_pos rfl] at hc ⊢
            obtain ⟨d3, m4, k4, hc⟩ := bnd_some hc
            refine ⟨A3, m3, r, d3, m4, R3, St.mono (e1.trans (e2.trans e3)), (fun _ z => nomatch z), k4, fun A4 H4 e4 R4 v3 hv3 => ?_⟩
            exact ⟨A4, m4, d2, d3, t, m', R4, hv2.mono (e3.trans e4), hv3, hc, fun A5 H5 e5 R5 => ⟨t, rfl, q A5 H5 (e1.trans (e2.trans (e3.trans (e4.trans e5)))) R5⟩⟩
          | false =>
            rw [if_neg Bool.false_ne_true] at hc ⊢
            cases hc
            exact ⟨false, rfl, q A3 H3 (e1.trans (e2.trans e3)) R3⟩
        refine ⟨PE.imp (pe_chain (op_cmp (O.room.mono O.lek) o) (op_cmp (O.room.mono O.lek) o') ((sound a O).e _ h1).1 ((sound b O).e _ h2).1 ((sound c O).e _ h3).1 hm) fun σ H Q q => ?_,
          PT.imp (pt_chain (op_cmp (O.room.mono O.lek) o) (op_cmp (O.room.mono O.lek) o') ((sound a O).e _ h1).1 ((sound b O).e _ h2).1 ((sound c O).e _ h3).1 hm) key⟩
        have q' := key σ H (fun b H => Q (.bl b) H) (pend_bl q)
        have hQ : (fun z H3 => ∃ b, z = V.bl b ∧ Q (.bl b) H3) = fun z H3 => ∃ b, z = V.bl b ∧ Q z H3 := by
          funext z H3
          apply propext
          constructor
          · rintro ⟨b, rfl, h⟩; exact ⟨b, rfl, h⟩
          · rintro ⟨b, rfl, h⟩; exact ⟨b, rfl, h⟩
        rw [hQ] at q'
        clear key q hQ
        obtain ⟨A, m, r, d1, m1, R, St, hx, k1, q⟩ := q'
        refine ⟨A, m, r, d1, m1, R, St, hx, k1, fun A1 H1 e1 R1 v1 hv1 => ?_⟩
        obtain ⟨A, m, r, d1, m1, R, St, hx, k1, q⟩ := q A1 H1 e1 R1 v1 hv1
        refine ⟨A, m, r, d1, m1, R, St, hx, k1, fun A2 H2 e2 R2 v2 hv2 => ?_⟩
        obtain ⟨A, m, x', y', b', m', R, hx1, hy1, k2, q⟩ := q A2 H2 e2 R2 v2 hv2
        refine ⟨A, m, x', y', b', m', R, hx1, hy1, k2, fun A3 H3 e3 R3 => ?_⟩
        obtain ⟨t, et, q⟩ := q A3 H3 e3 R3
        refine ⟨t, et, ?_⟩
        cases t with
        | true =>
          rw [if_pos rfl] at q ⊢
          obtain ⟨A, m, r, d1, m1, R, St, hx, k1, q⟩ := q
          refine ⟨A, m, r, d1, m1, R, St, hx, k1, fun A4 H4 e4 R4 v3 hv3 => ?_⟩
          obtain ⟨A, m, x', y', b', m', R, hx1, hy1, k2, q⟩ := q A4 H4 e4 R4 v3 hv3
          refine ⟨A, m, x', y', b', m', R, hx1, hy1, k2, fun A5 H5 e5 R5 => ?_⟩
          obtain ⟨_, _, q⟩ := q A5 H5 e5 R5
          exact q
        | false =>
          rw [if_neg Bool.false_ne_true] at q ⊢
          obtain ⟨_, _, q⟩ := q
          exact q
      · cases h
  | .and a b, N, cl, ns, X, O => .of rfl fun e h => by
      split at h
      · rename_i x y rest p
        rw [Bool.and_eq_true] at h
        obtain ⟨p1, t1⟩ := (sound a O).e _ h.1
        have hb : PE X (.BoolOp .And (y :: rest) p) (tV X.K fun r => (ev k cf b r).v) ∧ PW X (.BoolOp .And (y :: rest) p) (tT X.K fun r => (ev k cf b r).t) := by
          have h2 := h.2
          cases rest with
          | nil =>
            obtain ⟨p2, t2⟩ := (sound b O).e _ h2
            exact ⟨pe_one p2, pw_and1 t2⟩
          | cons z r =>
            obtain ⟨p2, t2⟩ := (sound b O).e _ h2
            exact ⟨p2, pw_of_pt t2⟩
        refine ⟨PE.imp (pe_andT p1 hb.1) fun σ H Q q => ?_, PT.imp (pw_and t1 hb.2).pt fun σ H Q q => ?_⟩
        · obtain ⟨A, m, r, b', m', R, St, hx, hc, q⟩ := q
          obtain ⟨d, m1, k1, hc⟩ := bnd_some hc
          obtain ⟨t, m2, k2, hc⟩ := bnd_some hc
          refine ⟨A, m, r, d, m1, R, St, hx, k1, fun A1 H1 e1 R1 v hv => ?_⟩
          unfold truthM at k2
          split at k2
          · rename_i t' ht
            cases k2
            refine ⟨t, truth_ok R1 ht hv, ?_⟩
            cases t with
            | true =>
              rw [if_pos rfl] at hc ⊢
              exact ⟨A1, _, r, b', m', R1, St.mono e1, (fun _ z => nomatch z), hc, fun A2 H2 e2 R2 => q A2 H2 (e1.trans e2) R2⟩
            | false =>
              rw [if_neg Bool.false_ne_true] at hc ⊢
              cases hc
              exact q A1 H1 e1 R1 v hv
          · cases k2
        · obtain ⟨A, m, r, b', m', R, St, hx, hc, q⟩ := q
          obtain ⟨t, m1, k1, hc⟩ := bnd_some hc
          refine ⟨A, m, r, t, m1, R, St, hx, k1, fun A1 H1 e1 R1 => ?_⟩
          cases t with
          | true => exact ⟨A1, m1, r, b', m', R1, St.mono e1, (fun _ z => nomatch z), hc, fun A2 H2 e2 R2 => q A2 H2 (e1.trans e2) R2⟩
          | false => cases hc; exact q A1 H1 e1 R1
      · cases h
  | .or a b, N, cl, ns, X, O => .of rfl fun e h => by
      split at h
      · rename_i x y rest p
        rw [Bool.and_eq_true] at h
        obtain ⟨p1, t1⟩ := (sound a O).e _ h.1
        have hb : PE X (.BoolOp .Or (y :: rest) p) (tV X.K fun r => (ev k cf b r).v) ∧ PW X (.BoolOp .Or (y :: rest) p) (tT X.K fun r => (ev k cf b r).t) := by
          have h2 := h.2
          cases rest with
          | nil =>
            obtain ⟨p2, t2⟩ := (sound b O).e _ h2
            exact ⟨pe_one p2, pw_or1 t2⟩
          | cons z r =>
            obtain ⟨p2, t2⟩ := (sound b O).e _ h2
            exact ⟨p2, pw_of_pt t2⟩
        refine ⟨PE.imp (pe_orT p1 hb.1) fun σ H Q q => ?_, PT.imp (pw_or t1 hb.2).pt fun σ H Q q => ?_⟩
        · obtain ⟨A, m, r, b', m', R, St, hx, hc, q⟩ := q
          obtain ⟨d, m1, k1, hc⟩ := bnd_some hc
          obtain ⟨t, m2, k2, hc⟩ := bnd_some hc
          refine ⟨A, m, r, d, m1, R, St, hx, k1, fun A1 H1 e1 R1 v hv => ?_⟩
          unfold truthM at k2
          split at k2
          · rename_i t' ht
            cases k2
            refine ⟨t, truth_ok R1 ht hv, ?_⟩
            cases t with
            | true =>
              rw [if_pos rfl] at hc ⊢
              cases hc
              exact q A1 H1 e1 R1 v hv
            | false =>
              rw [if_neg Bool.false_ne_true] at hc ⊢
              exact ⟨A1, _, r, b', m', R1, St.mono e1, (fun _ z => nomatch z), hc, fun A2 H2 e2 R2 => q A2 H2 (e1.trans e2) R2⟩
          · cases k2
        · obtain ⟨A, m, r, b', m', R, St, hx, hc, q⟩ := q
          obtain ⟨t, m1, k1, hc⟩ := bnd_some hc
          refine ⟨A, m, r, t, m1, R, St, hx, k1, fun A1 H1 e1 R1 => ?_⟩
          cases t with
          | true => cases hc; exact q A1 H1 e1 R1
          | false => exact ⟨A1, m1, r, b', m', R1, St.mono e1, (fun _ z => nomatch z), hc, fun A2 H2 e2 R2 => q A2 H2 (e1.trans e2) R2⟩
      · cases h
  | .not a, N, cl, ns, X, O => .of rfl fun e h => by
      split at h
      · obtain ⟨p1, t1⟩ := (sound a O).e _ h
        refine ⟨PE.imp (pe_notT p1) fun σ H Q q => ?_, PT.imp (pt_not t1) fun σ H Q q => ?_⟩
        · obtain ⟨A, m, r, b', m', R, St, hx, hc, q⟩ := q
          obtain ⟨d, m1, k1, hc⟩ := bnd_some hc
          obtain ⟨t, m2, k2, hc⟩ := bnd_some hc
          cases hc
          refine ⟨A, m, r, d, m1, R, St, hx, k1, fun A1 H1 e1 R1 v hv => ?_⟩
          unfold truthM at k2
          split at k2
          · rename_i t' ht
            cases k2
            exact ⟨t, truth_ok R1 ht hv, q A1 H1 e1 R1 _ rfl⟩
          · cases k2
        · obtain ⟨A, m, r, b', m', R, St, hx, hc, q⟩ := q
          obtain ⟨t, m1, k1, hc⟩ := bnd_some hc
          cases hc
          exact ⟨A, m, r, t, _, R, St, hx, k1, fun A1 H1 e1 R1 => q A1 H1 e1 R1⟩
      · cases h
  | .ifx c a b, N, cl, ns, X, O => .of rfl fun e h => by
      split at h
      · simp only [Bool.and_eq_true] at h
        refine ⟨PE.imp (pe_ifExp ((sound c O).e _ h.1.1).2 ((sound a O).e _ h.1.2).1 ((sound b O).e _ h.2).1) fun σ H Q q => ?_, pt_no⟩
        obtain ⟨A, m, r, b', m', R, St, hx, hc, q⟩ := q
        obtain ⟨t, m1, k1, hc⟩ := bnd_some hc
        refine ⟨A, m, r, t, m1, R, St, hx, k1, fun A1 H1 e1 R1 => ?_⟩
        cases t with
        | true => exact ⟨A1, m1, r, b', m', R1, St.mono e1, (fun _ z => nomatch z), hc, fun A2 H2 e2 R2 => q A2 H2 (e1.trans e2) R2⟩
        | false => exact ⟨A1, m1, r, b', m', R1, St.mono e1, (fun _ z => nomatch z), hc, fun A2 H2 e2 R2 => q A2 H2 (e1.trans e2) R2⟩
      · cases h
  | .tup es, N, cl, ns, X, O => .of rfl fun e h => by
      split at h
      · obtain ⟨pa, _⟩ := (sound es O).a _ h
        refine both_den rfl (PE.imp (pe_tup pa) fun σ H Q q => ?_)
        obtain ⟨A, m, r, b', m', R, St, hx, hc, q⟩ := q
        obtain ⟨ds, m1, k1, hc⟩ := bnd_some hc
        refine ⟨A, m, r, ds, m1, R, St, hx, k1, fun A1 H1 e1 R1 vs hv => ?_⟩
        unfold newT at hc
        split at hc
        · cases hc
          exact ⟨by rw [hv.length]; assumption, fun p hp => tup_fin R1 hv (fun A2 H2 e2 R2 => q A2 H2 (e1.trans e2) R2) hp⟩
        · cases hc
      · cases h
  | .lst es, N, cl, ns, X, O => .of rfl fun e h => by
      split at h
      · obtain ⟨pa, _⟩ := (sound es O).a _ h
        refine both_den rfl (PE.imp (pe_lst pa) fun σ H Q q => ?_)
        obtain ⟨A, m, r, b', m', R, St, hx, hc, q⟩ := q
        obtain ⟨ds, m1, k1, hc⟩ := bnd_some hc
        refine ⟨A, m, r, ds, m1, R, St, hx, k1, fun A1 H1 e1 R1 vs hv => ?_⟩
        unfold newL at hc
        split at hc
        · cases hc
          exact ⟨by rw [hv.length]; assumption, fun p hp => alloc_fin R1 hv (fun A2 H2 e2 R2 => q A2 H2 (e1.trans e2) R2) hp⟩
        · cases hc
      · cases h
  | .idx a i, N, cl, ns, X, O => .of rfl fun e h => by
      split at h
      · simp only [Bool.and_eq_true] at h
        exact both_den rfl (PE.imp (pe_ix ix_D ((sound a O).e _ h.1.1).1 ((sound i O).e _ h.1.2).1 (plainIx h.2)) fun σ H Q q => pend_2 q)
      · cases h
  | .slc a lo hi, N, cl, ns, X, O => .of rfl fun e h => by
      split at h
      · rename_i x l hh p1 p2
        simp only [Bool.and_eq_true] at h
        have part : ∀ (c : Ex) (o : Option Expr), Snd S N k cf c cl ns X → (chk S N c cl ns).a o.toList = true →
            PO X o (fun σ H Q => Pend X.K σ H [] (fun r => (ev k cf c r).l) fun A H _ ds => ∃ o, ptO ds = some o ∧ Q o H) := by
          intro c o sc ho
          cases o with
          | none =>
            have e0 := sc.a0 ho
            refine ⟨fun pins s σ H Q I q => po_none.run pins s σ H Q I ?_⟩
            obtain ⟨A, m, r, b', m', R, St, hx, hc, q⟩ := q
            simp only at hc
            rw [e0 r] at hc
            cases hc
            obtain ⟨o, ho, q⟩ := q A H (Ext.refl A H) R
            cases ho
            exact q
          | some e =>
            obtain ⟨g, pg, eg⟩ := sc.a1 e ho
            refine ⟨fun pins s σ H Q I q => (po_some pg).run pins s σ H Q I ?_⟩
            obtain ⟨A, m, r, b', m', R, St, hx, hc, q⟩ := q
            have hc' : ((g r).bnd fun d => M.ret [d]) m = some (b', m') := by rw [← hc]; exact (congrFun (congrFun eg r) m).symm
            obtain ⟨d, m1, k1, hc'⟩ := bnd_some hc'
            cases hc'
            refine ⟨A, m, r, d, m', R, St, hx, k1, fun A1 H1 e1 R1 v hv => ?_⟩
            obtain ⟨o, ho, q⟩ := q A1 H1 e1 R1
            cases d with
            | int i => cases hv; cases ho; exact ⟨i, rfl, q⟩
            | _ => cases ho
        refine both_den rfl (PE.imp (pe_slice sl_D ((sound a O).e _ h.1.1).1 (part lo l (sound lo O) h.1.2) (part hi hh (sound hi O) h.2)) fun σ H Q q => ?_)
        obtain ⟨A, m, r, b', m', R, St, hx, hc, q⟩ := q
        obtain ⟨d, m1, k1, hc⟩ := bnd_some hc
        obtain ⟨l1, m2, k2, hc⟩ := bnd_some hc
        obtain ⟨l2, m3, k3, hc⟩ := bnd_some hc
        split at hc
        · rename_i o1 o2 ho1 ho2
          refine ⟨A, m, r, d, m1, R, St, hx, k1, fun A1 H1 e1 R1 v hv => ⟨A1, m1, r, l1, m2, R1, St.mono e1, (fun _ z => nomatch z), k2, fun A2 H2 e2 R2 => ⟨o1, ho1, ?_⟩⟩⟩
          refine ⟨A2, m2, r, l2, m3, R2, St.mono (e1.trans e2), (fun _ z => nomatch z), k3, fun A3 H3 e3 R3 => ⟨o2, ho2, ?_⟩⟩
          exact ⟨A3, m3, d, b', m', R3, hv.mono (e2.trans e3), hc, fun A4 H4 e4 R4 => q A4 H4 (e1.trans (e2.trans (e3.trans e4))) R4⟩
        · cases hc
      · cases h
  | .rvs a, N, cl, ns, X, O => .of rfl fun e h => by
      split at h
      · rename_i x i j p1 p2 p3 p4
        rw [Bool.and_eq_true] at h
        have hi := eq_of_beq h.1
        subst hi
        have pa := ((sound a O).e _ h.2).1
        refine both_den rfl ⟨fun pins s σ H Q I q => ?_⟩
        obtain ⟨A, m, r, b', m', R, St, hx, hc, q⟩ := q
        obtain ⟨d, m1, k1, hc⟩ := bnd_some hc
        split at hc
        · split at hc
          · rename_i n xs hg
            cases hc
            refine (pe_revL pa).run pins s σ H Q I ⟨A, m, r, _, m1, R, St, hx, k1, fun A1 H1 e1 R1 v hv => ?_⟩
            obtain ⟨a', rfl, ha⟩ := hv
            obtain ⟨vs, g1, g2⟩ := getL_at R1 hg ha
            exact ⟨a', vs, rfl, SqL.of g1, fun p hp => alloc_fin R1 g2.reverse (fun A2 H2 e2 R2 => q A2 H2 (e1.trans e2) R2) hp⟩
          · cases hc
        · cases hc
          refine (pe_revT pa).run pins s σ H Q I ⟨A, m, r, _, _, R, St, hx, k1, fun A1 H1 e1 R1 v hv => ?_⟩
          obtain ⟨a', vs, rfl, g1, g2⟩ := hv
          exact ⟨a', vs, rfl, g1, fun p hp => tup_fin R1 g2.reverse (fun A2 H2 e2 R2 => q A2 H2 (e1.trans e2) R2) hp⟩
        · cases hc
      · cases h
  | .call f es, N, cl, ns, X, O => .of rfl fun e h => by
      split at h
      · rename_i x p y ys pos
        simp only [Bool.and_eq_true] at h
        obtain ⟨⟨⟨⟨hx, hf⟩, hg⟩, hd⟩, ha⟩ := h
        have hx := eq_of_beq hx
        subst hx
        obtain ⟨fa, fd, ps, m1, m2, m3, m4⟩ := O.fn _ (List.contains_iff_mem.mp hf)
        obtain ⟨pa, sa⟩ := (sound es O).a _ ha
        rw [List.all_cons, Bool.and_eq_true] at sa
        refine both_den rfl (PE.imp (pe_call m4 O.room (O.glo hg) m1 m2 m3 .nil (E := E0) pass0 pa (noDb_1 hd).1 (star_cons sa.1) (back_any sa.2)) fun σ H Q q => ?_)
        obtain ⟨A, m, r, b', m', R, St, hx, hc, q⟩ := q
        obtain ⟨ds, m5, k1, hc⟩ := bnd_some hc
        refine ⟨A, m, r, ds, m5, R, St, hx, k1, fun A1 H1 e1 R1 vs hv => ?_⟩
        exact (⟨A1, m5, ds, b', m', R1, by rw [List.append_nil]; exact hv, hc, fun A2 H2 e2 R2 => q A2 H2 (e1.trans e2) R2⟩ : spD X.K (cf x) (vs ++ []) H1 Q E0)
      · cases h
  | .blt b es, N, cl, ns, X, O => .of rfl fun e h => by
      split at h
      · rename_i x p y ys pos
        simp only [Bool.and_eq_true] at h
        obtain ⟨⟨⟨hx, hf⟩, hg⟩, ha⟩ := h
        have hx := eq_of_beq hx
        subst hx
        have m1 := O.blt _ (List.contains_iff_mem.mp hf)
        obtain ⟨pa, sa⟩ := (sound es O).a _ ha
        rw [List.all_cons, Bool.and_eq_true] at sa
        have pe : PE X (.Call (.Name (bltN b) p) (y :: ys) [] pos) (tCB (rC X.K (bltD b)) (tL X.K fun r => (ev k cf es r).l)) := by
          have hc := call_blt O.calm b
          cases b with
          | len => exact pe_callB hc (O.glo hg) m1 (by decide +kernel) pa (by decide) (by decide) (star_cons sa.1) (back_any sa.2)
          | min => exact pe_callB hc (O.glo hg) m1 (by decide +kernel) pa (by decide) (by decide) (star_cons sa.1) (back_any sa.2)
          | all => exact pe_callB hc (O.glo hg) m1 (by decide +kernel) pa (by decide) (by decide) (star_cons sa.1) (back_any sa.2)
          | sum => exact pe_callB hc (O.glo hg) m1 (by decide +kernel) pa (by decide) (by decide) (star_cons sa.1) (back_any sa.2)
          | int => exact pe_callTy hc (O.glo hg) m1 (by decide +kernel) pa (by decide) (by decide) (star_cons sa.1) (back_any sa.2)
          | tuple => exact pe_callTy hc (O.glo hg) m1 (by decide +kernel) pa (by decide) (by decide) (star_cons sa.1) (back_any sa.2)
          | list => exact pe_callTy hc (O.glo hg) m1 (by decide +kernel) pa (by decide) (by decide) (star_cons sa.1) (back_any sa.2)
          | dict => exact pe_callTy hc (O.glo hg) m1 (by decide +kernel) pa (by decide) (by decide) (star_cons sa.1) (back_any sa.2)
        refine both_den rfl (PE.imp pe fun σ H Q q => ?_)
        obtain ⟨A, m, r, b', m', R, St, hx, hc, q⟩ := q
        obtain ⟨ds, m5, k1, hc⟩ := bnd_some hc
        exact ⟨A, m, r, ds, m5, R, St, hx, k1, fun A1 H1 e1 R1 vs hv => ⟨A1, m5, ds, b', m', R1, hv, hc, fun A2 H2 e2 R2 => q A2 H2 (e1.trans e2) R2⟩⟩
      · cases h
  | .meth f o es, N, cl, ns, X, O => .of rfl fun e h => by
      split at h
      · rename_i x nm ap ys cp
        simp only [Bool.and_eq_true] at h
        obtain ⟨⟨⟨⟨⟨hn, hcl⟩, hl⟩, ho⟩, ha⟩, hf⟩ := h
        have hn := eq_of_beq hn
        subst hn
        have po := ((sound o O).e _ ho).1
        obtain ⟨pa, sa⟩ := (sound es O).a _ ha
        have few : ∀ (y : Expr) (r : List Expr), r = [] → notStar y = true → ((backTo cp (starEach [y] X.env)).all (fun x => !x.1) && (backToKw cp (keywordEach [] X.env)).all (fun x => x.1.isSome)
            && decide ([y].length + ([] : List Keyword).length + (if ([] : List Keyword).isEmpty then 0 else 1) < 30)) = true := by
          intro y r _ hy
          rw [star_cons hy]
          rfl
        cases f with
        | pop =>
          cases ys with
          | cons _ _ => exact absurd hf Bool.false_ne_true
          | nil =>
            refine both_den rfl (PE.imp (pe_bm0 PySem.F.plainAttrs_list PySem.F.slot_list_pop PySem.F.type_list_pop mt_D_pop po (abase hcl) hl) fun σ H Q q => ?_)
            obtain ⟨A, m, r, b', m', R, St, hx, hc, q⟩ := q
            obtain ⟨d, m1, k1, hc⟩ := bnd_some hc
            obtain ⟨ds, m2, k2, hc⟩ := bnd_some hc
            rw [(sound es O).a0 ha r] at k2
            cases k2
            refine ⟨A, m, r, d, _, R, St, hx, k1, fun A1 H1 e1 R1 v hv => ⟨?_, A1, _, d, [], b', m', R1, hv, rfl, hc, fun A2 H2 e2 R2 => q A2 H2 (e1.trans e2) R2⟩⟩
            cases d with
            | loc n =>
              obtain ⟨a', rfl, h1, o1, w1, w2⟩ := hv
              obtain ⟨ws, rfl⟩ := kind_lst w2
              exact .inl ⟨rfl, ws, SqL.of w1⟩
            | _ => cases hc
        | append =>
          cases ys with
          | nil => exact absurd hf Bool.false_ne_true
          | cons y r =>
            cases r with
            | cons _ _ => exact absurd hf Bool.false_ne_true
            | nil =>
              rw [List.all_cons, Bool.and_eq_true] at sa
              refine both_den rfl (PE.imp (pe_bm PySem.F.plainAttrs_list PySem.F.slot_list_append PySem.F.type_list_append mt_D_append po pa (abase hcl) (few y [] rfl sa.1) hl (star_cons sa.1) rfl) fun σ H Q q => ?_)
              obtain ⟨A, m, r, b', m', R, St, hx, hc, q⟩ := q
              obtain ⟨d, m1, k1, hc⟩ := bnd_some hc
              obtain ⟨ds, m2, k2, hc⟩ := bnd_some hc
              refine ⟨A, m, r, d, m1, R, St, hx, k1, fun A1 H1 e1 R1 v hv => ⟨?_, A1, m1, r, ds, m2, R1, St.mono e1, (fun _ z => nomatch z), k2, fun A2 H2 e2 R2 vs hvs =>
                ⟨A2, m2, d, ds, b', m', R2, hv.mono e2, hvs, hc, fun A3 H3 e3 R3 => q A3 H3 (e1.trans (e2.trans e3)) R3⟩⟩⟩
              obtain ⟨n, _, _, rfl, _⟩ := inv_append hc
              obtain ⟨a', rfl, h1, o1, w1, w2⟩ := hv
              obtain ⟨ws, rfl⟩ := kind_lst w2
              exact .inl ⟨rfl, ws, SqL.of w1⟩
        | extend =>
          cases ys with
          | nil => exact absurd hf Bool.false_ne_true
          | cons y r =>
            cases r with
            | cons _ _ => exact absurd hf Bool.false_ne_true
            | nil =>
              rw [List.all_cons, Bool.and_eq_true] at sa
              refine both_den rfl (PE.imp (pe_bm PySem.F.plainAttrs_list PySem.F.slot_list_extend PySem.F.type_list_extend mt_D_extend po pa (abase hcl) (few y [] rfl sa.1) hl (star_cons sa.1) rfl) fun σ H Q q => ?_)
              obtain ⟨A, m, r, b', m', R, St, hx, hc, q⟩ := q
              obtain ⟨d, m1, k1, hc⟩ := bnd_some hc
              obtain ⟨ds, m2, k2, hc⟩ := bnd_some hc
              refine ⟨A, m, r, d, m1, R, St, hx, k1, fun A1 H1 e1 R1 v hv => ⟨?_, A1, m1, r, ds, m2, R1, St.mono e1, (fun _ z => nomatch z), k2, fun A2 H2 e2 R2 vs hvs =>
                ⟨A2, m2, d, ds, b', m', R2, hv.mono e2, hvs, hc, fun A3 H3 e3 R3 => q A3 H3 (e1.trans (e2.trans e3)) R3⟩⟩⟩
              obtain ⟨n, _, _, rfl, _⟩ := inv_extend hc
              obtain ⟨a', rfl, h1, o1, w1, w2⟩ := hv
              obtain ⟨ws, rfl⟩ := kind_lst w2
              exact .inl ⟨rfl, ws, SqL.of w1⟩
        | join =>
          cases ys with
          | nil => exact absurd hf Bool.false_ne_true
          | cons y r =>
            cases r with
            | cons _ _ => exact absurd hf Bool.false_ne_true
            | nil =>
              rw [List.all_cons, Bool.and_eq_true] at sa
              refine both_den rfl (PE.imp (pe_bm PySem.F.plainAttrs_str PySem.F.slot_str_join PySem.F.type_str_join mt_D_join po pa (abase hcl) (few y [] rfl sa.1) hl (star_cons sa.1) rfl) fun σ H Q q => ?_)
              obtain ⟨A, m, r, b', m', R, St, hx, hc, q⟩ := q
              obtain ⟨d, m1, k1, hc⟩ := bnd_some hc
              obtain ⟨ds, m2, k2, hc⟩ := bnd_some hc
              refine ⟨A, m, r, d, m1, R, St, hx, k1, fun A1 H1 e1 R1 v hv => ⟨?_, A1, m1, r, ds, m2, R1, St.mono e1, (fun _ z => nomatch z), k2, fun A2 H2 e2 R2 vs hvs =>
                ⟨A2, m2, d, ds, b', m', R2, hv.mono e2, hvs, hc, fun A3 H3 e3 R3 => q A3 H3 (e1.trans (e2.trans e3)) R3⟩⟩⟩
              obtain ⟨a, _, _, _, rfl, _⟩ := inv_join hc
              cases hv
              exact rfl
        | tindex =>
          cases ys with
          | nil => exact absurd hf Bool.false_ne_true
          | cons y r =>
            cases r with
            | cons _ _ => exact absurd hf Bool.false_ne_true
            | nil =>
              rw [List.all_cons, Bool.and_eq_true] at sa
              have hun := O.room.un
              refine both_den rfl (PE.imp (pe_bmN PySem.F.plainAttrs_tuple PySem.F.slot_tuple_index PySem.F.type_tuple_index (mt_D_tindex (by omega)) po pa (abase hcl) (few y [] rfl sa.1) hl (star_cons sa.1) rfl) fun σ H Q q => ?_)
              obtain ⟨A, m, r, b', m', R, St, hx, hc, q⟩ := q
              obtain ⟨d, m1, k1, hc⟩ := bnd_some hc
              obtain ⟨ds, m2, k2, hc⟩ := bnd_some hc
              refine ⟨A, m, r, d, m1, R, St, hx, k1, fun A1 H1 e1 R1 v hv => ⟨?_, A1, m1, r, ds, m2, R1, St.mono e1, (fun _ z => nomatch z), k2, fun A2 H2 e2 R2 vs hvs =>
                ⟨A2, m2, d, ds, b', m', R2, hv.mono e2, hvs, hc, fun A3 H3 e3 R3 => q A3 H3 (e1.trans (e2.trans e3)) R3⟩⟩⟩
              obtain ⟨xs, _, _, rfl, _⟩ := inv_tindex hc
              exact hv.1
      · cases h
  | .isi a t, N, cl, ns, X, O => .of rfl fun e h => by
      split at h
      · rename_i f p x ty p2 pos
        simp only [Bool.and_eq_true] at h
        obtain ⟨⟨⟨⟨⟨⟨⟨⟨hf, hb⟩, hg⟩, ht⟩, hty⟩, hb2⟩, hg2⟩, hs⟩, hx⟩ := h
        have hf := eq_of_beq hf
        have hty := eq_of_beq hty
        subst hf hty
        have pa := ((sound a O).e _ hx).1
        have m1 := O.blt _ (List.contains_iff_mem.mp hb)
        have m2 := O.blt _ (List.contains_iff_mem.mp hb2)
        have pt : PE X (.Name (Str.ofString t) p2) (tC (.ty t)) := by
          have ht' : t = "int" ∨ t = "bool" ∨ t = "str" ∨ t = "tuple" ∨ t = "list" := by
            simpa [tyN] using ht
          rcases ht' with rfl | rfl | rfl | rfl | rfl <;> exact pe_bltn (O.glo hg2) m2 (by decide +kernel) rfl
        refine both_den rfl (PE.imp (pe_callB call_isi (O.glo hg) m1 (by decide +kernel) (pa_cons pa (pa_cons pt pa_nil (by rfl)) (star_cons hs)) (by decide) (by decide) (star_cons hs) (by rfl)) fun σ H Q q => ?_)
        refine (pend_1 q).imp fun A z => ?_
        obtain ⟨m, r, d, m1, R, St, hx, h1, q⟩ := z
        refine ⟨m, r, d, m1, R, St, hx, h1, fun A1 H1 e1 R1 v hv => ?_⟩
        obtain ⟨A2, m2, d2, b, m3, R2, hd, hc, q2⟩ := q A1 H1 e1 R1 v hv
        simp only at hc
        split at hc
        · rename_i c hc'
          cases hc
          exact ⟨v, .ty t, .type (tyD d2), .type t, c, rfl, .ty t, isi_ok R2 hc' hd, kit_ty (isi_kit ht hc'), q2 A2 H1 (Ext.refl _ _) R2 _ rfl⟩
        · cases hc
      · cases h
  | .comp own g ik args cond elt, N, cl, ns, X, O => .of rfl fun e h => by
      obtain ⟨el, tg, iter, ifs, scope, pos, rfl, pi, bo, hsl, pg, pts, pel, fs⟩ := comp_parts O h (sound args O) (fun O' => sound cond O') (fun O' => sound elt O')
      have pe : PE X _ (tV X.K fun r => (ev k cf (.comp own g ik args cond elt) r).v) := PE.imp (pe_lc (pos := pos) (elt := el) O.calm (by rw [O.eN]; exact O.nd) pi bo pg pts pel fs) fun σ H Q q => comp_ok hsl q
      have et : (fun r => (ev k cf (.comp own g ik args cond elt) r).t) = fun r => ((ev k cf (.comp own g ik args cond elt) r).v).bnd truthM := by
        funext r
        unfold ev den
        rfl
      rw [et]
      exact ⟨pe, pt_den rfl pe⟩
  | .gget x kvs i, N, cl, ns, X, O => .of rfl fun e h => by
      split at h
      · rename_i y p z p2
        simp only [Bool.and_eq_true] at h
        obtain ⟨⟨⟨⟨⟨hx, hg⟩, hd⟩, hm⟩, hz⟩, hsl⟩ := h
        have hx := eq_of_beq hx
        subst hx
        obtain ⟨a, m1, es, n, kd, hk⟩ := O.gd _ (mem_eqk hm)
        refine both_den rfl (PE.imp (pe_ix ix_kdict (pe_glob (v := .ref a) (O.glo hg) m1 rfl (noDb_1 hd).1) ((sound i O).e _ hz).1 (plainIx hsl)) fun σ H Q q => ?_)
        refine (pend_1 q).imp fun A z => ?_
        obtain ⟨m, r, d, m1, R, St, hx, h1, q⟩ := z
        refine ⟨m, r, d, m1, R, St, hx, h1, fun A1 H1 e1 R1 v hv => ?_⟩
        obtain ⟨A2, m2, d2, b, m3, R2, hd, hc, q2⟩ := q A1 H1 e1 R1 v hv
        simp only at hc
        split at hc
        · rename_i z'
          cases hd
          split at hc
          · rename_i d' hl
            cases hc
            have := hk z'
            rw [hl] at this
            obtain ⟨u, v, k1, k2, k3⟩ := this
            exact ⟨a, z', v, rfl, rfl, ⟨es, n, u, kd.at_, kd.lit, k1, k2⟩, q2 A2 H1 (Ext.refl _ _) R2 _ (k3 _ _)⟩
          · cases hc
        · cases hc
      · cases h
  | .gin neg x kvs i, N, cl, ns, X, O => .of rfl fun e h => by
      split at h
      · rename_i z op y p2 p
        simp only [Bool.and_eq_true] at h
        obtain ⟨⟨⟨⟨⟨ho, hx⟩, hg⟩, hd⟩, hm⟩, hz⟩ := h
        have hx := eq_of_beq hx
        have ho := of_decide_eq_true ho
        subst hx ho
        obtain ⟨a, m1, es, n, kd, hk⟩ := O.gd _ (mem_eqk hm)
        have pz := ((sound i O).e _ hz).1
        have py : PE X (.Name y p2) (tC (.ref a)) := pe_glob (v := .ref a) (O.glo hg) m1 rfl (noDb_1 hd).1
        have op : OpR X (compareOp (if neg then .NotIn else .In)) (fun v w H Q => ∃ z : Str, v = .str z ∧ w = .ref a ∧ Q (.bl ((kvs.lookup z).isSome != neg)) H) := by
          have some_case : ∀ z : Str, ∃ r : Option Value, PySem.W.nsIn X.K a z = some r ∧ r.isSome = (kvs.lookup z).isSome := by
            intro z
            have := hk z
            split at this
            · rename_i d' hl
              obtain ⟨u, v, k1, _⟩ := this
              exact ⟨_, k1, by rw [hl]; rfl⟩
            · rename_i hl
              exact ⟨_, this, by rw [hl]; rfl⟩
          intro pins s σ H v w u1 u2 Q I r1 r2 ⟨z, e1, e2, q⟩
          obtain ⟨r, k1, k2⟩ := some_case z
          cases neg with
          | false => exact op_in_kd kd pins s σ H v w u1 u2 Q I r1 r2 ⟨z, r, e1, e2, k1, by rw [k2]; simpa using q⟩
          | true => exact op_notIn_kd kd pins s σ H v w u1 u2 Q I r1 r2 ⟨z, r, e1, e2, k1, by rw [k2]; simpa using q⟩
        have key : ∀ σ H (Q : Bool → Hp → Prop), tT X.K (fun r => (ev k cf (.gin neg y kvs i) r).t) σ H Q → (tOp (fun v w H Q => ∃ z : Str, v = .str z ∧ w = .ref a ∧ Q (.bl ((kvs.lookup z).isSome != neg)) H) (tV X.K fun r => (ev k cf i r).v) (tC (.ref a))) σ H fun z H3 => ∃ b, z = .bl b ∧ Q b H3 := by
          intro σ H Q q
          obtain ⟨A, m, r, t, m', R, St, hx, hc, q⟩ := q
          obtain ⟨d1, m1, k1, hc⟩ := bnd_some hc
          refine ⟨A, m, r, d1, m1, R, St, hx, k1, fun A1 H1 e1 R1 v1 hv1 => ?_⟩
          split at hc
          · rename_i z'
            cases hc
            cases hv1
            exact ⟨z', rfl, rfl, _, rfl, q A1 H1 e1 R1⟩
          · cases hc
        have nm : behindInMarks (if neg then CmpOp.NotIn else CmpOp.In) (.Name y p2) = false := rfl
        refine ⟨PE.imp (pe_cmpR op pz py nm) fun σ H Q q => ?_, PT.imp (pt_cmpR op pz py nm) key⟩
        have q' := key σ H (fun b H => Q (.bl b) H) (pend_bl q)
        have hQ : (fun z H3 => ∃ b, z = V.bl b ∧ Q (.bl b) H3) = fun z H3 => ∃ b, z = V.bl b ∧ Q z H3 := by
          funext z H3
          apply propext
          constructor
          · rintro ⟨b, rfl, h⟩; exact ⟨b, rfl, h⟩
          · rintro ⟨b, rfl, h⟩; exact ⟨b, rfl, h⟩
        rw [hQ] at q'
        obtain ⟨A, m, r, d1, m1', R, St, hx, k1, q⟩ := q'
        refine ⟨A, m, r, d1, m1', R, St, hx, k1, fun A1 H1 e1 R1 v1 hv1 => ?_⟩
        obtain ⟨z, e1', e2', b, e3', q⟩ := q A1 H1 e1 R1 v1 hv1
        exact ⟨z, e1', e2', q⟩
      · cases h
  | .dsub ks vs i, N, cl, ns, X, O => .of rfl fun e h => by
      split at h
      · simp only [Bool.and_eq_true, Bool.not_eq_true', decide_eq_true_eq] at h
        obtain ⟨⟨⟨⟨⟨⟨⟨hk, hl⟩, h0⟩, h15⟩, hn⟩, hv⟩, hz⟩, hsl⟩ := h
        exact both_den rfl (dsub_ok (Nat.lt_of_le_of_lt (Nat.add_le_add_left (by decide : 1 ≤ 64) _) O.room.units) ((sound vs O).d _ hv) ((sound i O).e _ hz).1 hk hl (by intro e; rw [e] at h0; cases h0) h15 hn (plainIx hsl))
      · cases h
  | .anyR z a, N, cl, ns, X, O => .of rfl fun e h => by
      split at h
      · rename_i f pf x p1 p2 j1 p3 p4 y j2 p5 p6 x2 px g pg b pc as scope gpos pos
        simp only [Bool.and_eq_true, decide_eq_true_eq] at h
        obtain ⟨⟨⟨⟨⟨⟨⟨⟨⟨⟨⟨⟨⟨⟨has, hf⟩, hg⟩, hy⟩, hx⟩, hdb⟩, hb1⟩, hb2⟩, hg1⟩, hg2⟩, hgen⟩, hcl⟩, hS⟩, hstar⟩, hb⟩ := h
        have hf := eq_of_beq hf
        have hg := eq_of_beq hg
        have hy := eq_of_beq hy
        have hx := eq_of_beq hx
        subst has hf hg hy hx
        obtain ⟨⟨c, P⟩, hmem, hcode, TB⟩ := O.tab ⟨hgen, hcl⟩
        have bl := fun x hx => O.blt x (List.contains_iff_mem.mp hx)
        refine both_den rfl (PE.imp (pe_anyR O.room (O.glo hg1) (bl _ hb1) TB hcode (genS_by hS) (noDb_1 hdb).1 (O.glo hg2) (bl _ hb2) ((sound a O).e _ hb).1 (by rw [star_cons hstar]; rfl)) fun σ H Q q => ?_)
        exact any_fin (P := P) hmem q
      · cases h
  | .tupM es, N, cl, ns, X, O => .of rfl fun e h => by
      split at h
      · have pa := (sound es O).s _ h
        refine both_den rfl (PE.imp (pe_tup pa) fun σ H Q q => ?_)
        obtain ⟨A, m, r, b', m', R, St, hx, hc, q⟩ := q
        obtain ⟨ds, m1, k1, hc⟩ := bnd_some hc
        refine ⟨A, m, r, ds, m1, R, St, hx, k1, fun A1 H1 e1 R1 vs hv => ?_⟩
        unfold newT at hc
        split at hc
        · cases hc
          exact ⟨by rw [hv.length]; assumption, fun p hp => tup_fin R1 hv (fun A2 H2 e2 R2 => q A2 H2 (e1.trans e2) R2) hp⟩
        · cases hc
      · cases h
  | .fstr pre a, N, cl, ns, X, O => .of rfl fun e h => by
      split at h
      · rename_i z j p1 x c p2 p3
        simp only [Bool.and_eq_true, decide_eq_true_eq] at h
        obtain ⟨⟨hz, hc1⟩, ha⟩ := h
        have hz := eq_of_beq hz
        subst hz hc1
        have pa := ((sound a O).e _ ha).1
        refine both_den rfl (PE.imp (pe_joined (.cons (pe_str (x := z)) (.cons (pe_fmt pa) .nil))) fun σ H Q q => ?_)
        obtain ⟨A, m, r, b', m', R, St, hx, hc, q⟩ := q
        obtain ⟨d, m1, k1, hc⟩ := bnd_some hc
        cases d with
        | int i =>
          simp only at hc
          split at hc
          · rename_i hl
            cases hc
            have e0 : ∀ y : Str, (Str.empty ++ y) = y := fun y => by
              obtain ⟨c⟩ := y
              show (⟨#[] ++ c⟩ : Str) = ⟨c⟩
              rw [Array.empty_append]
            refine ⟨z, rfl, by rw [e0]; omega, A, m, r, .int i, _, R, St, hx, k1, fun A1 H1 e1 R1 v hv => ?_⟩
            cases hv
            refine .inr ⟨i, rfl, ?_, Str.ofString (toString i), rfl, ?_, ?_⟩
            · have : i.natAbs.log2 < 30 := by
                rcases Nat.eq_zero_or_pos i.natAbs with h0 | h0
                · rw [h0]; decide
                · exact (Nat.log2_lt (by omega)).mpr (by omega)
              omega
            · rw [e0]
              have : (z ++ Str.ofString (toString i)).length = z.length + (Str.ofString (toString i)).length := by
                show (z.cps ++ _).size = _
                rw [Array.size_append]; rfl
              omega
            · rw [e0]
              exact q A1 H1 e1 R1 _ rfl
          · cases hc
        | _ => cases hc
      · cases h
  | .dnew, N, cl, ns, X, O => .of rfl fun e h => by
      split at h
      · refine both_den rfl (PE.imp pe_dnewK fun σ H Q q => ?_)
        obtain ⟨A, m, r, b', m', R, St, hx, hc, q⟩ := q
        cases hc
        exact fun p hp => allocD_fin (xs := []) (vs := []) R rfl (show RDs X.K A H [] [] from rfl) q hp
      · cases h
  | .dget a i, N, cl, ns, X, O => .of rfl fun e h => by
      split at h
      · simp only [Bool.and_eq_true] at h
        refine both_den rfl (PE.imp (pe_dget (hu_of O.room) ((sound a O).e _ h.1.1).1 ((sound i O).e _ h.1.2).1 (plainIx h.2)) fun σ H Q q => ?_)
        obtain ⟨A, m, r, b', m', R, St, hx, hc, q⟩ := q
        obtain ⟨x, m1, k1, hc⟩ := bnd_some hc
        obtain ⟨y, m2, k2, hc⟩ := bnd_some hc
        refine ⟨A, m, r, x, m1, R, St, hx, k1, fun A1 H1 e1 R1 v hv => ⟨A1, m1, r, y, m2, R1, St.mono e1, (fun _ z => nomatch z), k2, fun A2 H2 e2 R2 w hw => ?_⟩⟩
        split at hc
        · rename_i p hp
          obtain ⟨a', vs, rfl, rfl, g1, g2, g3⟩ := dctAt_ok R2 hp (hv.mono e2) hw
          split at hc
          · rename_i d hd
            cases hc
            rcases dval_ok p.2 g2 g3 with ⟨n1, n2⟩ | ⟨d', u, n1, n2, n3⟩
            · rw [n1] at hd; cases hd
            · rw [n1] at hd
              cases hd
              refine ⟨a', u, rfl, ?_, q A2 H2 (e1.trans e2) R2 u n3⟩
              have := DGet.k (k := p.2) g1
              rw [n2] at this
              exact this
          · cases hc
        · cases hc
      · cases h
  | .din neg i a, N, cl, ns, X, O => .of rfl fun e h => by
      split at h
      · simp only [Bool.and_eq_true] at h
        obtain ⟨⟨⟨ho, h1⟩, h2⟩, h3⟩ := h
        have ho := of_decide_eq_true ho
        subst ho
        exact both_cmp (op_din O.room neg) ((sound i O).e _ h1).1 ((sound a O).e _ h2).1 (marks_no h3)
      · cases h
  | .dgtx a i z, N, cl, ns, X, O => .of rfl fun e h => by
      split at h
      · rename_i y nm ap zz w cp
        simp only [Bool.and_eq_true] at h
        obtain ⟨⟨⟨⟨⟨⟨⟨hn, hcl⟩, hl⟩, ha⟩, hi⟩, hz⟩, hs1⟩, hs2⟩ := h
        have hn := eq_of_beq hn
        subst hn
        have tr : backTo cp (starEach [zz, w] X.env) = [(false, eval zz X.env), (false, eval w X.env)] := by
          rw [star_cons hs1, star_cons hs2]
          rfl
        have m2 : M2 X y "get" ap zz w cp := ⟨abase hcl, by rw [tr]; rfl, hl, tr⟩
        refine both_den rfl (PE.imp (pe_dget2 (hu_of O.room) ((sound a O).e _ ha).1 ((sound i O).e _ hi).1 ((sound z O).e _ hz).1 m2) fun σ H Q q => ?_)
        obtain ⟨A, m, r, b', m', R, St, hx, hc, q⟩ := q
        obtain ⟨x, m1, k1, hc⟩ := bnd_some hc
        obtain ⟨yy, m2, k2, hc⟩ := bnd_some hc
        obtain ⟨ww, m3, k3, hc⟩ := bnd_some hc
        split at hc
        · rename_i p hp
          cases hc
          refine ⟨A, m, r, x, m1, R, St, hx, k1, fun A1 H1 e1 R1 v hv => ?_⟩
          have hx2 : ∃ n, x = .dloc n := by
            unfold dctAt at hp
            split at hp
            · exact ⟨_, rfl⟩
            · cases hp
          obtain ⟨n, rfl⟩ := hx2
          obtain ⟨a', rfl, h1, o, h2, h3⟩ := id hv
          obtain ⟨ws, rfl⟩ := kind_dK h3
          refine ⟨a', rfl, .inl ⟨ws, .inl h2⟩, A1, m1, r, yy, m2, R1, St.mono e1, (fun _ z => nomatch z), k2, fun A2 H2 e2 R2 w2 hw2 => ⟨A2, m2, r, ww, _, R2, St.mono (e1.trans e2), (fun _ z => nomatch z), k3, fun A3 H3 e3 R3 w3 hw3 => ?_⟩⟩
          obtain ⟨a2, vs, ea, rfl, g1, g2, g3⟩ := dctAt_ok R3 hp (hv.mono (e2.trans e3)) (hw2.mono e3)
          cases ea
          refine ⟨valV vs p.2, DGet.k g1, ?_⟩
          rcases dval_ok p.2 g2 g3 with ⟨n1, n2⟩ | ⟨d', u, n1, n2, n3⟩
          · rw [n2]
            rw [n1] at q
            exact q A3 H3 (e1.trans (e2.trans e3)) R3 _ hw3
          · rw [n2]
            rw [n1] at q
            exact q A3 H3 (e1.trans (e2.trans e3)) R3 _ n3
        · cases hc
      · cases h
  | .ddsp ks vs, N, cl, ns, X, O => .of rfl fun e h => by
      split at h
      · simp only [Bool.and_eq_true, Bool.not_eq_true', decide_eq_true_eq] at h
        obtain ⟨⟨⟨⟨hk, hl⟩, h0⟩, h15⟩, hv⟩ := h
        exact both_den rfl (ddsp_ok ((sound vs O).d _ hv) hk hl (by intro e; rw [e] at h0; cases h0) h15)
      · cases h
  | .callv fs i es, N, cl, ns, X, O => .of rfl fun e h => by
      split at h
      · rename_i x p y ys pos
        simp only [Bool.and_eq_true] at h
        obtain ⟨⟨⟨⟨hN, hvs⟩, hd⟩, hfs⟩, ha⟩ := h
        obtain ⟨d1, d2⟩ := noDb_1 hd
        obtain ⟨pa, sa⟩ := (sound es O).a _ ha
        rw [List.all_cons, Bool.and_eq_true] at sa
        refine both_den rfl (PE.imp (pe_callF (P := fun a sp => ∃ f, f ∈ fs ∧ X.mg f = some (.ref a) ∧ sp = spD X.K (cf f)) (fun a sp hp => ?_) O.room (by rw [O.eN]; exact eq_of_beq hN) (O.vis hvs) pa d1 d2 (star_cons sa.1) (back_any sa.2)) fun σ H Q q => ?_)
        · obtain ⟨f, hf, hm, rfl⟩ := hp
          have h1 := List.all_eq_true.mp hfs f hf
          rw [Bool.and_eq_true] at h1
          obtain ⟨fa, fd, ps, m1, m2, m3, m4⟩ := O.fn f (List.contains_iff_mem.mp h1.1)
          rw [hm] at m1
          cases m1
          exact ⟨fd, ps, m4, m2, m3⟩
        · obtain ⟨A, m, r, b', m', R, St, hx, hc, q⟩ := q
          obtain ⟨ds, m5, k1, hc⟩ := bnd_some hc
          split at hc
          · rename_i f hr
            split at hc
            · rename_i hf
              have hf := List.contains_iff_mem.mp hf
              obtain ⟨v, e1, a, rfl, e2⟩ := St.at_ i _ hr
              have h1 := List.all_eq_true.mp hfs f hf
              rw [Bool.and_eq_true, List.any_eq_true] at h1
              obtain ⟨_, pr, hpr, hpq⟩ := h1
              rw [Bool.and_eq_true] at hpq
              have hp1 : pr.1 = f := eq_of_beq hpq.1
              have hp2 := eqbD_eq hpq.2
              obtain ⟨u, w, g1, g2, g3⟩ := O.gl pr hpr
              rw [hp2] at g3
              obtain ⟨a', rfl, g4⟩ := g3 A H
              rw [e2] at g4
              cases g4
              cases g2
              rw [hp1] at g1
              refine ⟨a, _, e1, ⟨f, hf, g1, rfl⟩, ?_⟩
              refine ⟨A, m, r, ds, m5, R, St, hx, k1, fun A1 H1 e1 R1 vs hv => ?_⟩
              exact (⟨A1, m5, ds, b', m', R1, by rw [List.append_nil]; exact hv, hc, fun A2 H2 e2 R2 => q A2 H2 (e1.trans e2) R2⟩ : spD X.K (cf f) (vs ++ []) H1 Q E0)
            · cases hc
          · cases hc
      · cases h
  | .mkSet, N, cl, ns, X, O => .of rfl fun e h => by
      split at h
      · rename_i x p pos
        simp only [Bool.and_eq_true] at h
        obtain ⟨⟨hx, hb⟩, hg⟩ := h
        have hx := eq_of_beq hx
        subst hx
        refine both_den rfl (PE.imp (pe_callTy0 (X := X) cr_set0 (O.glo hg) (O.blt _ (List.contains_iff_mem.mp hb)) (by decide +kernel)) fun σ H Q q => ?_)
        obtain ⟨A, m, r, b, m', R, St, hx, hc, q⟩ := q
        cases hc
        refine ⟨rfl, fun p hp => q A _ (Ext.fresh R hp) (R.tupled hp) _ ⟨p, rfl, ?_, R.fresh_ne hp⟩⟩
        rw [← O.ew]
        exact upd_same
      · cases h
  | .srt a, N, cl, ns, X, O => .of rfl fun e h => by
      split at h
      · rename_i x p y pos
        simp only [Bool.and_eq_true] at h
        obtain ⟨⟨⟨⟨hx, hb⟩, hg⟩, hs⟩, ha⟩ := h
        have hx := eq_of_beq hx
        subst hx
        have pa := ((sound a O).e _ ha).1
        refine both_den rfl (PE.imp (pe_callB (cr_sortedSet O.calm) (O.glo hg) (O.blt _ (List.contains_iff_mem.mp hb)) (by decide +kernel) (pa_cons pa pa_nil (star_cons hs)) (by decide) (by decide) (star_cons hs) (by rfl)) fun σ H Q q => ?_)
        refine (pend_1 q).imp fun A z => ?_
        obtain ⟨m, r, d, m1, R, St, hx, h1, q⟩ := z
        refine ⟨m, r, d, m1, R, St, hx, h1, fun A1 H1 e1 R1 v hv => ?_⟩
        obtain ⟨A2, m2, d2, b, m3, R2, hd, hc, q2⟩ := q A1 H1 e1 R1 v hv
        cases d2 with
        | set0 =>
          obtain ⟨a', rfl, k1, k2⟩ := hd
          have hc : newL [] m2 = some (b, m3) := hc
          simp only [newL, List.length_nil, Nat.zero_le, if_true] at hc
          cases hc
          refine ⟨a', _, 0, rfl, by rw [O.ew]; exact k1, by decide, fun ns p _ _ hl hp => ?_⟩
          cases ns with
          | cons _ _ => cases hl
          | nil =>
            refine q2 (A2 ++ [p]) _ (Ext.alloc R2 hp) (R2.alloc hp (show RDs X.K A2 H1 [] [] from rfl)) _ ⟨p, rfl, ?_, _, upd_same, rfl⟩
            rw [← R2.len, List.getElem?_append_right (Nat.le_refl _), Nat.sub_self]
            rfl
        | _ => cases hc
      · cases h
  | .tupN es, N, cl, ns, X, O => .of rfl fun e h => by
      split at h
      · obtain ⟨pa, _⟩ := (sound es O).a _ h
        refine both_den rfl (PE.imp (pe_tupN pa) fun σ H Q q => ?_)
        obtain ⟨A, m, r, b', m', R, St, hx, hc, q⟩ := q
        obtain ⟨ds, m1, k1, hc⟩ := bnd_some hc
        refine ⟨A, m, r, ds, m1, R, St, hx, k1, fun A1 H1 e1 R1 vs hv => ?_⟩
        split at hc
        · cases hc
          exact ⟨by rw [hv.length]; assumption, fun p o ho hp => tupN_fin R1 hv (fun A2 H2 e2 R2 => q A2 H2 (e1.trans e2) R2) ho hp⟩
        · cases hc
      · cases h
  | .cot a, N, cl, ns, X, O => .of rfl fun e h => by
      have h : ((chk S N a cl ns).e e && notTest e) = true := h
      rw [Bool.and_eq_true] at h
      have pa := ((sound a O).e _ h.1).1
      refine both_den h.2 (PE.imp pa fun σ H Q q => ?_)
      obtain ⟨A, m, r, b', m', R, St, hx, hc, q⟩ := q
      obtain ⟨d, m1, k1, hc⟩ := bnd_some hc
      cases hc
      refine ⟨A, m, r, d, m', R, St, hx, k1, fun A1 H1 e1 R1 v hv => q A1 H1 e1 R1 v ?_⟩
      cases d with
      | nd d => exact hv.2
      | _ => exact hv
  | .tupS a es, N, cl, ns, X, O => .of rfl fun e h => by
      split at h
      · rename_i x px ys kk pos
        simp only [Bool.and_eq_true] at h
        have pa := ((sound a O).e _ h.1).1
        obtain ⟨ps, _⟩ := (sound es O).a _ h.2
        refine both_den rfl (PE.imp (pe_tup (StX.pa_star pa ps)) fun σ H Q q => ?_)
        obtain ⟨A, m, r, b', m', R, St, hx, hc, q⟩ := q
        obtain ⟨d, m1, k1, hc⟩ := bnd_some hc
        obtain ⟨ds, m2, k2, hc⟩ := bnd_some hc
        refine ⟨A, m, r, d, m1, R, St, hx, k1, fun A1 H1 e1 R1 v hv => ?_⟩
        cases d with
        | tup xs =>
          obtain ⟨a', vs, rfl, w1, w2⟩ := hv
          refine ⟨a', vs, rfl, .inl w1, A1, m1, r, ds, m2, R1, St.mono e1, (fun _ z => nomatch z), k2, fun A2 H2 e2 R2 us hu => ?_⟩
          have hc : newT (xs ++ ds) m2 = some (b', m') := hc
          unfold newT at hc
          split at hc
          · rename_i hl
            cases hc
            have hv2 : RDs X.K A2 H2 (xs ++ ds) (vs ++ us) := (w2.mono e2).append hu
            exact ⟨by rw [hv2.length]; exact hl, fun p hp => tup_fin R2 hv2 (fun A3 H3 e3 R3 => q A3 H3 (e1.trans (e2.trans e3)) R3) hp⟩
          · cases hc
        | _ => cases hc
      · cases h
  | .allG own g ik args elt, N, cl, ns, X, O => .of rfl fun e h => by
      split at h
      · rename_i f pf el tg iter as scope gpos pos
        simp only [Bool.and_eq_true, decide_eq_true_eq] at h
        obtain ⟨⟨⟨⟨⟨⟨⟨⟨⟨⟨⟨⟨has, hf⟩, hb1⟩, hg1⟩, hgen⟩, hcl⟩, hS⟩, hn⟩, hi⟩, hns⟩, hnl⟩, ht⟩, hel⟩ := h
        have hf := eq_of_beq hf
        subst has hf
        obtain ⟨⟨c, P⟩, hmem, hcode, TB⟩ := O.tab ⟨hgen, hcl⟩
        have bl := fun x hx => O.blt x (List.contains_iff_mem.mp hx)
        have R := O.room2 hgen hcl
        have pi := pi_D O hi (sound args O).a fun e he => by
          obtain ⟨g', h1, h2⟩ := (sound args O).a1 e he
          exact ⟨g', h1, h2⟩
        have hs := gsc_by (own := own) hS
        refine both_den rfl (PE.imp (pe_allG (nms := own) (g := gTg X.K g) (te := tV X.K fun r => (ev k cf elt r).v) O.calm R.hd (by have := R.dp; omega) (O.glo hg1) (bl _ hb1) TB hcode hs pi (fold_gen hns hnl) (fun s4 H4 fp code it => pg_tg (gX_ok (elt := el) (tg := tg) (iter := iter) (pos := gpos) O hgen hcl hs hn s4 H4 fp code it) ht) fun s4 H4 fp code it => ((sound elt (gX_ok (elt := el) (tg := tg) (iter := iter) (pos := gpos) O hgen hcl hs hn s4 H4 fp code it)).e _ hel).1) fun σ H Q q => ?_)
        exact all_fin (P := P) hmem q
      · cases h

end
end Mi
namespace Mi
open PySem PySem.Spec PyProof.Rows L2
variable [TabsC]

structure CkS where
  s : Stmt → Bool
  b : List Stmt → Bool
  c : List MatchCase → Bool
def ckS (f : Stmt → Bool) : CkS := ⟨f, fun b => match b with | [x] => f x | _ => false, fun _ => false⟩
def altB : List Str → List Pattern → Bool
  | [], [] => true
  | w :: ws, .MatchValue (.Constant (.str z) _ _) _ :: qs => z == w && altB ws qs
  | _, _ => false
def chkPt (N : List Str) (cl : Bool) (ns : List (Str × NameKind)) : List Pt → List Pattern → Bool
  | [], [] => true
  | .wild :: ps, .MatchAs none none _ :: qs => chkPt N cl ns ps qs
  | .cap i :: ps, .MatchAs none (some x) _ :: qs => N[i]? == some x && stoB cl ns x && chkPt N cl ns ps qs
  | .lit w :: ps, .MatchValue (.Constant (.str z) _ _) _ :: qs => z == w && chkPt N cl ns ps qs
  | .alt ws :: ps, .MatchOr as _ :: qs => altB ws as && !as.isEmpty && chkPt N cl ns ps qs
  | _, _ => false
def ipOf : Bop → Operator
  | .add => .Add | .sub => .Sub | _ => .Mult
def notTuple : Expr → Bool | .Tuple _ _ _ => false | _ => true
/-- y = [..], stored from within -/
def chkLc (ns : List (Str × NameKind)) (y : Str) (line : Nat) : Expr → Bool
  | .ListComp _ _ scope pos => (ns.lookup y == some .local) && line == pos.line && !(scope.names.any fun (n, k) => n == y && (k == .local || k == .cell))
  | _ => false

/-- y = [..], y a cell: stored from without -/
def chkLd (ns : List (Str × NameKind)) (y : Str) : Bool := ns.lookup y == some .cell

def chkS (S : Sx) (N : List Str) (cl : Bool) (ns : List (Str × NameKind)) : Sm → CkS
  | .pass => ⟨fun s => match s with | .Pass _ => true | _ => false, fun b => b.isEmpty, fun c => c.isEmpty⟩
  | .never => ⟨fun _ => true, fun _ => true, fun _ => false⟩
  | .brk => ckS fun s => match s with | .Break _ => true | _ => false
  | .cont => ckS fun s => match s with | .Continue _ => true | _ => false
  | .retN => ckS fun s => match s with | .Return none _ => true | _ => false
  | .seq a b => ⟨fun _ => false, fun l => match l with
    | x :: y :: r => (chkS S N cl ns a).s x && (chkS S N cl ns b).b (y :: r)
    | _ => false, fun _ => false⟩
  | .set i e => ckS fun s => match s with
    | .Assign [.Name x p] v _ => N[i]? == some x && stoB cl ns x && (chk S N e cl ns).e v && (notComp v || chkLd ns x || (chkLc ns x p.line v && (match e with | .comp _ _ _ _ _ _ => true | _ => false)))
    | _ => false
  | .unp is e => ckS fun s => match s with
    | .Assign [.Tuple es k p] v _ => chkT N cl ns (.tp is) (.Tuple es k p) && (chk S N e cl ns).e v && notComp v && notTuple v
    | _ => false
  | .unpN is e => ckS fun s => match s with
    | .Assign [.Tuple es k p] v _ => chkT N cl ns (.tn is) (.Tuple es k p) && (chk S N e cl ns).e v && notComp v && notTuple v
    | _ => false
  | .setIx o i e => ckS fun s => match s with
    | .Assign [.Subscript x y _] v _ => (chk S N o cl ns).e x && (chk S N i cl ns).e y && (chk S N e cl ns).e v && notComp v && notSlice y
    | _ => false
  | .dput o i e => ckS fun s => match s with
    | .Assign [.Subscript x y _] v _ => (chk S N o cl ns).e x && (chk S N i cl ns).e y && (chk S N e cl ns).e v && notComp v && notSlice y
    | _ => false
  | .aug i o e => ckS fun s => match s with
    | .AugAssign (.Name x _) op v _ => N[i]? == some x && stoB cl ns x && (chk S N e cl ns).e v && decide (op = ipOf o) && (match o with | .add => true | .sub => true | _ => false)
    | _ => false
  | .ret e => ckS fun s => match s with
    | .Return (some v) _ => (chk S N e cl ns).e v
    | _ => false
  | .expr e => ckS fun s => match s with
    | .Expr v _ => (chk S N e cl ns).e v && notComp v
    | _ => false
  | .ifs c a b => ckS fun s => match s with
    | .If t x y _ => (chk S N c cl ns).e t && (chkS S N cl ns a).b x && (chkS S N cl ns b).b y
    | _ => false
  | .whl c a => ckS fun s => match s with
    | .While t x [] _ => (chk S N c cl ns).e t && (chkS S N cl ns a).b x
    | _ => false
  | .for_ g ik args b => ckS fun s => match s with
    | .For tg iter body [] _ => chkT N cl ns g tg && chkI S ns (chk S N args cl ns).a tg ik iter && notSet iter && (chkS S N cl ns b).b body
    | _ => false
  | .mtch e cs => ckS fun s => match s with
    | .Match v l _ => (chk S N e cl ns).e v && (chkS S N cl ns cs).c l
    | _ => false
  | .case p gd body rest => ⟨fun _ => false, fun _ => false, fun l => match l with
    | ⟨pat, guard, bd⟩ :: r => (chkS S N cl ns body).b bd && (match p with
        | none => (match pat, guard with | .MatchAs none none _, none => true | _, _ => false)
        | some ps => (match pat with
          | .MatchSequence qs _ => chkPt N cl ns ps qs && ps.length == qs.length && (qs.findIdx? (·.isStar)).isNone && !(qs.all fun p => p.isWildcard || (p.isStar && p.names.isEmpty))
          | _ => false) && (chkS S N cl ns rest).c r && (match guard, gd with
            | none, .nil => true
            | some g, .nil => false
            | some g, c => (chk S N c cl ns).e g
            | none, _ => false))
    | [] => false⟩

section
variable {S : Sx} {lv k : Nat} {cf : Str → List D → M D} {N : List Str} {cl : Bool} {ns : List (Str × NameKind)} {X : Cx}

/-- what is shown of the cases of a match -/
def PCs (X : Cx) (l : List MatchCase) (c : D → MS) : Prop := ∀ (first : Bool) (pins : List (Addr × Obj)) (s : Shared) (σ : L2.St) (H : Hp) (E : Ends) (A : List Addr) (m : List SO) (r : Rho) (d : D) (v : V) (u : Value) (o : Out × Rho) (m' : List SO),
  L2.Inv X pins σ H s → Rl X.K A H m → RSt X.K A H r σ → RD X.K A H d v → RelV v u → c d r m = some (o, m') → (∀ A' H', Ext A H A' H' → Rl X.K A' H' m' → finX X.K E A' H' r o) →
  wpAny (model X.prog X.w) X.A (matchCases l X.env u first) (SP X pins E) X.xe s

/-- what a pattern has bound -/
inductive BOk (X : Cx) (A : List Addr) (H : Hp) : List (Str × Value) → Rho → Rho → Prop
  | nil {r : Rho} : BOk X A H [] r r
  | cons {x : Str} {u : Value} {bs : List (Str × Value)} {r r' : Rho} {i : Nat} {d : D} {v : V} : X.N[i]? = some x → L2.Loc X.env.scope x → (X.fn x = true ∨ X.env.scope.names.lookup x = some .local) → RD X.K A H d v → RelV v u →
      BOk X A H bs (r.set i (some d)) r' → BOk X A H ((x, u) :: bs) r r'
theorem bind_ok {A : List Addr} {H : Hp} {pins : List (Addr × Obj)} {Q : Unit → Shared → Prop} (hN : X.N.Nodup) : ∀ {bs : List (Str × Value)} {r r' : Rho} {σ : L2.St} {s : Shared}, BOk X A H bs r r' → L2.Inv X pins σ H s → RSt X.K A H r σ →
    (∀ σ' s', L2.Inv X pins σ' H s' → RSt X.K A H r' σ' → Q () s') → wpAny (model X.prog X.w) X.A (assignInOrder (bs.map fun (n, _) => bindName X.env n) (bs.map (·.2))) Q X.xe s
  | [], _, _, σ, s, h, I, Sr, q => by
    cases h
    exact wpAny_assignInOrder_none (q σ s I Sr)
  | (x, u) :: bs, _, _, σ, s, h, I, Sr, q => by
    cases h with
    | cons h1 h2 h3 h4 h5 h6 =>
      refine wpAny_assignInOrder_more (wpAny_bindName (store_ok I hN h1 h2 h5 (fun s' I' => ?_) h3))
      exact bind_ok hN h6 I' (Sr.set h4) q

theorem first_alt {y : Str} {u : Value} {pins : List (Addr × Obj)} {σ : L2.St} {H : Hp} {Q : Option (List (Str × Value)) → Shared → Prop} (r1 : RelV (.str y) u) : ∀ {ws : List Str} {qs : List Pattern} {s : Shared}, altB ws qs = true → L2.Inv X pins σ H s →
    (∀ s', L2.Inv X pins σ H s' → (ws.contains y = true → Q (some []) s') ∧ (ws.contains y = false → Q none s')) → wpAny (model X.prog X.w) X.A (matchFirst qs X.env u) Q X.xe s
  | [], [], s, _, I, q => wpAny_matchFirst_nil ((q s I).2 rfl)
  | [], _ :: _, _, h, _, _ => absurd h Bool.false_ne_true
  | w :: ws, [], _, h, _, _ => absurd h Bool.false_ne_true
  | w :: ws, p :: qs, s, h, I, q => by
    cases p with
    | MatchValue ve pos =>
      cases ve with
      | Constant c j p2 =>
        cases c with
        | str z =>
          have h' : (z == w && altB ws qs) = true := h
          rw [Bool.and_eq_true] at h'
          have hz := eq_of_beq h'.1
          subst hz
          refine wpAny_matchFirst_cons (wpAny_matchPattern_Value (Calls.Constant_str ?_))
          refine thn (op_eq pins _ σ H (.str y) (.str z) _ _ (fun t H' => t = .bl (decide (y = z)) ∧ H' = H) (I.tok _) r1 ⟨_, rfl⟩ ⟨rfl, by
            congr 1
            apply decide_eq_decide.mpr
            exact ⟨fun e => by injection e, fun e => by rw [e]⟩, rfl⟩) fun c s2 ⟨t, H2, I2, r3, e1, e2⟩ => ?_
          subst e1 e2
          cases r3
          refine wpAny_truthy_bool ?_
          by_cases e : y = z
          · subst e
            simp only [decide_true, if_true]
            exact (q s2 I2).1 (by simp)
          · simp only [decide_eq_false e, Bool.false_eq_true, if_false]
            refine first_alt r1 h'.2 I2 fun s3 I3 => ⟨fun e3 => (q s3 I3).1 ?_, fun e3 => (q s3 I3).2 ?_⟩
            · rw [List.contains_cons, e3, Bool.or_true]
            · rw [List.contains_cons, e3, Bool.or_false]
              exact beq_eq_false_iff_ne.mpr e
        | _ => exact absurd h Bool.false_ne_true
      | _ => exact absurd h Bool.false_ne_true
    | _ => exact absurd h Bool.false_ne_true
theorem each_ok (O : XOk S lv k cf N cl ns X) {A : List Addr} {H : Hp} {pins : List (Addr × Obj)} {σ : L2.St} {Q : Option (List (Str × Value)) → Shared → Prop} : ∀ {ps : List Pt} {qs : List Pattern} {xs : List D} {vs : List V} {us : List Value} {r : Rho} {res : Option Rho} {s : Shared},
    chkPt N cl ns ps qs = true → RDs X.K A H xs vs → Vals vs us → ptsD ps xs r = some res → L2.Inv X pins σ H s →
    (∀ s', L2.Inv X pins σ H s' → (res = none → Q none s') ∧ ∀ r', res = some r' → ∀ bs, BOk X A H bs r r' → Q (some bs) s') →
    wpAny (model X.prog X.w) X.A (matchEach qs X.env us) Q X.xe s
  | [], qs, xs, vs, us, r, res, s, hc, hx, hv, hp, I, q => by
    cases qs with
    | cons _ _ => exact absurd hc Bool.false_ne_true
    | nil =>
      cases xs with
      | cons _ _ => cases hp
      | nil =>
        cases hp
        exact wpAny_matchEach_nil ((q s I).2 r rfl [] .nil)
  | p :: ps, [], xs, vs, us, r, res, s, hc, hx, hv, hp, I, q => by cases p <;> exact absurd hc Bool.false_ne_true
  | p :: ps, qp :: qs, [], vs, us, r, res, s, hc, hx, hv, hp, I, q => by cases p <;> cases hp
  | .wild :: ps, qp :: qs, x :: xs, vs, us, r, res, s, hc, hx, hv, hp, I, q => by
    obtain ⟨v, vr, rfl, h1, h2⟩ := hx
    cases hv with
    | cons r1 r2 =>
      cases qp with
      | MatchAs pt nm pos =>
        cases pt with
        | some _ => cases nm <;> exact absurd hc Bool.false_ne_true
        | none =>
          cases nm with
          | some _ => exact absurd hc Bool.false_ne_true
          | none =>
            refine wpAny_matchEach_cons (wpAny_matchPattern_Capture ?_) rfl
            refine each_ok O (ps := ps) hc h2 r2 hp I fun s' I' => ⟨fun e => (q s' I').1 e, fun r' e bs hb => ?_⟩
            exact (q s' I').2 r' e bs hb
      | _ => exact absurd hc Bool.false_ne_true
  | .cap i :: ps, qp :: qs, x :: xs, vs, us, r, res, s, hc, hx, hv, hp, I, q => by
    obtain ⟨v, vr, rfl, h1, h2⟩ := hx
    cases hv with
    | cons r1 r2 =>
      cases qp with
      | MatchAs pt nm pos =>
        cases pt with
        | some _ => cases nm <;> exact absurd hc Bool.false_ne_true
        | none =>
          cases nm with
          | none => exact absurd hc Bool.false_ne_true
          | some nm =>
            have hc' : (N[i]? == some nm && stoB cl ns nm && chkPt N cl ns ps qs) = true := hc
            simp only [Bool.and_eq_true] at hc'
            obtain ⟨⟨c1, c2⟩, c3⟩ := hc'
            obtain ⟨l1, l2⟩ := O.loc c2
            refine wpAny_matchEach_cons (wpAny_matchPattern_Capture ?_) rfl
            refine each_ok O (ps := ps) (r := r.set i (some x)) c3 h2 r2 hp I fun s' I' => ⟨fun e => (q s' I').1 e, fun r' e bs hb => ?_⟩
            exact (q s' I').2 r' e _ (.cons (by rw [O.eN]; exact eq_of_beq c1) l1 l2 h1 r1 hb)
      | _ => exact absurd hc Bool.false_ne_true
  | .alt ws :: ps, qp :: qs, x :: xs, vs, us, r, res, s, hc, hx, hv, hp, I, q => by
    obtain ⟨v, vr, rfl, h1, h2⟩ := hx
    cases hv with
    | cons r1 r2 =>
      cases qp with
      | MatchOr as pos =>
        have hc' : (altB ws as && !as.isEmpty && chkPt N cl ns ps qs) = true := hc
        simp only [Bool.and_eq_true] at hc'
        obtain ⟨⟨c1, c2⟩, c3⟩ := hc'
        cases x with
        | str y =>
          cases h1
          have hp' : (if ws.contains y then ptsD ps xs r else some none) = some res := hp
          refine wpAny_matchEach_cons (wpAny_matchPattern_Or (first_alt r1 c1 I fun s' I' => ⟨fun e => ?_, fun e => ?_⟩)) rfl
          · rw [if_pos e] at hp'
            have hn : ∀ l : List Str, (l.filterMap fun n => (([] : List (Str × Value)).lookup n).map (n, ·)) = [] := fun l => by
              rw [List.filterMap_eq_nil_iff]
              intro a _
              rfl
            simp only [hn, List.nil_append]
            exact each_ok O (ps := ps) c3 h2 r2 hp' I' fun s2 I2 => ⟨fun e => (q s2 I2).1 e, fun r' e bs hb => (q s2 I2).2 r' e bs hb⟩
          · rw [if_neg (by rw [e]; exact Bool.false_ne_true)] at hp'
            cases hp'
            exact (q s' I').1 rfl
        | _ => cases hp
      | _ => exact absurd hc Bool.false_ne_true
  | .lit w :: ps, qp :: qs, x :: xs, vs, us, r, res, s, hc, hx, hv, hp, I, q => by
    obtain ⟨v, vr, rfl, h1, h2⟩ := hx
    cases hv with
    | cons r1 r2 =>
      rename_i u ur
      cases qp with
      | MatchValue ve pos =>
        cases ve with
        | Constant c j p2 =>
          cases c with
          | str z =>
            have hc' : (z == w && chkPt N cl ns ps qs) = true := hc
            rw [Bool.and_eq_true] at hc'
            have hz := eq_of_beq hc'.1
            subst hz
            have step : ∀ b : Bool, scal v (.str z) = true → decide (v = .str z) = b → (∀ s', L2.Inv X pins σ H s' → (if b then wpAny (model X.prog X.w) X.A (matchEach qs X.env ur) (fun r' s₂ => match r' with
                | none => Q none s₂
                | some more => Q (some ([] ++ more)) s₂) X.xe s' else Q none s')) → wpAny (model X.prog X.w) X.A (matchEach (.MatchValue (.Constant (.str z) j p2) pos :: qs) X.env (u :: ur)) Q X.xe s := by
              intro b hs hb hn
              refine wpAny_matchEach_cons (wpAny_matchPattern_Value (Calls.Constant_str ?_)) rfl
              refine thn (op_eq pins _ σ H v (.str z) _ _ (fun y H' => y = .bl b ∧ H' = H) (I.tok _) r1 ⟨_, rfl⟩ ⟨hs, by rw [hb], rfl⟩) fun c s2 ⟨y, H2, I2, r3, e1, e2⟩ => ?_
              subst e1 e2
              cases r3
              refine wpAny_truthy_bool ?_
              have := hn s2 I2
              cases b with
              | true => exact this
              | false => exact this
            cases x with
            | str y =>
              cases h1
              have hp' : (if y == z then ptsD ps xs r else some none) = some res := hp
              refine step (y == z) rfl ?_ fun s' I' => ?_
              · rw [dec_str]
              · by_cases e : y = z
                · subst e
                  simp only [beq_self_eq_true, if_true] at hp' ⊢
                  refine each_ok O (ps := ps) hc'.2 h2 r2 hp' I' fun s2 I2 => ⟨fun e => (q s2 I2).1 e, fun r' e bs hb => (q s2 I2).2 r' e bs hb⟩
                · have e' : (y == z) = false := by simpa using e
                  rw [e'] at hp' ⊢
                  cases hp'
                  exact (q s' I').1 rfl
            | non => cases h1; cases hp; exact step false rfl (decide_eq_false (by intro h; cases h)) fun s' I' => (q s' I').1 rfl
            | bl b => cases h1; cases hp; exact step false rfl (decide_eq_false (by intro h; cases h)) fun s' I' => (q s' I').1 rfl
            | int b => cases h1; cases hp; exact step false rfl (decide_eq_false (by intro h; cases h)) fun s' I' => (q s' I').1 rfl
            | _ => cases hp
          | _ => exact absurd hc Bool.false_ne_true
        | _ => exact absurd hc Bool.false_ne_true
      | _ => exact absurd hc Bool.false_ne_true
end
end Mi
namespace Mi
open PySem PySem.Spec PyProof.Rows L2
variable [TabsC]
section
variable {S : Sx} {lv k : Nat} {cf : Str → List D → M D} {N : List Str} {cl : Bool} {ns : List (Str × NameKind)} {X : Cx}

structure SndS (S : Sx) (N : List Str) (k : Nat) (cf : Str → List D → M D) (c : Sm) (cl : Bool) (ns : List (Str × NameKind)) (X : Cx) : Prop where
  s : ∀ s, (chkS S N cl ns c).s s = true → PS X s (tX X.K (ex k cf c).x)
  b : ∀ b, (chkS S N cl ns c).b b = true → PSs X b (tX X.K (ex k cf c).x)
  c : ∀ l, (chkS S N cl ns c).c l = true → PCs X l (ex k cf c).c
theorem SndS.of {c : Sm} {f : Stmt → Bool} (hc : chkS S N cl ns c = ckS f) (h : ∀ s, f s = true → PS X s (tX X.K (ex k cf c).x)) : SndS S N k cf c cl ns X where
  s := fun e he => h e (by rw [hc] at he; exact he)
  b := fun l he => by
    rw [hc] at he
    cases l with
    | nil => exact absurd he Bool.false_ne_true
    | cons x r =>
      cases r with
      | nil => exact pss_one (h x he)
      | cons _ _ => exact absurd he Bool.false_ne_true
  c := fun l he => by rw [hc] at he; exact absurd he Bool.false_ne_true
/-- what is wanted at the end of a statement -/
theorem fin_at {K : PySem.W.Frag} {E : Ends} {σ : L2.St} {H : Hp} {A : List Addr} {m m' : List SO} {r : Rho} {o : Out × Rho} (R : Rl K A H m)
    (q : ∀ A' H', Ext A H A' H' → Rl K A' H' m → finX K E A' H' r o) : finX K E A H r o := q A H (Ext.refl A H) R

theorem swaps_cell {env : Env} {e : Expr} {x : Str} {p : Pos} {n : Nat} (h : env.scope.names.lookup x = some .cell) : swapsWith e (some (.Name x p)) n env = pure false := by
  have hk : (env.kindOf x == some NameKind.local) = false := by
    show (env.scope.names.lookup x == some NameKind.local) = false
    rw [h]
    rfl
  have key : ∀ (sc : Scope) (l : Nat), ((env.blockKind == .function && env.kindOf x == some .local && p.line == l && !(sc.names.any fun (n, k) => n == x && (k == .local || k == .cell)))) = false := by
    intro sc l
    rw [hk, Bool.and_false, Bool.false_and, Bool.false_and]
  cases e <;> first | rfl | (exact congrArg pure (key _ _))
theorem sole_no {env : Env} {e t : Expr} {n : Nat} (h : notComp e = true) : swapsWithSole [t] e n env = pure false := by
  cases e <;> first | rfl | (exact absurd h Bool.false_ne_true)
theorem finX_mono {K : PySem.W.Frag} {E : Ends} {A : List Addr} {H : Hp} {r r' : Rho} {o : Out × Rho} (h : finX K E A H r o) : finX K E A H r' o := h

theorem soundS : ∀ (c : Sm), XOk S lv k cf N cl ns X → SndS S N k cf c cl ns X
  | .pass, O => by
      have key : ∀ E σ H, tX X.K (ex k cf .pass).x E σ H → tNext E σ H := fun E σ H q => by
        obtain ⟨A, m, r, b, m', R, Sr, hx, hc, q⟩ := q
        cases hc
        exact q A H (Ext.refl A H) R σ Sr
      refine ⟨fun s h => ?_, fun b h => ?_, fun l h => ?_⟩
      · cases s with
        | Pass p => exact PS.imp ps_pass key
        | _ => exact absurd h Bool.false_ne_true
      · cases b with
        | nil => exact PSs.imp pss_nil key
        | cons _ _ => exact absurd h Bool.false_ne_true
      · cases l with
        | nil =>
          intro first pins s σ H E A m r d v u o m' I R Sr hd rv hc q
          cases hc
          exact wpAny_matchCases_nil ⟨σ, H, I, q A H (Ext.refl A H) R σ Sr⟩
        | cons _ _ => exact absurd h Bool.false_ne_true
  | .never, O => by
      have key : ∀ E σ H, tX X.K (ex k cf .never).x E σ H → tNever E σ H := fun E σ H q => by
        obtain ⟨A, m, r, b, m', R, Sr, hx, hc, q⟩ := q
        cases hc
      exact ⟨fun s h => PS.imp ps_never key, fun b h => PSs.imp pss_never key, fun l h => absurd h Bool.false_ne_true⟩
  | .brk, O => .of rfl fun s h => by
      cases s with
      | Break p =>
        exact PS.imp ps_break fun E σ H q => by
          obtain ⟨A, m, r, b, m', R, Sr, hx, hc, q⟩ := q
          cases hc
          exact q A H (Ext.refl A H) R σ Sr
      | _ => exact absurd h Bool.false_ne_true
  | .cont, O => .of rfl fun s h => by
      cases s with
      | Continue p =>
        exact PS.imp ps_continue fun E σ H q => by
          obtain ⟨A, m, r, b, m', R, Sr, hx, hc, q⟩ := q
          cases hc
          exact q A H (Ext.refl A H) R σ Sr
      | _ => exact absurd h Bool.false_ne_true
  | .retN, O => .of rfl fun s h => by
      cases s with
      | Return v p =>
        cases v with
        | none =>
          exact PS.imp ps_retN fun E σ H q => by
            obtain ⟨A, m, r, b, m', R, Sr, hx, hc, q⟩ := q
            cases hc
            exact q A H (Ext.refl A H) R _ rfl
        | some _ => exact absurd h Bool.false_ne_true
      | _ => exact absurd h Bool.false_ne_true
  | .seq a b, O => by
      have ih1 := soundS a O
      have ih2 := soundS b O
      refine ⟨fun s h => absurd h Bool.false_ne_true, fun l h => ?_, fun l h => absurd h Bool.false_ne_true⟩
      cases l with
      | nil => exact absurd h Bool.false_ne_true
      | cons x r =>
        cases r with
        | nil => exact absurd h Bool.false_ne_true
        | cons y r =>
          have h' : ((chkS S N cl ns a).s x && (chkS S N cl ns b).b (y :: r)) = true := h
          rw [Bool.and_eq_true] at h'
          refine PSs.imp (pss_cons (ih1.s x h'.1) (ih2.b _ h'.2)) fun E σ H q => ?_
          obtain ⟨A, m, r, o, m', R, Sr, hx, hc, q⟩ := q
          have hc' : (match (ex k cf a).x r m with
            | some ((.nx, r'), m') => (ex k cf b).x r' m'
            | o => o) = some (o, m') := hc
          cases ha : (ex k cf a).x r m with
          | none => rw [ha] at hc'; cases hc'
          | some p =>
            obtain ⟨⟨o1, r1⟩, m1⟩ := p
            rw [ha] at hc'
            refine ⟨A, m, r, (o1, r1), m1, R, Sr, hx, ha, fun A1 H1 e1 R1 => ?_⟩
            cases o1 with
            | nx => exact fun σ' S' => ⟨A1, m1, r1, o, m', R1, S', (fun _ z => nomatch z), hc', fun A2 H2 e2 R2 => q A2 H2 (e1.trans e2) R2⟩
            | bk => cases hc'; exact q A1 H1 e1 R1
            | ct => cases hc'; exact q A1 H1 e1 R1
            | rt d => cases hc'; exact q A1 H1 e1 R1
  | .set i e, O => .of rfl fun s h => by
      split at h
      · rename_i x p v p2
        simp only [Bool.and_eq_true] at h
        obtain ⟨⟨⟨h1, h2⟩, h3⟩, h4⟩ := h
        obtain ⟨l1, l2⟩ := O.loc h2
        have hi : X.N[i]? = some x := by rw [O.eN]; exact eq_of_beq h1
        have nd : X.N.Nodup := by rw [O.eN]; exact O.nd
        have fin : ∀ E σ H, tX X.K (ex k cf (.set i e)).x E σ H → tV X.K (fun r => (ev k cf e r).v) σ H fun y H1 => gName i y σ H1 E.nx := fun E σ H q => by
          obtain ⟨A, m, r, o, m', R, Sr, hx, hc, q⟩ := q
          obtain ⟨d, m1, k1, hc⟩ := bnd_some hc
          cases hc
          exact ⟨A, m, r, d, _, R, Sr, hx, k1, fun A1 H1 e1 R1 w hw => q A1 H1 e1 R1 _ ((Sr.mono e1).set hw)⟩
        rw [Bool.or_eq_true, Bool.or_eq_true] at h4
        rcases h4 with (h4 | h4) | h4
        · exact PS.imp (ps_set nd hi l1 ((sound e O).e v h3).1 (swaps_no h4) l2) fin
        · have hk : X.env.scope.names.lookup x = some .cell := by rw [O.names]; exact eq_of_beq h4
          exact PS.imp (ps_set nd hi l1 ((sound e O).e v h3).1 (swaps_cell hk) l2) fin
        · rw [Bool.and_eq_true] at h4
          obtain ⟨h4, h5⟩ := h4
          cases e with
          | comp own g ik args cond elt =>
            cases v with
            | ListComp el gens scope pos =>
              have h4' : ((ns.lookup x == some .local) && p.line == pos.line && !(scope.names.any fun (n, k) => n == x && (k == .local || k == .cell))) = true := h4
              simp only [Bool.and_eq_true] at h4'
              obtain ⟨⟨g1, g2⟩, g3⟩ := h4'
              have hl : X.env.scope.names.lookup x = some .local := by rw [O.names]; exact eq_of_beq g1
              obtain ⟨el', tg, iter, ifs, scope', pos', heq, pi, bo, hsl, pg, pts, pel, fs⟩ := comp_parts O h3 (sound args O) (fun O' => sound cond O') (fun O' => sound elt O')
              cases heq
              exact PS.imp (ps_setLc (i := i) O.calm nd hi hl (sw_true O.kind hl g2 (by simpa using g3)) pi bo pg pts pel fs) fun E σ H q => comp_ok hsl (fin E σ H q)
            | _ => exact absurd h4 Bool.false_ne_true
          | _ => exact absurd h5 Bool.false_ne_true
      · cases h
  | .unp is e, O => .of rfl fun s h => by
      split at h
      · rename_i es kk p v p2
        simp only [Bool.and_eq_true] at h
        obtain ⟨⟨⟨h1, h2⟩, h3⟩, h4⟩ := h
        refine PS.imp (ps_asg ((sound e O).e v h2).1 (pg_tg O h1) (sole_no h3) (by cases v <;> first | rfl | (exact absurd h4 Bool.false_ne_true)) rfl) fun E σ H q => ?_
        obtain ⟨A, m, r, o, m', R, Sr, hx, hc, q⟩ := q
        obtain ⟨d, m1, k1, hc⟩ := bnd_some hc
        split at hc
        · rename_i r1 ht
          cases hc
          exact ⟨A, m, r, d, _, R, Sr, hx, k1, fun A1 H1 e1 R1 w hw => tgt_ok (Sr.mono e1) hw ht fun σ' S' _ => q A1 H1 e1 R1 σ' S'⟩
        · cases hc
      · cases h
  | .unpN is e, O => .of rfl fun s h => by
      split at h
      · rename_i es kk p v p2
        simp only [Bool.and_eq_true] at h
        obtain ⟨⟨⟨h1, h2⟩, h3⟩, h4⟩ := h
        refine PS.imp (ps_asg ((sound e O).e v h2).1 (pg_tg O h1) (sole_no h3) (by cases v <;> first | rfl | (exact absurd h4 Bool.false_ne_true)) rfl) fun E σ H q => ?_
        obtain ⟨A, m, r, o, m', R, Sr, hx, hc, q⟩ := q
        obtain ⟨d, m1, k1, hc⟩ := bnd_some hc
        split at hc
        · rename_i r1 ht
          cases hc
          exact ⟨A, m, r, d, _, R, Sr, hx, k1, fun A1 H1 e1 R1 w hw => tgt_ok (Sr.mono e1) hw ht fun σ' S' _ => q A1 H1 e1 R1 σ' S'⟩
        · cases hc
      · cases h
  | .setIx o i e, O => .of rfl fun s h => by
      split at h
      · rename_i x y p v p2
        simp only [Bool.and_eq_true] at h
        obtain ⟨⟨⟨⟨h1, h2⟩, h3⟩, h4⟩, h5⟩ := h
        refine PS.imp (ps_asg ((sound e O).e v h3).1 (pg_sub ((sound o O).e x h1).1 ((sound i O).e y h2).1 set_list (fun w => by cases y <;> first | rfl | (exact absurd h5 Bool.false_ne_true))) (sole_no h4) rfl rfl) fun E σ H q => ?_
        obtain ⟨A, m, r, o', m', R, Sr, hx, hc, q⟩ := q
        obtain ⟨d, m1, k1, hc⟩ := bnd_some hc
        obtain ⟨d2, m2, k2, hc⟩ := bnd_some hc
        obtain ⟨d3, m3, k3, hc⟩ := bnd_some hc
        refine ⟨A, m, r, d, m1, R, Sr, hx, k1, fun A1 H1 e1 R1 w hw => ⟨A1, m1, r, d2, m2, R1, Sr.mono e1, (fun _ z => nomatch z), k2, fun A2 H2 e2 R2 w2 hw2 => ?_⟩⟩
        refine ⟨A2, m2, r, d3, m3, R2, Sr.mono (e1.trans e2), (fun _ z => nomatch z), k3, fun A3 H3 e3 R3 w3 hw3 => ?_⟩
        split at hc
        · rename_i n j _
          split at hc
          · rename_i xs hg
            split at hc
            · rename_i z hz
              cases hc
              cases hw3
              obtain ⟨a, rfl, h1⟩ := hw2.mono e3
              obtain ⟨vs, g1, g2⟩ := getL_at R3 hg h1
              refine ⟨a, vs, j, z, rfl, rfl, g1, by rw [g2.length]; exact hz, ?_⟩
              have E3 := Ext.write R3 (List.mem_of_getElem? h1.1) (vs.set z w) ⟨_, g1⟩
              have e13 := e1.trans (e2.trans e3)
              exact q A3 _ (e13.trans E3) (R3.write h1.1 ⟨_, g1⟩ (g2.set (hw.mono (e2.trans e3)) z)) _ ((Sr.mono e13).mono E3)
            · cases hc
          · cases hc
        · cases hc
      · cases h
  | .dput o i e, O => .of rfl fun s h => by
      split at h
      · rename_i x y p v p2
        simp only [Bool.and_eq_true] at h
        obtain ⟨⟨⟨⟨h1, h2⟩, h3⟩, h4⟩, h5⟩ := h
        refine PS.imp (ps_dput (hu_of O.room) ((sound o O).e x h1).1 ((sound i O).e y h2).1 ((sound e O).e v h3).1 (swaps_no h4)) fun E σ H q => ?_
        obtain ⟨A, m, r, o', m', R, Sr, hx, hc0, q⟩ := q
        obtain ⟨d, m1, k1, hc1⟩ := bnd_some hc0
        obtain ⟨d2, m2, k2, hc2⟩ := bnd_some hc1
        obtain ⟨d3, m3, k3, hc3⟩ := bnd_some hc2
        refine ⟨A, m, r, d, m1, R, Sr, hx, k1, fun A1 H1 e1 R1 w hw => ⟨A1, m1, r, d2, m2, R1, Sr.mono e1, (fun _ z => nomatch z), k2, fun A2 H2 e2 R2 w2 hw2 => ?_⟩⟩
        refine ⟨A2, m2, r, d3, m3, R2, Sr.mono (e1.trans e2), (fun _ z => nomatch z), k3, fun A3 H3 e3 R3 w3 hw3 => ?_⟩
        split at hc3
        · rename_i n q1 hq1
          split at hc3
          · rename_i kvs hg
            split at hc3
            · rename_i hz
              cases hc3
              obtain ⟨a, rfl, g0⟩ := hw2.mono e3
              obtain ⟨vs, g1, g2, g3⟩ := getDc_at R3 hg g0
              cases keyD_ok hq1 hw3
              have hl : vs.length = kvs.length := by
                have := congrArg List.length g2
                simpa using this.symm
              have hwd := hw.mono (e2.trans e3)
              obtain ⟨p1, p2⟩ := dput_ok q1 hwd g2 g3
              refine ⟨a, _, rfl, DPut.k g1 (by rw [hl]; exact hz), ?_⟩
              have E3 := Ext.writeO R3 (List.mem_of_getElem? g0.1) (.dK (putK vs q1 w)) ⟨_, g1, rfl⟩
              have e13 := e1.trans (e2.trans e3)
              exact q A3 _ (e13.trans E3) (R3.writeD g0.1 ⟨_, g1⟩ p1 p2) _ ((Sr.mono e13).mono E3)
            · cases hc3
          · cases hc3
        · cases hc3
      · cases h
  | .aug i o e, O => .of rfl fun s h => by
      split at h
      · rename_i x p op v p2
        simp only [Bool.and_eq_true] at h
        obtain ⟨⟨⟨⟨h1, h2⟩, h3⟩, h4⟩, h5⟩ := h
        obtain ⟨l1, l2⟩ := O.loc h2
        have hi : X.N[i]? = some x := by rw [O.eN]; exact eq_of_beq h1
        have nd : X.N.Nodup := by rw [O.eN]; exact O.nd
        have ho := of_decide_eq_true h4
        subst ho
        have inv : ∀ {r : Rho} {m : List SO} {o' : Out × Rho} {m' : List SO}, (ex k cf (.aug i o e)).x r m = some (o', m') → ∃ a b, r[i]? = some (some (.int a)) ∧ (ev k cf e r).v m = some (.int b, m') ∧ (o = .add ∧ o' = (.nx, r.set i (some (.int (a + b)))) ∨ o = .sub ∧ o' = (.nx, r.set i (some (.int (a - b))))) := by
          intro r m o' m' hc
          simp only [ex, dst] at hc
          split at hc
          · rename_i a ha
            obtain ⟨d, m1, k1, hc⟩ := bnd_some hc
            split at hc
            · rename_i b
              split at hc
              · cases hc; exact ⟨a, b, ha, k1, .inl ⟨rfl, rfl⟩⟩
              · cases hc; exact ⟨a, b, ha, k1, .inr ⟨rfl, rfl⟩⟩
              · cases hc
            · cases hc
          · cases hc
        cases o with
        | add =>
          refine PS.imp (ps_aug nd hi l1 ((sound e O).e v h3).1 ip_add l2) fun E σ H q => ?_
          obtain ⟨A, m, r, o', m', R, Sr, hx, hc, q⟩ := q
          obtain ⟨a, b, ha, k1, ⟨_, rfl⟩ | ⟨h, _⟩⟩ := inv hc
          · obtain ⟨va, e1, e2⟩ := Sr.at_ i _ ha
            cases e2
            refine ⟨.int a, e1, A, m, r, .int b, m', R, Sr, hx, k1, fun A1 H1 e1 R1 w hw => ?_⟩
            cases hw
            exact ⟨a, b, rfl, rfl, q A1 H1 e1 R1 _ ((Sr.mono e1).set rfl)⟩
          · cases h
        | sub =>
          refine PS.imp (ps_aug nd hi l1 ((sound e O).e v h3).1 ip_sub l2) fun E σ H q => ?_
          obtain ⟨A, m, r, o', m', R, Sr, hx, hc, q⟩ := q
          obtain ⟨a, b, ha, k1, ⟨h, _⟩ | ⟨_, rfl⟩⟩ := inv hc
          · cases h
          · obtain ⟨va, e1, e2⟩ := Sr.at_ i _ ha
            cases e2
            refine ⟨.int a, e1, A, m, r, .int b, m', R, Sr, hx, k1, fun A1 H1 e1 R1 w hw => ?_⟩
            cases hw
            exact ⟨a, b, rfl, rfl, q A1 H1 e1 R1 _ ((Sr.mono e1).set rfl)⟩
        | _ => exact absurd h5 Bool.false_ne_true
      · cases h
  | .ret e, O => .of rfl fun s h => by
      split at h
      · refine PS.imp (ps_ret ((sound e O).e _ h).1) fun E σ H q => ?_
        obtain ⟨A, m, r, o, m', R, Sr, hx, hc, q⟩ := q
        obtain ⟨d, m1, k1, hc⟩ := bnd_some hc
        cases hc
        exact ⟨A, m, r, d, _, R, Sr, hx, k1, fun A1 H1 e1 R1 w hw => q A1 H1 e1 R1 w hw⟩
      · cases h
  | .expr e, O => .of rfl fun s h => by
      split at h
      · rw [Bool.and_eq_true] at h
        refine PS.imp (ps_expr ((sound e O).e _ h.1).1 (swaps_no h.2)) fun E σ H q => ?_
        obtain ⟨A, m, r, o, m', R, Sr, hx, hc, q⟩ := q
        obtain ⟨d, m1, k1, hc⟩ := bnd_some hc
        cases hc
        exact ⟨A, m, r, d, _, R, Sr, hx, k1, fun A1 H1 e1 R1 w hw => q A1 H1 e1 R1 σ (Sr.mono e1)⟩
      · cases h
  | .ifs c a b, O => .of rfl fun s h => by
      split at h
      · simp only [Bool.and_eq_true] at h
        refine PS.imp (ps_if ((sound c O).e _ h.1.1).2 ((soundS a O).b _ h.1.2) ((soundS b O).b _ h.2)) fun E σ H q => ?_
        obtain ⟨A, m, r, o, m', R, Sr, hx, hc, q⟩ := q
        obtain ⟨t, m1, k1, hc⟩ := bnd_some hc
        refine ⟨A, m, r, t, m1, R, Sr, hx, k1, fun A1 H1 e1 R1 => ?_⟩
        cases t with
        | true => exact ⟨A1, m1, r, o, m', R1, Sr.mono e1, (fun _ z => nomatch z), hc, fun A2 H2 e2 R2 => q A2 H2 (e1.trans e2) R2⟩
        | false => exact ⟨A1, m1, r, o, m', R1, Sr.mono e1, (fun _ z => nomatch z), hc, fun A2 H2 e2 R2 => q A2 H2 (e1.trans e2) R2⟩
      · cases h
  | .whl c a, O => .of rfl fun s h => by
      split at h
      · rw [Bool.and_eq_true] at h
        refine PS.imp (ps_while (by rw [O.never]; exact PassesOwn.never) ((sound c O).e _ h.1).2 ((soundS a O).b _ h.2)) fun E σ H q => ?_
        obtain ⟨A, m, r, o, m', R, Sr, hx, hc, q⟩ := q
        obtain ⟨n, hn⟩ := whC_to hc
        refine ⟨fun j σ1 H1 => ∃ A1 m1 r1, Ext A H A1 H1 ∧ Rl X.K A1 H1 m1 ∧ RSt X.K A1 H1 r1 σ1 ∧ whN (fun r => (ev k cf c r).t) (ex k cf a).x j r1 m1 = some (o, m'), ⟨n, A, m, r, Ext.refl _ _, R, Sr, hn⟩, fun j σ1 H1 hW => ?_⟩
        obtain ⟨A1, m1, r1, e1, R1, S1, hw⟩ := hW
        cases j with
        | zero => cases hw
        | succ j =>
          unfold whN at hw
          obtain ⟨t, m2, k2, hw⟩ := bnd_some hw
          refine ⟨A1, m1, r1, t, m2, R1, S1, (fun _ z => nomatch z), k2, fun A2 H2 e2 R2 => ?_⟩
          cases t with
          | false =>
            cases hw
            exact q A2 H2 (e1.trans e2) R2 _ (S1.mono e2)
          | true =>
            have hw' : (match (ex k cf a).x r1 m2 with
              | some ((.nx, r'), m') => whN (fun r => (ev k cf c r).t) (ex k cf a).x j r' m'
              | some ((.ct, r'), m') => whN (fun r => (ev k cf c r).t) (ex k cf a).x j r' m'
              | some ((.bk, r'), m') => some ((.nx, r'), m')
              | some ((.rt d, r'), m') => some ((.rt d, r'), m')
              | none => none) = some (o, m') := hw
            show ∃ Nn : L2.St → Hp → Prop, _ ∧ _
            refine ⟨fun σ3 H3 => ∃ A1 m1 r1, Ext A H A1 H3 ∧ Rl X.K A1 H3 m1 ∧ RSt X.K A1 H3 r1 σ3 ∧ whN (fun r => (ev k cf c r).t) (ex k cf a).x j r1 m1 = some (o, m'), fun σ3 H3 hN => ⟨j, Nat.lt_succ_self j, hN⟩, ?_⟩
            cases ha : (ex k cf a).x r1 m2 with
            | none => rw [ha] at hw'; cases hw'
            | some p =>
              obtain ⟨⟨o1, r2⟩, m3⟩ := p
              rw [ha] at hw'
              refine ⟨A2, m2, r1, (o1, r2), m3, R2, S1.mono e2, (fun _ z => nomatch z), ha, fun A3 H3 e3 R3 => ?_⟩
              have e13 := e1.trans (e2.trans e3)
              cases o1 with
              | nx => exact fun σ3 S3 => ⟨A3, m3, r2, e13, R3, S3, hw'⟩
              | ct => exact fun σ3 S3 => ⟨A3, m3, r2, e13, R3, S3, hw'⟩
              | bk => cases hw'; exact fun σ3 S3 => q A3 H3 e13 R3 σ3 S3
              | rt d => cases hw'; exact q A3 H3 e13 R3
      · cases h
  | .for_ g ik args b, O => .of rfl fun s h => by
      split at h
      · rename_i tg iter body p
        simp only [Bool.and_eq_true] at h
        obtain ⟨⟨⟨h1, h2⟩, h3⟩, h4⟩ := h
        have pi := pi_D O h2 (sound args O).a fun e he => by
          obtain ⟨g', k1, k2⟩ := (sound args O).a1 e he
          exact ⟨g', k1, k2⟩
        refine PS.imp (ps_for (by rw [O.never]; exact PassesOwn.never) O.calm pi (pg_tg O h1) ((soundS b O).b _ h4) (fold_set h3)) fun E σ H q => ?_
        obtain ⟨A, m, r, o, m', R, Sr, hx, hc, q⟩ := q
        have hc' : ((ev k cf args r).l.bnd fun ds => (itemsD ik ds).bnd fun it => forL (fun d r m => match tgt g d r m with
          | some r' => (ex k cf b).x r' m
          | none => none) it.2 it.1 r) m = some (o, m') := hc
        rw [← bnd_assoc] at hc'
        obtain ⟨it, m1, k1, hl⟩ := bnd_some hc'
        refine ⟨A, m, r, it, m1, R, Sr, hx, k1, fun A1 H1 e1 R1 J hJ => ?_⟩
        generalize hf : (fun (d : D) (r : Rho) (m : List SO) => match tgt g d r m with
          | some r' => (ex k cf b).x r' m
          | none => none) = f at hl
        refine ⟨fun i j σ2 H2 => j = it.1.length - i ∧ i ≤ it.1.length ∧ ∃ A2 mm r2, Ext A1 H1 A2 H2 ∧ Rl X.K A2 H2 mm ∧ RSt X.K A2 H2 r2 σ2 ∧ forL f it.2 (it.1.drop i) r2 mm = some (o, m'),
          ⟨_, rfl, Nat.zero_le _, A1, m1, r, Ext.refl _ _, R1, Sr.mono e1, hl⟩, fun i j σ2 H2 hW => ?_⟩
        obtain ⟨rfl, hi, A2, mm, r2, e2, R2, S2, hl2⟩ := hW
        by_cases hlt : i < it.1.length
        · have hg : it.1[i]? = some it.1[i] := List.getElem?_eq_getElem hlt
          rw [List.drop_eq_getElem_cons hlt] at hl2
          unfold forL at hl2
          obtain ⟨st, hl2⟩ := still_of hl2
          obtain ⟨go, yl⟩ := hJ.go A2 H2 mm i _ e2 R2 st hg
          refine .inr ⟨go, fun σ' H' => i + 1 ≤ it.1.length ∧ ∃ A2 mm r2, Ext A1 H1 A2 H' ∧ Rl X.K A2 H' mm ∧ RSt X.K A2 H' r2 σ' ∧ forL f it.2 (it.1.drop (i + 1)) r2 mm = some (o, m'),
            fun σ' H' hN => ⟨it.1.length - (i + 1), by omega, rfl, hN⟩, fun x H' hy => ?_⟩
          obtain ⟨e3, R3, rx⟩ := yl x H' hy
          have S3 := S2.mono e3
          cases hfi : f it.1[i] r2 mm with
          | none => rw [hfi] at hl2; cases hl2
          | some pp =>
            obtain ⟨⟨o1, r4⟩, m4⟩ := pp
            rw [hfi] at hl2
            rw [← hf] at hfi
            simp only at hfi
            split at hfi
            · rename_i r3 ht
              refine tgt_ok (m := mm) S3 rx ht fun σ3 S4 _ => ?_
              refine ⟨A2, mm, r3, (o1, r4), m4, R3, S4, (fun _ z => nomatch z), hfi, fun A5 H5 e5 R5 => ?_⟩
              have e15 := e2.trans (e3.trans e5)
              cases o1 with
              | nx => exact fun σ5 S5 => ⟨by omega, A5, m4, r4, e15, R5, S5, hl2⟩
              | ct => exact fun σ5 S5 => ⟨by omega, A5, m4, r4, e15, R5, S5, hl2⟩
              | bk => cases hl2; exact fun σ5 S5 => q A5 H5 (e1.trans e15) R5 σ5 S5
              | rt d => cases hl2; exact q A5 H5 (e1.trans e15) R5
            · cases hfi
        · have hi' : i = it.1.length := by omega
          subst hi'
          rw [List.drop_length] at hl2
          unfold forL at hl2
          obtain ⟨st, hl2⟩ := still_of hl2
          cases hl2
          exact .inl ⟨hJ.stop A2 H2 _ _ e2 R2 st (Nat.le_refl _), q A2 H2 (e1.trans e2) R2 σ2 S2⟩
      · cases h
  | .mtch e cs, O => .of rfl fun s h => by
      split at h
      · rename_i v l p
        rw [Bool.and_eq_true] at h
        refine ⟨fun pins s σ H E I q => ?_⟩
        obtain ⟨A, m, r, o, m', R, Sr, hx, hc, q⟩ := q
        obtain ⟨d, m1, k1, hc⟩ := bnd_some hc
        refine wpAny_Match (thn (((sound e O).e v h.1).1.run pins s σ H (fun v H1 => ∃ A1, Ext A H A1 H1 ∧ Rl X.K A1 H1 m1 ∧ RD X.K A1 H1 d v) I ⟨A, m, r, d, m1, R, Sr, hx, k1, fun A1 H1 e1 R1 v hv => ⟨A1, e1, R1, hv⟩⟩) fun u s1 ⟨v, H1, I1, rv, A1, e1, R1, hv⟩ => ?_)
        exact (soundS cs O).c l h.2 true pins s1 σ H1 E A1 m1 r d v u o m' I1 R1 (Sr.mono e1) hv rv hc fun A2 H2 e2 R2 => q A2 H2 (e1.trans e2) R2
      · cases h
  | .case p gd body rest, O => by
      refine ⟨fun s h => absurd h Bool.false_ne_true, fun l h => absurd h Bool.false_ne_true, fun l h => ?_⟩
      cases l with
      | nil => exact absurd h Bool.false_ne_true
      | cons cc rs =>
        obtain ⟨pat, guard, bd⟩ := cc
        have h' : ((chkS S N cl ns body).b bd && (match (generalizing := false) p with
          | none => (match (generalizing := false) pat, guard with | .MatchAs none none _, none => true | _, _ => false)
          | some ps => (match (generalizing := false) pat with
            | .MatchSequence qs _ => chkPt N cl ns ps qs && ps.length == qs.length && (qs.findIdx? (·.isStar)).isNone && !(qs.all fun p => p.isWildcard || (p.isStar && p.names.isEmpty))
            | _ => false) && (chkS S N cl ns rest).c rs && (match (generalizing := false) guard, gd with
              | none, .nil => true
              | some g, .nil => false
              | some g, c => (chk S N c cl ns).e g
              | none, _ => false))) = true := h
        rw [Bool.and_eq_true] at h'
        obtain ⟨hb, h'⟩ := h'
        have ihb := (soundS body O).b bd hb
        intro first pins s σ H E A m r d v u o m' I R Sr hd rv hc q
        have nd : X.N.Nodup := by rw [O.eN]; exact O.nd
        cases p with
        | none =>
          simp only at h'
          split at h'
          · have hc' : (ex k cf body).x r m = some (o, m') := hc
            refine wpAny_matchCases_cons (wpAny_matchPattern_Capture (wpAny_assignInOrder_none ?_))
            exact ihb.run pins s σ H E I ⟨A, m, r, o, m', R, Sr, (fun _ z => nomatch z), hc', q⟩
          · cases h'
        | some ps =>
          simp only [Bool.and_eq_true] at h'
          obtain ⟨⟨h1, h2⟩, h3⟩ := h'
          split at h1
          · rename_i _ qs mp
            simp only [Bool.and_eq_true] at h1
            obtain ⟨⟨⟨g1, g2⟩, g3⟩, g4⟩ := h1
            have g2 := eq_of_beq g2
            have g3 : qs.findIdx? (·.isStar) = none := by simpa using g3
            have g4 : (qs.all fun p => p.isWildcard || (p.isStar && p.names.isEmpty)) = false := by simpa using g4
            have ihr := (soundS rest O).c rs h2
            cases d with
            | tup xs =>
              obtain ⟨a, vs, rfl, k1, k2⟩ := id hd
              cases rv
              obtain ⟨its, rvs, ht, hz⟩ := I.tuple k1
              have hl1 := rvs.length
              have hl2 := k2.length
              have hl3 : its.toArray.size = its.length := List.size_toArray
              have hfit : ((its.toArray.size : Nat) : Int) < 2 ^ 63 := by
                have : (sizeLine : Nat) < 2 ^ 63 := line63
                omega
              have hc' : (if xs.length = ps.length then (match ptsD ps xs r with
                | none => none
                | some none => (ex k cf rest).c (.tup xs) r m
                | some (some r') => match (generalizing := false) gd with
                  | .nil => (ex k cf body).x r' m
                  | g => match (ev k cf g r').t m with
                    | some (true, m') => (ex k cf body).x r' m'
                    | some (false, m') => (ex k cf rest).c (.tup xs) r' m'
                    | none => none) else (ex k cf rest).c (.tup xs) r m) = some (o, m') := hc
              by_cases hn : xs.length = ps.length
              · rw [if_pos hn] at hc'
                refine wpAny_matchCases_cons (matchSeq_tuple_hit ht hfit (by omega) ?_ g3 g4)
                have hql : qs.length = its.toArray.size := by omega
                rw [hql]
                refine unpackItems_tuple (I.ok.hd O.calm) ht fun h'' hx => ?_
                have I1 : L2.Inv X pins σ H { s with heap := h'', toks := s.toks + 1 + 1 } := I.kept fun b o e => hx b o (Nat.ne_of_lt (Heap.lt_size e)) e
                cases hp : ptsD ps xs r with
                | none => rw [hp] at hc'; cases hc'
                | some res =>
                  rw [hp] at hc'
                  refine each_ok O g1 k2 rvs hp I1 fun s2 I2 => ⟨fun e => ?_, fun r' e bs hbs => ?_⟩
                  · subst e
                    exact ihr false pins s2 σ H E A m r _ _ _ o m' I2 R Sr hd rfl hc' q
                  · subst e
                    refine bind_ok nd hbs I2 Sr fun σ3 s3 I3 S3 => ?_
                    cases guard with
                    | none =>
                      cases gd with
                      | nil => exact ihb.run pins s3 σ3 H E I3 ⟨A, m, r', o, m', R, S3, (fun _ z => nomatch z), hc', q⟩
                      | _ => exact absurd h3 Bool.false_ne_true
                    | some gx =>
                      have pg : gd ≠ .nil ∧ (chk S N gd cl ns).e gx = true := by
                        cases gd with
                        | nil => exact absurd h3 Bool.false_ne_true
                        | _ => exact ⟨(fun h => nomatch h), h3⟩
                      have pt := ((sound gd O).e gx pg.2).2
                      have hc2 : (match (ev k cf gd r').t m with
                        | some (true, m') => (ex k cf body).x r' m'
                        | some (false, m') => (ex k cf rest).c (.tup xs) r' m'
                        | none => none) = some (o, m') := by
                        cases gd with
                        | nil => exact absurd rfl pg.1
                        | _ => exact hc'
                      cases ht2 : (ev k cf gd r').t m with
                      | none => rw [ht2] at hc2; cases hc2
                      | some tp =>
                        obtain ⟨t, m4⟩ := tp
                        rw [ht2] at hc2
                        refine thn (pt.run pins s3 σ3 H (fun b H4 => b = t ∧ ∃ A4, Ext A H A4 H4 ∧ Rl X.K A4 H4 m4) I3 ⟨A, m, r', t, m4, R, S3, (fun _ z => nomatch z), ht2, fun A4 H4 e4 R4 => ⟨rfl, A4, e4, R4⟩⟩) fun b s4 ⟨H4, I4, eb, A4, e4, R4⟩ => ?_
                        subst eb
                        cases b with
                        | true => exact ihb.run pins s4 σ3 H4 E I4 ⟨A4, m4, r', o, m', R4, S3.mono e4, (fun _ z => nomatch z), hc2, fun A5 H5 e5 R5 => q A5 H5 (e4.trans e5) R5⟩
                        | false => exact ihr false pins s4 σ3 H4 E A4 m4 r' _ _ _ o m' I4 R4 (S3.mono e4) (hd.mono e4) rfl hc2 fun A5 H5 e5 R5 => q A5 H5 (e4.trans e5) R5
              · rw [if_neg hn] at hc'
                refine wpAny_matchCases_cons (matchSeq_tuple_miss ht hfit (by omega) ?_ g3 g4)
                exact ihr false pins _ σ H E A m r _ _ _ o m' (I.tok _) R Sr hd rfl hc' q
            | _ => cases hc
          · cases h1
end
end Mi
namespace Mi
open PySem PySem.Spec PyProof.Rows L2
variable [TabsC]

mutual
theorem RD.lt {K : PySem.W.Frag} {A : List Addr} {H : Hp} : ∀ {d : D} {v : V}, RD K A H d v → ltD A.length d = true
  | .non, _, _ => rfl
  | .bl _, _, _ => rfl
  | .int _, _, _ => rfl
  | .str _, _, _ => rfl
  | .tup xs, v, h => by
    obtain ⟨a, vs, rfl, h1, h2⟩ := h
    exact RDs.lt h2
  | .fz xs, v, h => by
    obtain ⟨a, vs, rfl, h1, h2⟩ := h
    exact RDs.lt h2
  | .loc n, v, h => by
    obtain ⟨a, rfl, h1, _⟩ := h
    exact decide_eq_true (List.getElem?_eq_some_iff.mp h1).1
  | .dloc n, v, h => by
    obtain ⟨a, rfl, h1, _⟩ := h
    exact decide_eq_true (List.getElem?_eq_some_iff.mp h1).1
  | .set0, _, _ => rfl
  | .fn _, _, _ => rfl
  | .nd d, v, h => RD.lt (d := d) h.2
theorem RDs.lt {K : PySem.W.Frag} {A : List Addr} {H : Hp} : ∀ {xs : List D} {vs : List V}, RDs K A H xs vs → ltDs A.length xs = true
  | [], _, _ => rfl
  | x :: xs, vs, h => by
    obtain ⟨v, r, rfl, h1, h2⟩ := h
    show (ltD _ x && ltDs _ xs) = true
    rw [RD.lt h1, RDs.lt h2]
    rfl
end
theorem sqZ_cut {K : PySem.W.Frag} {A B C : List Addr} {H : Hp} (hC : ∀ b ∈ C, b ∈ B) {a : Addr} {vs : List V} (h : SqZ K (A ++ B) H a vs) : SqZ K (A ++ C) H a vs := by
  rcases h with (h | ⟨h, n⟩) | h
  · exact .inl (.inl h)
  · refine .inl (.inr ⟨h, fun m => n ?_⟩)
    rcases List.mem_append.mp m with m | m
    · exact List.mem_append.mpr (.inl m)
    · exact List.mem_append.mpr (.inr (hC a m))
  · exact .inr h
mutual
theorem RD.cut {K : PySem.W.Frag} {A B : List Addr} {H : Hp} : ∀ {d : D} {v : V}, RD K (A ++ B) H d v → ltD A.length d = true → RD K A H d v
  | .non, _, h, _ => h
  | .bl _, _, h, _ => h
  | .int _, _, h, _ => h
  | .str _, _, h, _ => h
  | .tup xs, v, h, q => by
    obtain ⟨a, vs, rfl, h1, h2⟩ := h
    exact ⟨a, vs, rfl, h1, RDs.cut h2 q⟩
  | .fz xs, v, h, q => by
    obtain ⟨a, vs, rfl, h1, h2⟩ := h
    have h3 := sqZ_cut (C := []) (fun _ z => nomatch z) h1
    rw [List.append_nil] at h3
    exact ⟨a, vs, rfl, h3, RDs.cut h2 q⟩
  | .loc n, v, h, q => by
    obtain ⟨a, rfl, h1, h2⟩ := h
    have hn : n < A.length := of_decide_eq_true q
    rw [List.getElem?_append_left hn] at h1
    exact ⟨a, rfl, h1, h2⟩
  | .dloc n, v, h, q => by
    obtain ⟨a, rfl, h1, h2⟩ := h
    have hn : n < A.length := of_decide_eq_true q
    rw [List.getElem?_append_left hn] at h1
    exact ⟨a, rfl, h1, h2⟩
  | .fn _, v, h, q => h
  | .nd d, v, h, q => ⟨h.1, RD.cut (d := d) h.2 q⟩
  | .set0, v, h, q => by
    obtain ⟨a, rfl, h1, h2⟩ := h
    exact ⟨a, rfl, h1, fun m => h2 (List.mem_append.mpr (.inl m))⟩
theorem RDs.cut {K : PySem.W.Frag} {A B : List Addr} {H : Hp} : ∀ {xs : List D} {vs : List V}, RDs K (A ++ B) H xs vs → ltDs A.length xs = true → RDs K A H xs vs
  | [], _, h, _ => h
  | x :: xs, vs, h, q => by
    obtain ⟨v, r, rfl, h1, h2⟩ := h
    have q' : (ltD A.length x && ltDs A.length xs) = true := q
    rw [Bool.and_eq_true] at q'
    exact ⟨v, r, rfl, RD.cut h1 q'.1, RDs.cut h2 q'.2⟩
end
mutual
theorem RD.cut2 {K : PySem.W.Frag} {A B C : List Addr} {H : Hp} (hC : ∀ b ∈ C, b ∈ B) : ∀ {d : D} {v : V}, RD K (A ++ B) H d v → ltD A.length d = true → RD K (A ++ C) H d v
  | .non, _, h, _ => h
  | .bl _, _, h, _ => h
  | .int _, _, h, _ => h
  | .str _, _, h, _ => h
  | .tup xs, v, h, q => by
    obtain ⟨a, vs, rfl, h1, h2⟩ := h
    exact ⟨a, vs, rfl, h1, RDs.cut2 hC h2 q⟩
  | .fz xs, v, h, q => by
    obtain ⟨a, vs, rfl, h1, h2⟩ := h
    exact ⟨a, vs, rfl, sqZ_cut hC h1, RDs.cut2 hC h2 q⟩
  | .loc n, v, h, q => by
    obtain ⟨a, rfl, h1, h2⟩ := h
    have hn : n < A.length := of_decide_eq_true q
    rw [List.getElem?_append_left hn] at h1
    exact ⟨a, rfl, by rw [List.getElem?_append_left hn]; exact h1, h2⟩
  | .dloc n, v, h, q => by
    obtain ⟨a, rfl, h1, h2⟩ := h
    have hn : n < A.length := of_decide_eq_true q
    rw [List.getElem?_append_left hn] at h1
    exact ⟨a, rfl, by rw [List.getElem?_append_left hn]; exact h1, h2⟩
  | .fn _, v, h, q => h
  | .nd d, v, h, q => ⟨h.1, RD.cut2 hC (d := d) h.2 q⟩
  | .set0, v, h, q => by
    obtain ⟨a, rfl, h1, h2⟩ := h
    exact ⟨a, rfl, h1, fun m => h2 ((List.mem_append.mp m).elim (fun z => List.mem_append.mpr (.inl z)) fun z => List.mem_append.mpr (.inr (hC _ z)))⟩
theorem RDs.cut2 {K : PySem.W.Frag} {A B C : List Addr} {H : Hp} (hC : ∀ b ∈ C, b ∈ B) : ∀ {xs : List D} {vs : List V}, RDs K (A ++ B) H xs vs → ltDs A.length xs = true → RDs K (A ++ C) H xs vs
  | [], _, h, _ => h
  | x :: xs, vs, h, q => by
    obtain ⟨v, r, rfl, h1, h2⟩ := h
    have q' : (ltD A.length x && ltDs A.length xs) = true := q
    rw [Bool.and_eq_true] at q'
    exact ⟨v, r, rfl, RD.cut2 hC h1 q'.1, RDs.cut2 hC h2 q'.2⟩
end

theorem gc_ok {K : PySem.W.Frag} {A A' : List Addr} {H H' : Hp} {m m' : List SO} {d : D} {v : V} (R : Rl K A H m) (e : Ext A H A' H') (R' : Rl K A' H' m') (hv : RD K A' H' d v) :
    ∃ A2, Ext A H A2 H' ∧ Rl K A2 H' (gc m d m').2 ∧ RD K A2 H' (gc m d m').1 v := by
  obtain ⟨B, rfl⟩ := e.pre
  have same : ∃ A2, Ext A H A2 H' ∧ Rl K A2 H' m' ∧ RD K A2 H' d v := ⟨_, e, R', hv⟩
  have e0 : Ext A H A H' := ⟨⟨[], by simp⟩, e.keep, fun b h n => absurd h n, e.tups, e.frzs, e.tbs, e.kind⟩
  have old : Kept m m' → ∀ (n : Nat) (o : SO) (a : Addr), n < m.length → m'[n]? = some o → A[n]? = some a → ObR K A H' o a := by
    intro hk n o a hn h1 h2
    have h2' : (A ++ B)[n]? = some a := by
      rw [List.getElem?_append_left (by rw [R.len]; exact hn)]
      exact h2
    have ob := R'.ob n o a h1 h2'
    cases o with
    | lst xs =>
      obtain ⟨vs, k1, k2⟩ := ob
      refine ⟨vs, k1, k2.cut ?_⟩
      rcases hk.2 n hn with q | ⟨ys, q1, q2⟩
      · rw [h1] at q
        obtain ⟨ws, _, k3⟩ := R.ob n _ a q.symm h2
        exact k3.lt
      · rw [h1] at q1
        cases q1
        rw [R.len]
        exact q2
    | dct xs =>
      obtain ⟨vs, k1, k0, k2⟩ := ob
      refine ⟨vs, k1, k0, k2.cut ?_⟩
      rcases hk.2 n hn with q | ⟨ys, q1, q2⟩
      · rw [h1] at q
        obtain ⟨ws, _, _, k3⟩ := R.ob n _ a q.symm h2
        exact k3.lt
      · rw [h1] at q1
        cases q1
        rw [R.len]
        exact q2
  have old2 : Kept m m' → ∀ (C : List Addr), (∀ b ∈ C, b ∈ B) → ∀ (n : Nat) (o : SO) (a : Addr), n < m.length → m'[n]? = some o → A[n]? = some a → ObR K (A ++ C) H' o a := by
    intro hk C hC n o a hn h1 h2
    have h2' : (A ++ B)[n]? = some a := by
      rw [List.getElem?_append_left (by rw [R.len]; exact hn)]
      exact h2
    have ob := R'.ob n o a h1 h2'
    cases o with
    | lst xs =>
      obtain ⟨vs, k1, k2⟩ := ob
      refine ⟨vs, k1, k2.cut2 hC ?_⟩
      rcases hk.2 n hn with q | ⟨ys, q1, q2⟩
      · rw [h1] at q
        obtain ⟨ws, _, k3⟩ := R.ob n _ a q.symm h2
        exact k3.lt
      · rw [h1] at q1
        cases q1
        rw [R.len]
        exact q2
    | dct xs =>
      obtain ⟨vs, k1, k0, k2⟩ := ob
      refine ⟨vs, k1, k0, k2.cut2 hC ?_⟩
      rcases hk.2 n hn with q | ⟨ys, q1, q2⟩
      · rw [h1] at q
        obtain ⟨ws, _, _, k3⟩ := R.ob n _ a q.symm h2
        exact k3.lt
      · rw [h1] at q1
        cases q1
        rw [R.len]
        exact q2
  unfold gc
  split
  · rename_i hk
    have Rt : Rl K A H' (m'.take m.length) := ⟨by rw [List.length_take, R.len]; have := hk.1; omega, R.nd, fun n o a h1 h2 => by
      have hn : n < m.length := by rw [← R.len]; exact (List.getElem?_eq_some_iff.mp h2).1
      rw [List.getElem?_take_of_lt hn] at h1
      exact old hk n o a hn h1 h2, R'.tab⟩
    have new1 : ∀ (j : Nat) (a : Addr) (so : SO), m'[j]? = some so → (A ++ B)[j]? = some a → m.length ≤ j → ltDs m.length so.vals = true →
        Ext A H (A ++ [a]) H' ∧ Rl K (A ++ [a]) H' (m'.take m.length ++ [so]) ∧ (A ++ [a])[m.length]? = some a := by
      intro j a so hj ha hjm hx
      have hB : B[j - A.length]? = some a := by
        rw [List.getElem?_append_right (by rw [R.len]; exact hjm)] at ha
        exact ha
      have hnA : a ∉ A := fun hm => by
        have nd := (List.nodup_append.mp R'.nd).2.2
        exact nd a hm a (List.mem_of_getElem? hB) rfl
      have hnone : H a = none := e.new a (List.mem_append.mpr (.inr (List.mem_of_getElem? hB))) hnA
      have ob := R'.ob j _ a hj ha
      have hC : ∀ b ∈ [a], b ∈ B := fun b hb => by rw [List.mem_singleton.mp hb]; exact List.mem_of_getElem? hB
      refine ⟨⟨⟨[a], rfl⟩, e.keep, fun b hb hn => ?_, e.tups, e.frzs, e.tbs, e.kind⟩, ?_, ?_⟩
      · rcases List.mem_append.mp hb with hb | hb
        · exact absurd hb hn
        · rw [List.mem_singleton.mp hb]; exact hnone
      · refine ⟨by rw [List.length_append, List.length_append, Rt.len]; rfl, List.nodup_append.mpr ⟨R.nd, by simp, fun x hx y hy => ?_⟩, fun n o b h1 h2 => ?_, R'.tab⟩
        · rw [List.mem_singleton.mp hy]
          intro z
          rw [z] at hx
          exact hnA hx
        · by_cases hn : n < m.length
          · have hn2 : n < (m'.take m.length).length := by rw [← Rt.len, R.len]; exact hn
            rw [List.getElem?_append_left hn2] at h1
            rw [List.getElem?_append_left (by rw [R.len]; exact hn)] at h2
            rw [List.getElem?_take_of_lt hn] at h1
            exact old2 hk [a] hC n o b hn h1 h2
          · have el : (m'.take m.length).length = m.length := by rw [← Rt.len, R.len]
            rw [List.getElem?_append_right (by rw [el]; omega), el] at h1
            rw [List.getElem?_append_right (by rw [R.len]; omega), R.len] at h2
            cases hk2 : n - m.length with
            | zero =>
              rw [hk2] at h1 h2
              cases h1
              cases h2
              cases so with
              | lst xs =>
                obtain ⟨vs, k1, k2⟩ := ob
                exact ⟨vs, k1, k2.cut2 (C := [a]) hC (by rw [R.len]; exact hx)⟩
              | dct xs =>
                obtain ⟨vs, k1, k0, k2⟩ := ob
                exact ⟨vs, k1, k0, k2.cut2 (C := [a]) hC (by rw [R.len]; exact hx)⟩
            | succ i => rw [hk2] at h1; simp at h1
      · rw [← R.len, List.getElem?_append_right (Nat.le_refl _), Nat.sub_self]
        rfl
    split
    · rename_i hd
      exact ⟨A, e0, Rt, hv.cut (by rw [R.len]; exact hd)⟩
    · rename_i hd
      split
      · rename_i j
        split
        · rename_i xs hj
          split
          · rename_i hx
            obtain ⟨a, rfl, ha, hk3⟩ := hv
            obtain ⟨q1, q2, q3⟩ := new1 j a xs hj ha (by
              have : ¬ j < m.length := fun z => hd (decide_eq_true z)
              omega) hx
            exact ⟨A ++ [a], q1, q2, a, rfl, q3, hk3⟩
          · exact same
        · exact same
      · rename_i j
        split
        · rename_i xs hj
          split
          · rename_i hx
            obtain ⟨a, rfl, ha, hk3⟩ := hv
            obtain ⟨q1, q2, q3⟩ := new1 j a xs hj ha (by
              have : ¬ j < m.length := fun z => hd (decide_eq_true z)
              omega) hx
            exact ⟨A ++ [a], q1, q2, a, rfl, q3, hk3⟩
          · exact same
        · exact same
      · exact same
  · exact same

/-- a def's object, whatever its defaults -/
structure FunG (K : PySem.W.Frag) (x qual : Str) (st : Stmt) (f : Addr) (fd : FuncData) : Prop where
  ex : ∃ (oc : Value) (od : Option Addr) (dV kV doc pm : Value) (an : Option Addr) (cdv ct : Value) (osl : Array (Option Value)),
    fd = PySem.W.fnOf x qual (defArgs st) (defBody st) (defScope st) dV kV doc pm an cdv ct ∧ K.lookup f = some ⟨oc, od, .func fd, osl⟩ ∧ PySem.W.codeIn K cdv qual = true
  kp : PySem.W.keepIn K (.ref f) = true
omit [TabsC] in
theorem FunG.of {K : PySem.W.Frag} {x qual : Str} {st : Stmt} {f : Addr} {fd : FuncData} (F : Fun K x qual st f fd) : FunG K x qual st f fd := by
  obtain ⟨oc, od, kV, doc, pm, an, cdv, ct, osl, e, l, c⟩ := F.ex
  exact ⟨⟨oc, od, .none, kV, doc, pm, an, cdv, ct, osl, e, l, c⟩, F.kp⟩
omit [TabsC] in
theorem FunG.ofD {K : PySem.W.Frag} {x qual : Str} {st : Stmt} {f : Addr} {fd : FuncData} {dvs : List V} {kws : List (Str × V)} (F : FunD K x qual (defArgs st) (defBody st) (defScope st) dvs kws f fd) : FunG K x qual st f fd := by
  obtain ⟨oc, od, dV, kV, doc, pm, an, cdv, ct, osl, e, l, c, _, _⟩ := F.ex
  exact ⟨⟨oc, od, dV, kV, doc, pm, an, cdv, ct, osl, e, l, c⟩, F.kp⟩
/-- a def of the text that the table tells -/
@[reducible] def sxOf (S : Sx) (fn : Fn) : Sx := cond fn.nn { S with gen := false, fns := S.nfns } { S with gen := fn.gen }
structure DefOk (S : Sx) (tb : Str → Option Fn) (K : PySem.W.Frag) (mg : Str → Option Value) (f : Str) : Prop where
  ex : ∃ (fn : Fn) (st : Stmt) (a : Addr) (fd : FuncData) (q : Str), tb f = some fn ∧ mg f = some (.ref a) ∧ FunG K q q st a fd ∧ FnScope fn.N fn.ps (defScope st) ∧ Binds K fd fn.ps [] ∧ (chkS (sxOf S fn) fn.N true (defScope st).names fn.body).b (defBody st) = true ∧ (fn.gen = true → ∃ p ∈ TabsC.C, fd.code = .ref p.1)
/-- what the texts lean on stands -/
structure Top (S : Sx) (tb : Str → Option Fn) (w : World) (K : PySem.W.Frag) (mg : Str → Option Value) : Prop where
  blt : ∀ x ∈ S.blt, mg x = none
  gl : ∀ p ∈ S.gl, ∃ u v, mg p.1 = some u ∧ RelV v u ∧ ∀ A H, RD K A H p.2 v
  gd : ∀ p ∈ S.gd, ∃ a, mg p.1 = some (.ref a) ∧ WDict K w a p.2
  defs : ∀ f ∈ S.fns, DefOk S tb K mg f
  nsub : ∀ f ∈ S.nfns, f ∈ S.fns

theorem rho_start {K : PySem.W.Frag} {A : List Addr} {H : Hp} {ds : List D} {vs : List V} {N : List Str} (h : RDs K A H ds vs) : RSt K A H (ds.map some ++ List.replicate (N.length - ds.length) none) (L2.start N vs) := by
  have hl := h.length
  refine ⟨by unfold L2.start; simp [hl], fun i d hi => ?_⟩
  unfold L2.start
  by_cases hn : i < ds.length
  · rw [List.getElem?_append_left (by rw [List.length_map]; exact hn), List.getElem?_map] at hi
    rw [List.getElem?_append_left (by rw [List.length_map, hl]; exact hn), List.getElem?_map]
    cases hd : ds[i]? with
    | none => rw [hd] at hi; cases hi
    | some d' =>
      rw [hd] at hi
      cases hi
      obtain ⟨v, e1, e2⟩ := h.get hd
      exact ⟨v, by rw [e1]; rfl, e2⟩
  · rw [List.getElem?_append_right (by rw [List.length_map]; omega), List.getElem?_replicate] at hi
    split at hi <;> cases hi

theorem fun_ok {P : Program} {w : World} {K : PySem.W.Frag} {mg : Str → Option Value} {base : Heap} {x qual : Str} {st : Stmt} {f : Addr} {fd : FuncData} {N ps : List Str} {k : Nat} {sp : Sp} (F : FunG K x qual st f fd) (S : FnScope N ps (defScope st)) (len : ∀ vs H Q E, sp vs H Q E → vs.length = ps.length)
    (hb : ∀ (A : Around) (outer : List Env) (s : Shared) (H : Hp) (vs : List V) (Q : VK) (E : XK), Room k (A.deeper (envOfC qual (defScope st) s.heap.objs.size f fd.code)) → sp vs H Q E →
      ∃ t, PSs (cxOf CX0 P w K mg base N qual (defScope st) f fd.code A outer s H E).nox (defBody st) t ∧ t { nx := fun _ H' => Q .non H', rt := Q } (L2.start N vs) H) : FnOk P w K mg base CX0 (k + 1) f fd ps sp := by
  obtain ⟨oc, od, dV, kV, doc, pm, an, cdv, ct, osl, rfl, lk, hcd⟩ := F.ex
  refine fn_of lk hcd S len fun A outer s H vs Q E hr hsp => ?_
  obtain ⟨t, h, q⟩ := hb A outer s H vs Q E hr hsp
  exact ⟨t, h.nox, q⟩
theorem ok_c {S : Sx} {tb : Str → Option Fn} {P : Program} {w : World} {K : PySem.W.Frag} {mg : Str → Option Value} {base : Heap} (T : Top S tb w K mg) {S' : Sx} (e1 : S'.blt = S.blt) (e2 : S'.gl = S.gl) (e3 : S'.gd = S.gd) {lv k j : Nat} {cf : Str → List D → M D} (hle : 2 * k ≤ lv) (hj : lv ≤ j) (hg2 : S'.gen = true → lv + 1 ≤ j)
    (ih : ∀ f ∈ S'.fns, ∃ a fd ps, mg f = some (.ref a) ∧ PySem.W.keepIn K (.ref a) = true ∧ Binds K fd ps [] ∧ FnOk P w K mg base CX0 lv a fd ps (spD K (cf f)))
    {q : Str} {fn : Fn} {st : Stmt} {a : Addr} {fd : FuncData} (h3 : FunG K q q st a fd) (h4 : FnScope fn.N fn.ps (defScope st)) (h6 : (chkS S' fn.N true (defScope st).names fn.body).b (defBody st) = true) (h7 : S'.gen = true → ∃ p ∈ TabsC.C, fd.code = .ref p.1) (hTB : ∀ p ∈ TabsC.C, GxR.TabB base mg p.1 p.2) (hw : w = TabsC.w) :
    FnOk P w K mg base CX0 (j + 1) a fd fn.ps (spD K (callF k cf fn)) := by
  have inv : ∀ {ds : List D} {m : List SO} {x}, callF k cf fn ds m = some x → ds.length = fn.ps.length ∧ ∃ o r m1, (ex k cf fn.body).x (ds.map some ++ List.replicate (fn.N.length - ds.length) none) m = some ((o, r), m1) ∧
      ((o = .nx ∧ x = gc m .non m1) ∨ ∃ d, o = .rt d ∧ x = gc m d m1) := by
    intro ds m x h'
    unfold callF at h'
    split at h'
    · rename_i hl
      refine ⟨hl, ?_⟩
      split at h'
      · rename_i r m1 hx
        cases h'
        exact ⟨.nx, r, m1, hx, .inl ⟨rfl, rfl⟩⟩
      · rename_i d r m1 hx
        cases h'
        exact ⟨.rt d, r, m1, hx, .inr ⟨d, rfl, rfl⟩⟩
      · cases h'
    · cases h'
  refine fun_ok (k := j) h3 h4 (fun vs H Q E h => ?_) fun A outer s H vs Q E hr h => ?_
  · obtain ⟨A, m, ds, d, m', R, hd, h, _⟩ := h
    rw [hd.length]
    exact (inv h).1
  · have O : XOk S' lv k cf fn.N true (defScope st).names (cxOf CX0 P w K mg base fn.N q (defScope st) a fd.code A outer s H E).nox := by
      refine ⟨rfl, h4.nd, rfl, h4.kind, rfl, hr.mono hj, hle, fun hg _ => hr.mono (hg2 hg), rfl, fun _ _ => rfl, fun x hx => T.blt x (e1 ▸ hx), fun p hp => T.gl p (e2 ▸ hp), fun p hp => T.gd p (e3 ▸ hp), ih, hw, fun hg => ?_⟩
      obtain ⟨p, hp, e⟩ := h7 hg.1
      exact ⟨p, hp, e, hTB p hp⟩
    refine ⟨_, (soundS fn.body O).b _ h6, ?_⟩
    obtain ⟨A0, m, ds, d, m', R, hd, h, q⟩ := h
    obtain ⟨_, o, r, m1, hx, ho⟩ := inv h
    refine ⟨A0, m, _, (o, r), m1, R, rho_start hd, (fun _ z => nomatch z), hx, fun A1 H1 e1 R1 => ?_⟩
    rcases ho with ⟨rfl, hg⟩ | ⟨d1, rfl, hg⟩
    · intro σ1 S1
      obtain ⟨A2, e2, R2, r2⟩ := gc_ok R e1 R1 (show RD K A1 H1 .non .non from rfl)
      rw [← hg] at R2 r2
      exact q A2 H1 e2 R2 _ r2
    · intro v hv
      obtain ⟨A2, e2, R2, r2⟩ := gc_ok R e1 R1 hv
      rw [← hg] at R2 r2
      exact q A2 H1 e2 R2 _ r2
theorem none_ok {P : Program} {w : World} {K : PySem.W.Frag} {mg : Str → Option Value} {base : Heap} {j : Nat} {a : Addr} {fd : FuncData} {ps : List Str} : FnOk P w K mg base CX0 j a fd ps (spD K (fun _ => M.no)) := by
  refine ⟨fun vs H Q E h => ?_, fun A outer s H args us vs Q E hr e0 hb r h => ?_⟩
  · obtain ⟨_, _, _, _, _, _, _, h, _⟩ := h
    cases h
  · obtain ⟨_, _, _, _, _, _, _, h, _⟩ := h
    cases h
theorem nn_ok {S : Sx} {tb : Str → Option Fn} {P : Program} {w : World} {K : PySem.W.Frag} {mg : Str → Option Value} {base : Heap} (T : Top S tb w K mg) (hTB : ∀ p ∈ TabsC.C, GxR.TabB base mg p.1 p.2) (hw : w = TabsC.w) : ∀ (j : Nat), ∀ f ∈ S.fns, (∃ fn, tb f = some fn ∧ fn.nn = true) →
    ∃ a fd ps, mg f = some (.ref a) ∧ PySem.W.keepIn K (.ref a) = true ∧ Binds K fd ps [] ∧ FnOk P w K mg base CX0 j a fd ps (spD K (runN tb j f))
  | 0, f, hf, _ => by
    obtain ⟨fn, st, a, fd, _, _, h2, h3, _, h5, _, _⟩ := (T.defs f hf).ex
    exact ⟨a, fd, fn.ps, h2, h3.kp, h5, none_ok⟩
  | j + 1, f, hf, hn => by
    obtain ⟨fn, st, a, fd, q, h1, h2, h3, h4, h5, h6, h7⟩ := (T.defs f hf).ex
    obtain ⟨fn', e, hnn⟩ := hn
    rw [h1] at e
    cases e
    refine ⟨a, fd, fn.ps, h2, h3.kp, h5, ?_⟩
    have er : runN tb (j + 1) f = callF (j / 2) (runN tb j) fn := by
      funext ds
      show (match tb f with
        | none => M.no
        | some fn => if fn.nn = true then callF (j / 2) (runN tb j) fn ds else M.no) = _
      rw [h1]
      exact if_pos hnn
    rw [er]
    have h6' : (chkS { S with gen := false, fns := S.nfns } fn.N true (defScope st).names fn.body).b (defBody st) = true := by
      have := h6
      unfold sxOf at this
      rwa [hnn] at this
    refine ok_c T (S' := { S with gen := false, fns := S.nfns }) rfl rfl rfl (lv := j) (by omega) (Nat.le_refl _) (fun h => by cases h) (fun g hg => ?_) h3 h4 h6' (fun h => by cases h) hTB hw
    by_cases hgn : ∃ fn, tb g = some fn ∧ fn.nn = true
    · exact nn_ok T hTB hw j g (T.nsub g hg) hgn
    · obtain ⟨fn2, st2, a2, fd2, q2, g1, g2, g3, g4, g5, g6, g7⟩ := (T.defs g (T.nsub g hg)).ex
      refine ⟨a2, fd2, fn2.ps, g2, g3.kp, g5, ?_⟩
      have : runN tb j g = fun _ => M.no := by
        cases j with
        | zero => rfl
        | succ j =>
          funext ds
          show (match tb g with
            | none => M.no
            | some fn => if fn.nn = true then callF (j / 2) (runN tb j) fn ds else M.no) = _
          rw [g1]
          exact if_neg fun z => hgn ⟨fn2, g1, z⟩
      rw [this]
      exact none_ok
theorem ok_at {S : Sx} {tb : Str → Option Fn} {P : Program} {w : World} {K : PySem.W.Frag} {mg : Str → Option Value} {base : Heap} (T : Top S tb w K mg) {k : Nat}
    (ih : ∀ f ∈ S.fns, ∃ a fd ps, mg f = some (.ref a) ∧ PySem.W.keepIn K (.ref a) = true ∧ Binds K fd ps [] ∧ FnOk P w K mg base CX0 (2 * k) a fd ps (spD K (run tb k f)))
    {f q : Str} {fn : Fn} {st : Stmt} {a : Addr} {fd : FuncData} (h1 : tb f = some fn) (h3 : FunG K q q st a fd) (h4 : FnScope fn.N fn.ps (defScope st)) (h6 : (chkS (sxOf S fn) fn.N true (defScope st).names fn.body).b (defBody st) = true) (h7 : fn.gen = true → ∃ p ∈ TabsC.C, fd.code = .ref p.1) (hTB : ∀ p ∈ TabsC.C, GxR.TabB base mg p.1 p.2) (hw : w = TabsC.w) (hnn : fn.nn = false) :
    FnOk P w K mg base CX0 (2 * (k + 1)) a fd fn.ps (spD K (run tb (k + 1) f)) := by
  have er : run tb (k + 1) f = callF k (run tb k) fn := by
    funext ds
    show (match tb f with
      | none => M.no
      | some fn => if fn.nn = true then runN tb (2 * (k + 1)) f ds else callF k (run tb k) fn ds) = _
    rw [h1]
    exact if_neg (by rw [hnn]; exact Bool.false_ne_true)
  rw [er]
  have h6' : (chkS { S with gen := fn.gen } fn.N true (defScope st).names fn.body).b (defBody st) = true := by
    have := h6
    unfold sxOf at this
    rwa [hnn] at this
  exact ok_c T (S' := { S with gen := fn.gen }) rfl rfl rfl (lv := 2 * k) (j := 2 * k + 1) (Nat.le_refl _) (Nat.le_succ _) (fun _ => Nat.le_refl _) ih h3 h4 h6' h7 hTB hw
theorem all_ok {S : Sx} {tb : Str → Option Fn} {P : Program} {w : World} {K : PySem.W.Frag} {mg : Str → Option Value} {base : Heap} (T : Top S tb w K mg) (hTB : ∀ p ∈ TabsC.C, GxR.TabB base mg p.1 p.2) (hw : w = TabsC.w) : ∀ (k : Nat), ∀ f ∈ S.fns,
    ∃ a fd ps, mg f = some (.ref a) ∧ PySem.W.keepIn K (.ref a) = true ∧ Binds K fd ps [] ∧ FnOk P w K mg base CX0 (2 * k) a fd ps (spD K (run tb k f))
  | 0, f, hf => by
    obtain ⟨fn, st, a, fd, _, _, h2, h3, _, h5, _, _⟩ := (T.defs f hf).ex
    exact ⟨a, fd, fn.ps, h2, h3.kp, h5, none_ok⟩
  | k + 1, f, hf => by
    obtain ⟨fn, st, a, fd, q, h1, h2, h3, h4, h5, h6, h7⟩ := (T.defs f hf).ex
    cases hnn : fn.nn with
    | false => exact ⟨a, fd, fn.ps, h2, h3.kp, h5, ok_at T (all_ok T hTB hw k) h1 h3 h4 h6 h7 hTB hw hnn⟩
    | true =>
      have er : run tb (k + 1) f = runN tb (2 * (k + 1)) f := by
        funext ds
        show (match tb f with
          | none => M.no
          | some fn => if fn.nn = true then runN tb (2 * (k + 1)) f ds else callF k (run tb k) fn ds) = _
        rw [h1]
        exact if_pos hnn
      rw [er]
      exact nn_ok T hTB hw (2 * (k + 1)) f hf ⟨fn, h1, hnn⟩

/-- a def by what the top has left of it -/
theorem defOk_mk {S : Sx} {tb : Str → Option Fn} {K : PySem.W.Frag} {mg : Str → Option Value} {f : Str} {fn : Fn} {st : Stmt} {a : Addr} {oc : Value} {od an : Option Addr} {osl : Array (Option Value)} {kV doc pm cdv ct : Value}
    (ht : tb f = some fn) (hm : mg f = some (.ref a)) (l : K.lookup a = some ⟨oc, od, .func (PySem.W.fnOf f f (defArgs st) (defBody st) (defScope st) .none kV doc pm an cdv ct), osl⟩)
    (c : PySem.W.codeIn K cdv f = true) (k : PySem.W.keepIn K (.ref a) = true) (sc : FnScope fn.N fn.ps (defScope st))
    (hb : ∀ (kV doc pm : Value) (an : Option Addr) (cdv ct : Value) (us : List Value), us.length = fn.ps.length → bindArgs (PySem.W.fnOf f f (defArgs st) (defBody st) (defScope st) .none kV doc pm an cdv ct) ⟨us, []⟩ = pure (fn.ps.zip us))
    (hc : (chkS (sxOf S fn) fn.N true (defScope st).names fn.body).b (defBody st) = true) (hg : fn.gen = true → ∃ p ∈ TabsC.C, cdv = .ref p.1) : DefOk S tb K mg f :=
  have F := fun_mk (st := st) l c k
  ⟨fn, st, a, _, f, ht, hm, .of F, sc, F.binds hb, hc, hg⟩
/-- a def by the facts of the head -/
theorem defOk_D {S : Sx} {tb : Str → Option Fn} {K : PySem.W.Frag} {mg : Str → Option Value} {f q : Str} {fn : Fn} {st : Stmt} {a : Addr} {fd : FuncData}
    (ht : tb f = some fn) (hm : mg f = some (.ref a)) (F : FunD K q q (defArgs st) (defBody st) (defScope st) [] [] a fd) (sc : FnScope fn.N fn.ps (defScope st)) (hb : Binds K fd fn.ps [])
    (hc : (chkS (sxOf S fn) fn.N true (defScope st).names fn.body).b (defBody st) = true) (hg : fn.gen = true → ∃ p ∈ TabsC.C, fd.code = .ref p.1) : DefOk S tb K mg f :=
  ⟨fn, st, a, _, q, ht, hm, .ofD F, sc, hb, hc, hg⟩
/-- a tuple of the written part -/
theorem rd_tup {K : PySem.W.Frag} {a : Addr} {o : Obj} {its : Array Value} {n : Nat} {xs : List D} {vs : List V} (l : K.lookup a = some o) (hc : o.cls = .type "tuple") (hd : o.data = .seq its n) (hz : its.size ≤ sizeLine) (hv : Vals vs its.toList) (A : List Addr) (H : Hp) (hx : RDs K A H xs vs) : RD K A H (.tup xs) (.ref a) :=
  ⟨a, vs, rfl, .inr ⟨o, its, n, l, hc, hd, hz, hv⟩, hx⟩
/-- the law at a script of ints -/
theorem law_sp {K : PySem.W.Frag} {H : Hp} {a : Addr} {ns : List Int} (cf : List D → M D) (hT : ∀ p ∈ TabsC.C, GxR.TabG H p.2) (hS : SqL K H a (ns.map V.int)) (h : cf [.fz (ns.map D.int)] [] = some (.bl true, [])) :
    spD K cf [.ref a] H (fun v _ => v = .bl true) fun _ _ _ => False := by
  have hz : SqZ K [] H a (ns.map V.int) := by
    rcases hS with (hS | hS) | hS
    · exact .inl (.inr ⟨hS, by simp⟩)
    · exact .inl (.inl hS)
    · exact .inr hS
  have hi : ∀ ns : List Int, RDs K [] H (ns.map D.int) (ns.map V.int) := by
    intro ns
    induction ns with
    | nil => rfl
    | cons n r ih => exact ⟨_, _, rfl, rfl, ih⟩
  exact ⟨[], [], [.fz (ns.map D.int)], .bl true, [], ⟨rfl, List.nodup_nil, (fun n o a h => by simp at h), hT⟩, ⟨_, [], rfl, ⟨a, _, rfl, hz, hi ns⟩, rfl⟩, h, fun _ _ _ _ _ hu => hu⟩
end Mi
namespace K13
open PySem PySem.Spec PyProof.Rows L2 Mi
def gd_FORMS : List (Str × D) := [("num", (.tup [(.str "number")])), ("name", (.tup [(.str "name")])), ("fun", (.tup [(.str "mark"), (.str "name"), (.str "piece")])), ("call", (.tup [(.str "mark"), (.str "piece"), (.str "piece")])), ("plus", (.tup [(.str "mark"), (.str "piece"), (.str "piece")])), ("pick", (.tup [(.str "mark"), (.str "piece"), (.str "piece"), (.str "piece")])), ("round", (.tup [(.str "piece")])), ("take", (.tup [(.str "mark"), (.str "name"), (.str "piece")]))]
def fn_is_piece : Fn where
  ps := ["thing"]
  N := ["thing", "waiting", "knots", "part", "depth", "inner"]
  body := (.seq (.set 1 (.lst (.cons (.tup (.cons (.var 0) (.cons (.cst (.int (1))) .nil))) .nil)))
  (.seq (.set 2 (.cst (.int (0))))
  (.seq (.whl (.var 1) (.seq (.unp [3, 4] (.meth .pop (.var 1) .nil))
  (.seq (.aug 2 .add (.cst (.int (1))))
  (.seq (.ifs (.or (.cmp .gt (.var 2) (.glb "MOST_KNOTS" (.int (300)))) (.or (.cmp .gt (.var 4) (.glb "DEEPEST" (.int (30)))) (.not (.call "is_knot" (.cons (.var 3) .nil))))) (.ret (.cst (.bl false))) .pass)
  (.for_ (.nm 5) .one (.cons (.call "parts_of" (.cons (.var 3) .nil)) .nil) (.expr (.meth .append (.var 1) (.cons (.tup (.cons (.var 5) (.cons (.bin .add (.var 4) (.cst (.int (1)))) .nil))) .nil))))))))
  (.ret (.cst (.bl true))))))
def fn_is_closed : Fn where
  ps := ["thing"]
  N := ["thing"]
  body := (.ret (.and (.call "is_piece" (.cons (.var 0) .nil)) (.not (.call "free_names" (.cons (.var 0) .nil)))))
def fn_free_names : Fn where
  ps := ["piece"]
  N := ["piece", "names", "waiting", "part", "bound", "inner"]
  body := (.seq (.set 1 .mkSet)
  (.seq (.set 2 (.lst (.cons (.tup (.cons (.var 0) (.cons (.tup .nil) .nil))) .nil)))
  (.seq (.whl (.var 2) (.seq (.unp [3, 4] (.meth .pop (.var 2) .nil))
  (.seq (.ifs (.and (.cmp .eq (.idx (.var 3) (.cst (.int (0)))) (.cst (.str "name"))) (.cmp .notIn (.idx (.var 3) (.cst (.int (1)))) (.var 4))) .never .pass)
  (.seq (.ifs (.cmp .in_ (.idx (.var 3) (.cst (.int (0)))) (.glb "BINDERS" (.tup [(.str "fun"), (.str "take")]))) (.set 4 (.tupS (.var 4) (.cons (.idx (.var 3) (.cst (.int (2)))) .nil))) .pass)
  (.for_ (.nm 5) .one (.cons (.call "parts_of" (.cons (.var 3) .nil)) .nil) (.expr (.meth .append (.var 2) (.cons (.tup (.cons (.var 5) (.cons (.var 4) .nil))) .nil))))))))
  (.ret (.srt (.var 1))))))
def fn_parts_of : Fn where
  ps := ["piece"]
  N := ["piece", "part", "kind"]
  body := (.ret (.comp [("part", 1), ("kind", 2)] (.tp [1, 2]) .zip (.cons (.slc (.var 0) (.cons (.cst (.int (1))) .nil) .nil) (.cons (.gget "FORMS" gd_FORMS (.idx (.var 0) (.cst (.int (0))))) .nil)) (.cmp .eq (.var 2) (.cst (.str "piece"))) (.var 1)))
def fn_is_knot : Fn where
  ps := ["thing"]
  N := ["thing", "word", "kinds"]
  body := (.seq (.ifs (.or (.not (.isi (.var 0) "tuple")) (.not (.var 0))) (.ret (.cst (.bl false))) .pass)
  (.seq (.set 1 (.idx (.var 0) (.cst (.int (0)))))
  (.seq (.ifs (.or (.not (.isi (.var 1) "str")) (.gin true "FORMS" gd_FORMS (.var 1))) (.ret (.cst (.bl false))) .pass)
  (.seq (.set 2 (.gget "FORMS" gd_FORMS (.var 1)))
  (.seq (.ifs (.cmp .ne (.blt .len (.cons (.var 0) .nil)) (.bin .add (.blt .len (.cons (.var 2) .nil)) (.cst (.int (1))))) (.ret (.cst (.bl false))) .pass)
  (.ret (.allG ["part", "kind"] (.tp [0, 1]) .zip (.cons (.slc (.var 0) (.cons (.cst (.int (1))) .nil) .nil) (.cons (.var 2) .nil)) (.call "fits" (.cons (.var 0) (.cons (.var 1) .nil))))))))))
  gen := true
def fn_fits : Fn where
  ps := ["thing", "kind"]
  N := ["thing", "kind"]
  body := (.seq (.ifs (.cmp .eq (.var 1) (.cst (.str "number"))) (.ret (.and (.call "is_whole" (.cons (.var 0) .nil)) (.chain .lt .lt (.neg (.glb "NUMBER_END" (.int (1000000000000)))) (.var 0) (.glb "NUMBER_END" (.int (1000000000000)))))) .pass)
  (.seq (.ifs (.cmp .eq (.var 1) (.cst (.str "mark"))) (.ret (.and (.call "is_whole" (.cons (.var 0) .nil)) (.chain .le .le (.cst (.int (0))) (.var 0) (.glb "LAST_MARK" (.int (9999)))))) .pass)
  (.seq (.ifs (.cmp .eq (.var 1) (.cst (.str "name"))) (.ret (.call "is_name" (.cons (.var 0) .nil))) .pass)
  (.ret (.cst (.bl true))))))
def fn_is_whole : Fn where
  ps := ["thing"]
  N := ["thing"]
  body := (.ret (.and (.isi (.var 0) "int") (.not (.isi (.var 0) "bool"))))
def fn_is_name : Fn where
  ps := ["thing"]
  N := ["thing"]
  body := (.seq (.ifs (.or (.not (.isi (.var 0) "str")) (.not (.chain .le .le (.cst (.int (1))) (.blt .len (.cons (.var 0) .nil)) (.glb "LONGEST_NAME" (.int (8)))))) (.ret (.cst (.bl false))) .pass)
  (.ret (.allG ["sign"] (.nm 0) .txt (.cons (.var 0) .nil) (.chain .le .le (.cst (.str "a")) (.var 0) (.cst (.str "z"))))))
  gen := true
def fn_check_piece : Fn where
  ps := ["piece"]
  N := ["piece"]
  body := (.ifs (.not (.call "is_closed" (.cons (.var 0) .nil))) .never .pass)
def fn_check_fuel : Fn where
  ps := ["fuel"]
  N := ["fuel"]
  body := (.ifs (.or (.not (.call "is_whole" (.cons (.var 0) .nil))) (.not (.chain .le .le (.cst (.int (0))) (.var 0) (.glb "MOST_FUEL" (.int (1000000)))))) .never .pass)
def fn_check_both : Fn where
  ps := ["piece", "fuel"]
  N := ["piece", "fuel"]
  body := (.seq (.expr (.call "check_piece" (.cons (.var 0) .nil)))
  (.expr (.call "check_fuel" (.cons (.var 1) .nil))))
def fn_put_in : Fn where
  ps := ["piece", "name", "value"]
  N := ["piece", "name", "value", "word", "parts", "part", "kind"]
  body := (.seq (.set 3 (.idx (.var 0) (.cst (.int (0)))))
  (.seq (.ifs (.cmp .eq (.var 3) (.cst (.str "name"))) (.ret (.ifx (.cmp .eq (.idx (.var 0) (.cst (.int (1)))) (.var 1)) (.var 2) (.var 0))) .pass)
  (.seq (.ifs (.or (.cmp .in_ (.var 3) (.glb "VALUES" (.tup [(.str "num"), (.str "shut"), (.str "kept")]))) (.and (.cmp .in_ (.var 3) (.glb "BINDERS" (.tup [(.str "fun"), (.str "take")]))) (.cmp .eq (.idx (.var 0) (.cst (.int (2)))) (.var 1)))) (.ret (.var 0)) .pass)
  (.seq (.set 4 (.lst (.cons (.var 3) .nil)))
  (.seq (.for_ (.tp [5, 6]) .zip (.cons (.slc (.var 0) (.cons (.cst (.int (1))) .nil) .nil) (.cons (.gget "FORMS" gd_FORMS (.var 3)) .nil)) (.expr (.meth .append (.var 4) (.cons (.ifx (.cmp .eq (.var 6) (.cst (.str "piece"))) (.call "put_in" (.cons (.var 5) (.cons (.var 1) (.cons (.var 2) .nil)))) (.var 5)) .nil))))
  (.ret (.blt .tuple (.cons (.var 4) .nil))))))))
def fn_stepped : Fn where
  ps := ["piece"]
  N := ["piece", "frames", "place"]
  body := (.seq (.set 1 (.lst .nil))
  (.seq (.set 2 (.call "found" (.cons (.var 0) (.cons (.var 1) .nil))))
  (.seq (.ifs (.call "is_value_putting" (.cons (.var 2) .nil)) (.ret (.tup (.cons (.cst (.str "value")) (.cons (.var 2) .nil)))) .pass)
  (.seq (.ifs (.call "is_stuck" (.cons (.var 2) (.cons (.var 1) .nil))) (.ret (.tup (.cons (.cst (.str "stuck")) (.cons (.idx (.var 2) (.cst (.int (1)))) .nil)))) .pass)
  (.seq (.set 2 (.call "changed" (.cons (.var 2) (.cons (.var 1) .nil))))
  (.ret (.tup (.cons (.cst (.str "step")) (.cons (.call "surrounded" (.cons (.var 2) (.cons (.var 1) .nil))) .nil)))))))))
def fn_by_putting : Fn where
  ps := ["piece", "fuel"]
  N := ["piece", "fuel", "frames", "place", "made"]
  body := (.seq (.expr (.call "check_both" (.cons (.var 0) (.cons (.var 1) .nil))))
  (.seq (.set 2 (.lst .nil))
  (.seq (.set 3 (.call "found" (.cons (.var 0) (.cons (.var 2) .nil))))
  (.seq (.set 4 (.cst (.int (0))))
  (.seq (.whl (.not (.call "is_done" (.cons (.var 3) (.cons (.var 2) .nil)))) (.seq (.ifs (.cmp .eq (.var 4) (.var 1)) (.ret (.tup (.cons (.cst (.str "dry")) .nil))) .pass)
  (.seq (.set 3 (.call "changed" (.cons (.var 3) (.cons (.var 2) .nil))))
  (.seq (.set 3 (.call "found" (.cons (.var 3) (.cons (.var 2) .nil))))
  (.aug 4 .add (.cst (.int (1))))))))
  (.ret (.call "outcome" (.cons (.var 3) .nil))))))))
def fn_outcome : Fn where
  ps := ["place"]
  N := ["place", "n", "at"]
  body := (.mtch (.var 0) (.case (some [.lit "num", .cap 1]) .nil (.ret (.tup (.cons (.cst (.str "number")) (.cons (.var 1) .nil))))
  (.case (some [.lit "shut", .cap 2, .wild, .wild]) .nil (.ret (.tup (.cons (.cst (.str "function")) (.cons (.var 2) .nil))))
  (.case (some [.lit "kept", .cap 2, .wild]) .nil (.ret (.tup (.cons (.cst (.str "kept")) (.cons (.var 2) .nil))))
  (.case none .nil (.ret (.tup (.cons (.cst (.str "stuck")) (.cons (.idx (.var 0) (.cst (.int (1)))) .nil))))
  .pass)))))
def fn_is_value_putting : Fn where
  ps := ["piece"]
  N := ["piece"]
  body := (.ret (.cmp .in_ (.idx (.var 0) (.cst (.int (0)))) (.glb "VALUES" (.tup [(.str "num"), (.str "shut"), (.str "kept")]))))
def fn_is_done : Fn where
  ps := ["place", "frames"]
  N := ["place", "frames"]
  body := (.ret (.or (.call "is_value_putting" (.cons (.var 0) .nil)) (.call "is_stuck" (.cons (.var 0) (.cons (.var 1) .nil)))))
def fn_is_stuck : Fn where
  ps := ["place", "frames"]
  N := ["place", "frames", "f", "a", "b", "c"]
  body := (.mtch (.var 0) (.case (some [.lit "call", .wild, .cap 2, .wild]) .nil (.ret (.cmp .eq (.idx (.var 2) (.cst (.int (0)))) (.cst (.str "num"))))
  (.case (some [.lit "plus", .wild, .cap 3, .cap 4]) .nil (.ret (.or (.cmp .ne (.idx (.var 3) (.cst (.int (0)))) (.cst (.str "num"))) (.cmp .ne (.idx (.var 4) (.cst (.int (0)))) (.cst (.str "num")))))
  (.case (some [.lit "pick", .wild, .cap 5, .wild, .wild]) .nil (.ret (.cmp .ne (.idx (.var 5) (.cst (.int (0)))) (.cst (.str "num"))))
  (.case (some [.lit "take", .wild, .wild, .wild]) .nil (.ret (.not (.anyR "round" (.var 1))))
  (.case none .nil (.ret (.cst (.bl false)))
  .pass))))))
  gen := true
def fn_found : Fn where
  ps := ["piece", "frames"]
  N := ["piece", "frames", "further", "frame"]
  body := (.whl (.cst (.bl true)) (.seq (.ifs (.call "is_value_putting" (.cons (.var 0) .nil)) (.seq (.ifs (.not (.var 1)) (.ret (.var 0)) .pass)
  (.set 0 (.call "filled" (.cons (.meth .pop (.var 1) .nil) (.cons (.var 0) .nil))))) .pass)
  (.seq (.set 2 (.call "entered_putting" (.cons (.var 0) .nil)))
  (.seq (.ifs (.cmp .isN (.var 2) (.cst .non)) (.ret (.var 0)) .pass)
  (.seq (.unp [0, 3] (.var 2))
  (.expr (.meth .append (.var 1) (.cons (.var 3) .nil))))))))
def fn_entered_putting : Fn where
  ps := ["piece"]
  N := ["piece", "at", "f", "a", "b", "c"]
  body := (.mtch (.var 0) (.case (some [.lit "call", .cap 1, .cap 2, .cap 3]) (.cmp .notIn (.idx (.var 2) (.cst (.int (0)))) (.glb "VALUES" (.tup [(.str "num"), (.str "shut"), (.str "kept")]))) (.ret (.tup (.cons (.var 2) (.cons (.tup (.cons (.cst (.str "caller")) (.cons (.var 1) (.cons (.var 3) .nil)))) .nil))))
  (.case (some [.lit "call", .cap 1, .cap 2, .cap 3]) (.cmp .notIn (.idx (.var 3) (.cst (.int (0)))) (.glb "VALUES" (.tup [(.str "num"), (.str "shut"), (.str "kept")]))) (.ret (.tup (.cons (.var 3) (.cons (.tup (.cons (.cst (.str "given")) (.cons (.var 1) (.cons (.var 2) .nil)))) .nil))))
  (.case (some [.lit "plus", .cap 1, .cap 3, .cap 4]) (.cmp .notIn (.idx (.var 3) (.cst (.int (0)))) (.glb "VALUES" (.tup [(.str "num"), (.str "shut"), (.str "kept")]))) (.ret (.tup (.cons (.var 3) (.cons (.tup (.cons (.cst (.str "adder")) (.cons (.var 1) (.cons (.var 4) .nil)))) .nil))))
  (.case (some [.lit "plus", .cap 1, .cap 3, .cap 4]) (.cmp .notIn (.idx (.var 4) (.cst (.int (0)))) (.glb "VALUES" (.tup [(.str "num"), (.str "shut"), (.str "kept")]))) (.ret (.tup (.cons (.var 4) (.cons (.tup (.cons (.cst (.str "added")) (.cons (.var 1) (.cons (.var 3) .nil)))) .nil))))
  (.case (some [.lit "pick", .cap 1, .cap 5, .cap 3, .cap 4]) (.cmp .notIn (.idx (.var 5) (.cst (.int (0)))) (.glb "VALUES" (.tup [(.str "num"), (.str "shut"), (.str "kept")]))) (.ret (.tup (.cons (.var 5) (.cons (.tup (.cons (.cst (.str "picker")) (.cons (.var 1) (.cons (.var 3) (.cons (.var 4) .nil))))) .nil))))
  (.case (some [.lit "round", .cap 4]) (.cmp .notIn (.idx (.var 4) (.cst (.int (0)))) (.glb "VALUES" (.tup [(.str "num"), (.str "shut"), (.str "kept")]))) (.ret (.tup (.cons (.var 4) (.cons (.tup (.cons (.cst (.str "round")) .nil)) .nil))))
  (.case none .nil (.ret (.cst .non))
  .pass))))))))
def fn_filled : Fn where
  ps := ["frame", "part"]
  N := ["frame", "part", "at", "a", "f", "b"]
  body := (.mtch (.var 0) (.case (some [.lit "caller", .cap 2, .cap 3]) .nil (.ret (.tup (.cons (.cst (.str "call")) (.cons (.var 2) (.cons (.var 1) (.cons (.var 3) .nil))))))
  (.case (some [.lit "given", .cap 2, .cap 4]) .nil (.ret (.tup (.cons (.cst (.str "call")) (.cons (.var 2) (.cons (.var 4) (.cons (.var 1) .nil))))))
  (.case (some [.lit "adder", .cap 2, .cap 5]) .nil (.ret (.tup (.cons (.cst (.str "plus")) (.cons (.var 2) (.cons (.var 1) (.cons (.var 5) .nil))))))
  (.case (some [.lit "added", .cap 2, .cap 3]) .nil (.ret (.tup (.cons (.cst (.str "plus")) (.cons (.var 2) (.cons (.var 3) (.cons (.var 1) .nil))))))
  (.case (some [.lit "picker", .cap 2, .cap 3, .cap 5]) .nil (.ret (.tup (.cons (.cst (.str "pick")) (.cons (.var 2) (.cons (.var 1) (.cons (.var 3) (.cons (.var 5) .nil)))))))
  (.case none .nil (.ret (.tup (.cons (.cst (.str "round")) (.cons (.var 1) .nil))))
  .pass)))))))
def fn_surrounded : Fn where
  ps := ["piece", "frames"]
  N := ["piece", "frames", "frame"]
  body := (.seq (.for_ (.nm 2) .rev (.cons (.var 1) .nil) (.set 0 (.call "filled" (.cons (.var 2) (.cons (.var 0) .nil)))))
  (.ret (.var 0)))
def fn_changed : Fn where
  ps := ["place", "frames"]
  N := ["place", "frames", "at", "x", "b", "f", "a", "c"]
  body := (.mtch (.var 0) (.case (some [.lit "fun", .cap 2, .cap 3, .cap 4]) .nil (.ret (.tup (.cons (.cst (.str "shut")) (.cons (.var 2) (.cons (.var 3) (.cons (.var 4) .nil))))))
  (.case (some [.lit "call", .wild, .cap 5, .cap 6]) .nil (.ret (.call "called_putting" (.cons (.var 5) (.cons (.var 6) (.cons (.var 1) .nil)))))
  (.case (some [.lit "plus", .wild, .cap 6, .cap 4]) .nil (.ret (.tup (.cons (.cst (.str "num")) (.cons (.bin .add (.idx (.var 6) (.cst (.int (1)))) (.idx (.var 4) (.cst (.int (1))))) .nil))))
  (.case (some [.lit "pick", .wild, .cap 7, .cap 6, .cap 4]) .nil (.ret (.ifx (.cmp .eq (.idx (.var 7) (.cst (.int (1)))) (.cst (.int (0)))) (.var 6) (.var 4)))
  (.case (some [.lit "round", .cap 4]) .nil (.ret (.var 4))
  (.case none .nil (.ret (.call "taken_putting" (.cons (.var 0) (.cons (.var 1) .nil))))
  .pass)))))))
def fn_called_putting : Fn where
  ps := ["f", "a", "frames"]
  N := ["f", "a", "frames"]
  body := (.seq (.ifs (.cmp .eq (.idx (.var 0) (.cst (.int (0)))) (.cst (.str "shut"))) (.ret (.call "put_in" (.cons (.idx (.var 0) (.cst (.int (3)))) (.cons (.idx (.var 0) (.cst (.int (2)))) (.cons (.var 1) .nil))))) .pass)
  (.seq (.expr (.meth .append (.var 2) (.cons (.tup (.cons (.cst (.str "round")) .nil)) .nil)))
  (.seq (.expr (.meth .extend (.var 2) (.cons (.rvs (.idx (.var 0) (.cst (.int (2))))) .nil)))
  (.ret (.var 1)))))
def fn_taken_putting : Fn where
  ps := ["place", "frames"]
  N := ["place", "frames", "_", "at", "x", "b", "held"]
  body := (.seq (.unp [2, 3, 4, 5] (.var 0))
  (.seq (.set 6 (.lst .nil))
  (.seq (.whl (.cmp .ne (.idx (.idx (.var 1) (.neg (.cst (.int (1))))) (.cst (.int (0)))) (.cst (.str "round"))) (.expr (.meth .append (.var 6) (.cons (.meth .pop (.var 1) .nil) .nil))))
  (.ret (.call "put_in" (.cons (.var 5) (.cons (.var 4) (.cons (.tup (.cons (.cst (.str "kept")) (.cons (.var 3) (.cons (.blt .tuple (.cons (.var 6) .nil)) .nil)))) .nil))))))))
def fn_by_machine : Fn where
  ps := ["piece", "fuel"]
  N := ["piece", "fuel", "state", "following"]
  body := (.seq (.expr (.call "check_both" (.cons (.var 0) (.cons (.var 1) .nil))))
  (.seq (.set 2 (.call "first" (.cons (.var 0) .nil)))
  (.seq (.set 3 (.call "moved" (.cons (.var 2) .nil)))
  (.seq (.whl (.cmp .notN (.var 3) (.cst .non)) (.seq (.ifs (.cmp .gt (.idx (.var 3) (.cst (.int (3)))) (.var 1)) (.ret (.tup (.cons (.cst (.str "dry")) .nil))) .pass)
  (.seq (.set 2 (.var 3))
  (.set 3 (.call "moved" (.cons (.var 2) .nil))))))
  (.ret (.call "told_machine" (.cons (.var 2) .nil)))))))
def fn_first : Fn where
  ps := ["piece"]
  N := ["piece"]
  body := (.ret (.tup (.cons (.call "holding" (.cons (.var 0) (.cons (.cst .non) .nil))) (.cons (.cst .non) (.cons (.cst .non) (.cons (.cst (.int (0))) .nil))))))
def fn_holding : Fn where
  ps := ["piece", "names"]
  N := ["piece", "names"]
  body := (.seq (.ifs (.cmp .eq (.idx (.var 0) (.cst (.int (0)))) (.cst (.str "name"))) (.ret (.call "meaning" (.cons (.idx (.var 0) (.cst (.int (1)))) (.cons (.var 1) .nil)))) .pass)
  (.seq (.ifs (.cmp .eq (.idx (.var 0) (.cst (.int (0)))) (.cst (.str "num"))) (.ret (.call "number" (.cons (.idx (.var 0) (.cst (.int (1)))) .nil))) .pass)
  (.ret (.tup (.cons (.var 0) (.cons (.var 1) (.cons (.cst (.int (0))) .nil)))))))
def fn_number : Fn where
  ps := ["n"]
  N := ["n"]
  body := (.ret (.tup (.cons (.tup (.cons (.cst (.str "num")) (.cons (.var 0) .nil))) (.cons (.cst .non) (.cons (.cst (.int (0))) .nil)))))
def fn_meaning : Fn where
  ps := ["x", "names"]
  N := ["x", "names"]
  body := (.seq (.whl (.cmp .ne (.idx (.var 1) (.cst (.int (0)))) (.var 0)) (.set 1 (.idx (.var 1) (.cst (.int (2))))))
  (.ret (.idx (.var 1) (.cst (.int (1))))))
def fn_told_machine : Fn where
  ps := ["state"]
  N := ["state", "held", "near", "_"]
  body := (.seq (.unp [1, 2, 3, 3] (.var 0))
  (.seq (.ifs (.and (.call "is_value_machine" (.cons (.var 1) .nil)) (.cmp .notN (.var 2) (.cst .non))) (.ret (.tup (.cons (.cst (.str "stuck")) (.cons (.idx (.idx (.var 2) (.cst (.int (0)))) (.cst (.int (1)))) .nil)))) .pass)
  (.ret (.call "outcome" (.cons (.idx (.var 1) (.cst (.int (0)))) .nil)))))
def fn_is_value_machine : Fn where
  ps := ["held"]
  N := ["held"]
  body := (.ret (.cmp .in_ (.idx (.idx (.var 0) (.cst (.int (0)))) (.cst (.int (0)))) (.glb "VALUES" (.tup [(.str "num"), (.str "shut"), (.str "kept")]))))
def fn_is_number_machine : Fn where
  ps := ["held"]
  N := ["held"]
  body := (.ret (.cmp .eq (.idx (.idx (.var 0) (.cst (.int (0)))) (.cst (.int (0)))) (.cst (.str "num"))))
def fn_moved : Fn where
  ps := ["state"]
  N := ["state", "held", "near", "beyond", "steps"]
  body := (.seq (.unp [1, 2, 3, 4] (.var 0))
  (.seq (.ifs (.not (.call "is_value_machine" (.cons (.var 1) .nil))) (.ret (.call "entered_machine" (.cons (.var 0) .nil))) .pass)
  (.seq (.ifs (.cmp .notN (.var 2) (.cst .non)) (.ret (.call "returned" (.cons (.var 0) .nil))) .pass)
  (.seq (.ifs (.cmp .notN (.var 3) (.cst .non)) (.ret (.tupM (.cons (.var 1) (.scons (.var 3) (.cons (.bin .add (.var 4) (.cst (.int (1)))) .nil))))) .pass)
  (.ret (.cst .non))))))
def fn_entered_machine : Fn where
  ps := ["state"]
  N := ["state", "piece", "names", "_", "near", "beyond", "steps", "at", "x", "b", "f", "a", "c", "frame"]
  body := (.seq (.unpN [[1, 2, 3], [4], [5], [6]] (.var 0))
  (.mtch (.var 1) (.case (some [.lit "fun", .cap 7, .cap 8, .cap 9]) .nil (.ret (.tup (.cons (.tup (.cons (.tup (.cons (.cst (.str "shut")) (.cons (.var 7) (.cons (.var 8) (.cons (.var 9) .nil))))) (.cons (.var 2) (.cons (.bin .add (.var 6) (.cst (.int (1)))) .nil)))) (.cons (.var 4) (.cons (.var 5) (.cons (.bin .add (.var 6) (.cst (.int (1)))) .nil))))))
  (.case (some [.lit "call", .cap 7, .cap 10, .cap 11]) .nil (.ret (.tup (.cons (.call "holding" (.cons (.var 10) (.cons (.var 2) .nil))) (.cons (.tup (.cons (.tup (.cons (.cst (.str "caller")) (.cons (.var 7) (.cons (.call "holding" (.cons (.var 11) (.cons (.var 2) .nil))) .nil)))) (.cons (.var 4) .nil))) (.cons (.var 5) (.cons (.var 6) .nil))))))
  (.case (some [.lit "plus", .cap 7, .cap 11, .cap 9]) .nil (.ret (.tup (.cons (.call "holding" (.cons (.var 11) (.cons (.var 2) .nil))) (.cons (.tup (.cons (.tup (.cons (.cst (.str "adder")) (.cons (.var 7) (.cons (.call "holding" (.cons (.var 9) (.cons (.var 2) .nil))) .nil)))) (.cons (.var 4) .nil))) (.cons (.var 5) (.cons (.var 6) .nil))))))
  (.case (some [.lit "pick", .cap 7, .cap 12, .cap 11, .cap 9]) .nil (.seq (.set 13 (.tup (.cons (.cst (.str "picker")) (.cons (.var 7) (.cons (.call "holding" (.cons (.var 11) (.cons (.var 2) .nil))) (.cons (.call "holding" (.cons (.var 9) (.cons (.var 2) .nil))) .nil))))))
  (.ret (.tup (.cons (.call "holding" (.cons (.var 12) (.cons (.var 2) .nil))) (.cons (.tup (.cons (.var 13) (.cons (.var 4) .nil))) (.cons (.var 5) (.cons (.var 6) .nil)))))))
  (.case (some [.lit "round", .cap 9]) .nil (.ret (.tup (.cons (.call "holding" (.cons (.var 9) (.cons (.var 2) .nil))) (.cons (.cst .non) (.cons (.tup (.cons (.var 4) (.cons (.var 5) .nil))) (.cons (.var 6) .nil))))))
  (.case none .nil (.ret (.call "taken_machine" (.cons (.var 0) .nil)))
  .pass))))))))
def fn_taken_machine : Fn where
  ps := ["state"]
  N := ["state", "piece", "names", "_", "near", "beyond", "steps", "at", "x", "b", "kept"]
  body := (.seq (.unpN [[1, 2, 3], [4], [5], [6]] (.var 0))
  (.seq (.ifs (.cmp .isN (.var 5) (.cst .non)) (.ret (.cst .non)) .pass)
  (.seq (.unp [3, 7, 8, 9] (.var 1))
  (.seq (.set 10 (.tup (.cons (.tup (.cons (.cst (.str "kept")) (.cons (.var 7) (.cons (.var 4) .nil)))) (.cons (.cst .non) (.cons (.bin .add (.var 6) (.cst (.int (1)))) .nil)))))
  (.ret (.tup (.cons (.call "holding" (.cons (.var 9) (.cons (.tup (.cons (.var 8) (.cons (.var 10) (.cons (.var 2) .nil)))) .nil))) (.cons (.cst .non) (.cons (.var 5) (.cons (.bin .add (.var 6) (.cst (.int (1)))) .nil))))))))))
def fn_returned : Fn where
  ps := ["state"]
  N := ["state", "value", "frame", "near", "beyond", "steps", "at", "a", "f", "b"]
  body := (.seq (.unpN [[1], [2, 3], [4], [5]] (.var 0))
  (.mtch (.var 2) (.case (some [.lit "caller", .cap 6, .cap 7]) .nil (.ret (.tup (.cons (.var 7) (.cons (.tup (.cons (.tup (.cons (.cst (.str "given")) (.cons (.var 6) (.cons (.var 1) .nil)))) (.cons (.var 3) .nil))) (.cons (.var 4) (.cons (.var 5) .nil))))))
  (.case (some [.lit "given", .wild, .cap 8]) .nil (.ret (.call "called_machine" (.cons (.var 8) (.cons (.var 1) (.cons (.tup (.cons (.var 3) (.cons (.var 4) .nil))) (.cons (.var 5) .nil))))))
  (.case (some [.lit "adder", .cap 6, .cap 9]) .nil (.ret (.tup (.cons (.var 9) (.cons (.tup (.cons (.tup (.cons (.cst (.str "added")) (.cons (.var 6) (.cons (.var 1) .nil)))) (.cons (.var 3) .nil))) (.cons (.var 4) (.cons (.var 5) .nil))))))
  (.case (some [.lit "added", .wild, .cap 7]) .nil (.seq (.ifs (.or (.not (.call "is_number_machine" (.cons (.var 7) .nil))) (.not (.call "is_number_machine" (.cons (.var 1) .nil)))) (.ret (.cst .non)) .pass)
  (.ret (.tup (.cons (.call "number" (.cons (.bin .add (.idx (.idx (.var 7) (.cst (.int (0)))) (.cst (.int (1)))) (.idx (.idx (.var 1) (.cst (.int (0)))) (.cst (.int (1))))) .nil)) (.cons (.var 3) (.cons (.var 4) (.cons (.bin .add (.var 5) (.cst (.int (1)))) .nil)))))))
  (.case (some [.lit "picker", .wild, .cap 7, .cap 9]) .nil (.seq (.ifs (.not (.call "is_number_machine" (.cons (.var 1) .nil))) (.ret (.cst .non)) .pass)
  (.ret (.tup (.cons (.ifx (.cmp .eq (.idx (.idx (.var 1) (.cst (.int (0)))) (.cst (.int (1)))) (.cst (.int (0)))) (.var 7) (.var 9)) (.cons (.var 3) (.cons (.var 4) (.cons (.bin .add (.var 5) (.cst (.int (1)))) .nil)))))))
  .pass)))))))
def fn_called_machine : Fn where
  ps := ["f", "value", "about", "steps"]
  N := ["f", "value", "about", "steps", "form", "names", "_", "x", "b", "near"]
  body := (.seq (.unp [4, 5, 6] (.var 0))
  (.mtch (.var 4) (.case (some [.lit "shut", .wild, .cap 7, .cap 8]) .nil (.ret (.tupM (.cons (.call "holding" (.cons (.var 8) (.cons (.tup (.cons (.var 7) (.cons (.var 1) (.cons (.var 5) .nil)))) .nil))) (.scons (.var 2) (.cons (.bin .add (.var 3) (.cst (.int (1)))) .nil)))))
  (.case (some [.lit "kept", .wild, .cap 9]) .nil (.ret (.tup (.cons (.var 1) (.cons (.var 9) (.cons (.var 2) (.cons (.bin .add (.var 3) (.cst (.int (1)))) .nil))))))
  (.case none .nil (.ret (.cst .non))
  .pass)))))
def fn_plain : Fn where
  ps := ["piece"]
  N := ["piece"]
  body := (.seq (.expr (.call "check_piece" (.cons (.var 0) .nil)))
  (.ret (.call "term_of" (.cons (.var 0) (.cons (.glb "HALT" (.tup [(.str "halt")])) (.cons (.glb "END" (.tup [(.str "end")])) (.cons (.cst (.int (1))) .nil)))))))
def fn_term_of : Fn where
  ps := ["piece", "k", "g", "level"]
  N := ["piece", "k", "g", "level", "at", "x", "b", "beyond", "body"]
  body := (.mtch (.var 0) (.case (some [.lit "fun", .cap 4, .cap 5, .cap 6]) .nil (.ret (.tup (.cons (.cst (.str "shut")) (.cons (.call "function_of" (.cons (.var 4) (.cons (.var 5) (.cons (.var 6) (.cons (.var 3) .nil))))) (.cons (.var 1) (.cons (.var 2) .nil))))))
  (.case (some [.alt ["call", "plus"], .wild, .wild, .wild]) .nil (.ret (.call "in_turn" (.cons (.var 0) (.cons (.var 1) (.cons (.var 2) (.cons (.var 3) .nil))))))
  (.case (some [.lit "pick", .wild, .wild, .wild, .wild]) .nil (.ret (.call "picking" (.cons (.var 0) (.cons (.var 1) (.cons (.var 2) (.cons (.var 3) .nil))))))
  (.case (some [.lit "round", .cap 6]) .nil (.seq (.set 7 (.fstr "g" (.var 3)))
  (.ret (.tup (.cons (.cst (.str "let")) (.cons (.var 7) (.cons (.call "behind_round" (.cons (.var 1) (.cons (.var 2) (.cons (.var 3) .nil)))) (.cons (.call "term_of" (.cons (.var 6) (.cons (.glb "LEAVER" (.tup [(.str "then"), (.str "v0"), (.str "g0"), (.tup [(.str "leave"), (.tup [(.str "name"), (.str "g0")]), (.tup [(.str "name"), (.str "v0")])])])) (.cons (.tup (.cons (.cst (.str "name")) (.cons (.var 7) .nil))) (.cons (.bin .add (.var 3) (.cst (.int (1)))) .nil))))) .nil)))))))
  (.case (some [.lit "take", .cap 4, .cap 5, .cap 6]) .nil (.seq (.set 8 (.call "term_of" (.cons (.var 6) (.cons (.glb "LEAVER" (.tup [(.str "then"), (.str "v0"), (.str "g0"), (.tup [(.str "leave"), (.tup [(.str "name"), (.str "g0")]), (.tup [(.str "name"), (.str "v0")])])])) (.cons (.var 2) (.cons (.bin .add (.var 3) (.cst (.int (1)))) .nil))))))
  (.ret (.tup (.cons (.cst (.str "ask")) (.cons (.var 4) (.cons (.var 2) (.cons (.tup (.cons (.cst (.str "let")) (.cons (.var 5) (.cons (.call "kept_of" (.cons (.var 4) (.cons (.var 1) (.cons (.var 3) .nil)))) (.cons (.var 8) .nil))))) .nil)))))))
  (.case none .nil (.ret (.tup (.cons (.cst (.str "pass")) (.cons (.var 1) (.cons (.var 0) (.cons (.var 2) .nil))))))
  .pass)))))))
def fn_function_of : Fn where
  ps := ["at", "x", "b", "level"]
  N := ["at", "x", "b", "level", "k", "g"]
  body := (.seq (.set 4 (.fstr "k" (.var 3)))
  (.seq (.set 5 (.fstr "g" (.var 3)))
  (.ret (.tup (.cons (.cst (.str "code")) (.cons (.cst (.str "function")) (.cons (.var 0) (.cons (.var 1) (.cons (.var 4) (.cons (.var 5) (.cons (.call "term_of" (.cons (.var 2) (.cons (.tup (.cons (.cst (.str "name")) (.cons (.var 4) .nil))) (.cons (.tup (.cons (.cst (.str "name")) (.cons (.var 5) .nil))) (.cons (.bin .add (.var 3) (.cst (.int (1)))) .nil))))) .nil)))))))))))
def fn_kept_of : Fn where
  ps := ["at", "k", "level"]
  N := ["at", "k", "level", "value", "outer", "beyond", "inner"]
  body := (.seq (.set 3 (.fstr "v" (.var 2)))
  (.seq (.set 4 (.fstr "k" (.var 2)))
  (.seq (.set 5 (.fstr "g" (.var 2)))
  (.seq (.set 6 (.call "behind_round" (.cons (.tup (.cons (.cst (.str "name")) (.cons (.var 4) .nil))) (.cons (.tup (.cons (.cst (.str "name")) (.cons (.var 5) .nil))) (.cons (.var 2) .nil)))))
  (.ret (.tup (.cons (.cst (.str "code")) (.cons (.cst (.str "kept")) (.cons (.var 0) (.cons (.var 3) (.cons (.var 4) (.cons (.var 5) (.cons (.tup (.cons (.cst (.str "pass")) (.cons (.var 1) (.cons (.tup (.cons (.cst (.str "name")) (.cons (.var 3) .nil))) (.cons (.var 6) .nil))))) .nil)))))))))))))
def fn_behind_round : Fn where
  ps := ["k", "g", "level"]
  N := ["k", "g", "level", "value"]
  body := (.seq (.set 3 (.fstr "r" (.var 2)))
  (.ret (.tup (.cons (.cst (.str "last")) (.cons (.var 3) (.cons (.tup (.cons (.cst (.str "pass")) (.cons (.var 0) (.cons (.tup (.cons (.cst (.str "name")) (.cons (.var 3) .nil))) (.cons (.var 1) .nil))))) .nil))))))
def fn_in_turn : Fn where
  ps := ["piece", "k", "g", "level"]
  N := ["piece", "k", "g", "level", "word", "at", "a", "b", "left", "right", "behind_left", "behind_right", "left_g", "right_g", "both", "other", "rest", "one"]
  body := (.seq (.unp [4, 5, 6, 7] (.var 0))
  (.seq (.set 8 (.fstr "a" (.var 3)))
  (.seq (.set 9 (.fstr "b" (.var 3)))
  (.seq (.set 10 (.fstr "k" (.var 3)))
  (.seq (.set 11 (.fstr "l" (.var 3)))
  (.seq (.set 12 (.fstr "g" (.var 3)))
  (.seq (.set 13 (.fstr "h" (.var 3)))
  (.seq (.set 14 (.tup (.cons (.var 4) (.cons (.var 5) (.cons (.tup (.cons (.cst (.str "name")) (.cons (.var 8) .nil))) (.cons (.tup (.cons (.cst (.str "name")) (.cons (.var 9) .nil))) (.cons (.var 1) (.cons (.tup (.cons (.cst (.str "name")) (.cons (.var 13) .nil))) .nil))))))))
  (.seq (.set 15 (.call "term_of" (.cons (.var 7) (.cons (.tup (.cons (.cst (.str "name")) (.cons (.var 11) .nil))) (.cons (.tup (.cons (.cst (.str "name")) (.cons (.var 12) .nil))) (.cons (.bin .add (.var 3) (.cst (.int (1)))) .nil))))))
  (.seq (.set 16 (.tup (.cons (.cst (.str "let")) (.cons (.var 11) (.cons (.tup (.cons (.cst (.str "then")) (.cons (.var 9) (.cons (.var 13) (.cons (.var 14) .nil))))) (.cons (.var 15) .nil))))))
  (.seq (.set 17 (.call "term_of" (.cons (.var 6) (.cons (.tup (.cons (.cst (.str "name")) (.cons (.var 10) .nil))) (.cons (.var 2) (.cons (.bin .add (.var 3) (.cst (.int (1)))) .nil))))))
  (.ret (.tup (.cons (.cst (.str "let")) (.cons (.var 10) (.cons (.tup (.cons (.cst (.str "then")) (.cons (.var 8) (.cons (.var 12) (.cons (.var 16) .nil))))) (.cons (.var 17) .nil)))))))))))))))))
def fn_picking : Fn where
  ps := ["piece", "k", "g", "level"]
  N := ["piece", "k", "g", "level", "_", "at", "c", "a", "b", "value", "behind", "inner_g", "one", "other", "choice"]
  body := (.seq (.unp [4, 5, 6, 7, 8] (.var 0))
  (.seq (.set 9 (.fstr "c" (.var 3)))
  (.seq (.set 10 (.fstr "k" (.var 3)))
  (.seq (.set 11 (.fstr "g" (.var 3)))
  (.seq (.set 12 (.call "term_of" (.cons (.var 7) (.cons (.var 1) (.cons (.tup (.cons (.cst (.str "name")) (.cons (.var 11) .nil))) (.cons (.bin .add (.var 3) (.cst (.int (1)))) .nil))))))
  (.seq (.set 13 (.call "term_of" (.cons (.var 8) (.cons (.var 1) (.cons (.tup (.cons (.cst (.str "name")) (.cons (.var 11) .nil))) (.cons (.bin .add (.var 3) (.cst (.int (1)))) .nil))))))
  (.seq (.set 14 (.tup (.cons (.cst (.str "pick")) (.cons (.var 5) (.cons (.tup (.cons (.cst (.str "name")) (.cons (.var 9) .nil))) (.cons (.var 12) (.cons (.var 13) .nil)))))))
  (.ret (.tup (.cons (.cst (.str "let")) (.cons (.var 10) (.cons (.tup (.cons (.cst (.str "then")) (.cons (.var 9) (.cons (.var 11) (.cons (.var 14) .nil))))) (.cons (.call "term_of" (.cons (.var 6) (.cons (.tup (.cons (.cst (.str "name")) (.cons (.var 10) .nil))) (.cons (.var 2) (.cons (.bin .add (.var 3) (.cst (.int (1)))) .nil))))) .nil)))))))))))))
def fn_run_plain : Fn where
  ps := ["term", "fuel"]
  N := ["term", "fuel", "names", "made", "following"]
  body := (.seq (.expr (.call "check_fuel" (.cons (.var 1) .nil)))
  (.seq (.set 2 (.cst .non))
  (.seq (.set 3 (.cst (.int (0))))
  (.seq (.set 4 (.call "followed" (.cons (.var 0) (.cons (.var 2) .nil))))
  (.seq (.whl (.cmp .notN (.var 4) (.cst .non)) (.seq (.ifs (.cmp .in_ (.idx (.var 0) (.cst (.int (0)))) (.glb "STEPS" (.tup [(.str "shut"), (.str "call"), (.str "plus"), (.str "pick"), (.str "ask"), (.str "leave")]))) (.seq (.ifs (.cmp .eq (.var 3) (.var 1)) (.ret (.tup (.cons (.cst (.str "dry")) .nil))) .pass)
  (.aug 3 .add (.cst (.int (1))))) .pass)
  (.seq (.unp [0, 2] (.var 4))
  (.set 4 (.call "followed" (.cons (.var 0) (.cons (.var 2) .nil)))))))
  (.ret (.call "told_running" (.cons (.var 0) (.cons (.var 2) .nil)))))))))
def fn_by_plain : Fn where
  ps := ["piece", "fuel"]
  N := ["piece", "fuel"]
  body := (.ret (.call "run_plain" (.cons (.call "plain" (.cons (.var 0) .nil)) (.cons (.var 1) .nil))))
def fn_told_running : Fn where
  ps := ["term", "names"]
  N := ["term", "names", "form", "_"]
  body := (.seq (.ifs (.cmp .ne (.idx (.var 0) (.cst (.int (0)))) (.cst (.str "pass"))) (.ret (.tup (.cons (.cst (.str "stuck")) (.cons (.idx (.var 0) (.cst (.int (1)))) .nil)))) .pass)
  (.seq (.unp [2, 3] (.call "meant" (.cons (.idx (.var 0) (.cst (.int (2)))) (.cons (.var 1) .nil))))
  (.seq (.ifs (.cmp .eq (.idx (.var 2) (.cst (.int (0)))) (.cst (.str "num"))) (.ret (.tup (.cons (.cst (.str "number")) (.cons (.idx (.var 2) (.cst (.int (1)))) .nil)))) .pass)
  (.ret (.tup (.cons (.idx (.var 2) (.cst (.int (1)))) (.cons (.idx (.var 2) (.cst (.int (2)))) .nil)))))))
def fn_meant : Fn where
  ps := ["simple", "names"]
  N := ["simple", "names"]
  body := (.seq (.ifs (.cmp .eq (.idx (.var 0) (.cst (.int (0)))) (.cst (.str "name"))) (.ret (.call "meaning" (.cons (.idx (.var 0) (.cst (.int (1)))) (.cons (.var 1) .nil)))) .pass)
  (.ret (.tup (.cons (.var 0) (.cons (.ifx (.cmp .in_ (.idx (.var 0) (.cst (.int (0)))) (.glb "BARE" (.tup [(.str "num"), (.str "halt"), (.str "end")]))) (.cst .non) (.var 1)) .nil)))))
def fn_is_number_running : Fn where
  ps := ["value"]
  N := ["value"]
  body := (.ret (.cmp .eq (.idx (.idx (.var 0) (.cst (.int (0)))) (.cst (.int (0)))) (.cst (.str "num"))))
def fn_followed : Fn where
  ps := ["term", "names"]
  N := ["term", "names", "w", "p", "t", "k", "g", "q", "form", "_"]
  body := (.mtch (.var 0) (.case (some [.lit "let", .cap 2, .cap 3, .cap 4]) .nil (.ret (.tup (.cons (.var 4) (.cons (.tup (.cons (.var 2) (.cons (.call "meant" (.cons (.var 3) (.cons (.var 1) .nil))) (.cons (.var 1) .nil)))) .nil))))
  (.case (some [.lit "pass", .cap 5, .cap 3, .cap 6]) .nil (.ret (.call "passed" (.cons (.call "meant" (.cons (.var 5) (.cons (.var 1) .nil))) (.cons (.call "meant" (.cons (.var 3) (.cons (.var 1) .nil))) (.cons (.call "meant" (.cons (.var 6) (.cons (.var 1) .nil))) .nil)))))
  (.case (some [.lit "leave", .cap 6, .cap 3]) .nil (.ret (.call "left" (.cons (.call "meant" (.cons (.var 6) (.cons (.var 1) .nil))) (.cons (.call "meant" (.cons (.var 3) (.cons (.var 1) .nil))) .nil))))
  (.case (some [.lit "shut", .cap 3, .cap 5, .cap 6]) .nil (.ret (.call "given" (.cons (.call "meant" (.cons (.var 5) (.cons (.var 1) .nil))) (.cons (.call "meant" (.cons (.var 3) (.cons (.var 1) .nil))) (.cons (.call "meant" (.cons (.var 6) (.cons (.var 1) .nil))) .nil)))))
  (.case (some [.lit "call", .wild, .cap 3, .cap 7, .cap 5, .cap 6]) .nil (.ret (.call "called_running" (.cons (.call "meant" (.cons (.var 3) (.cons (.var 1) .nil))) (.cons (.call "meant" (.cons (.var 7) (.cons (.var 1) .nil))) (.cons (.call "meant" (.cons (.var 5) (.cons (.var 1) .nil))) (.cons (.call "meant" (.cons (.var 6) (.cons (.var 1) .nil))) .nil))))))
  (.case (some [.lit "plus", .wild, .cap 3, .cap 7, .cap 5, .cap 6]) .nil (.ret (.call "added" (.cons (.call "meant" (.cons (.var 3) (.cons (.var 1) .nil))) (.cons (.call "meant" (.cons (.var 7) (.cons (.var 1) .nil))) (.cons (.call "meant" (.cons (.var 5) (.cons (.var 1) .nil))) (.cons (.call "meant" (.cons (.var 6) (.cons (.var 1) .nil))) .nil))))))
  (.case (some [.lit "pick", .wild, .cap 3, .wild, .wild]) .nil (.ret (.call "picked" (.cons (.var 0) (.cons (.call "meant" (.cons (.var 3) (.cons (.var 1) .nil))) (.cons (.var 1) .nil)))))
  (.case (some [.wild, .wild, .cap 6, .cap 4]) .nil (.seq (.unp [8, 9] (.call "meant" (.cons (.var 6) (.cons (.var 1) .nil))))
  (.ret (.ifx (.cmp .eq (.idx (.var 8) (.cst (.int (0)))) (.cst (.str "end"))) (.cst .non) (.tup (.cons (.var 4) (.cons (.var 1) .nil))))))
  .pass)))))))))
def fn_passed : Fn where
  ps := ["k", "p", "g"]
  N := ["k", "p", "g", "form", "names", "_", "w", "x", "t"]
  body := (.seq (.unp [3, 4] (.var 0))
  (.seq (.ifs (.cmp .eq (.idx (.var 3) (.cst (.int (0)))) (.cst (.str "halt"))) (.ret (.cst .non)) .pass)
  (.seq (.unp [5, 6, 7, 8] (.var 3))
  (.ret (.tup (.cons (.var 8) (.cons (.tup (.cons (.var 7) (.cons (.var 2) (.cons (.tup (.cons (.var 6) (.cons (.var 1) (.cons (.var 4) .nil)))) .nil)))) .nil)))))))
def fn_left : Fn where
  ps := ["g", "p"]
  N := ["g", "p", "_", "w", "t", "names"]
  body := (.seq (.unpN [[2, 3, 4], [5]] (.var 0))
  (.ret (.tup (.cons (.var 4) (.cons (.tup (.cons (.var 3) (.cons (.var 1) (.cons (.var 5) .nil)))) .nil)))))
def fn_given : Fn where
  ps := ["k", "p", "g"]
  N := ["k", "p", "g"]
  body := (.ret (.tup (.cons (.glb "GIVING" (.tup [(.str "pass"), (.tup [(.str "name"), (.str "k")]), (.tup [(.str "name"), (.str "p")]), (.tup [(.str "name"), (.str "g")])])) (.cons (.tup (.cons (.cst (.str "k")) (.cons (.var 0) (.cons (.tup (.cons (.cst (.str "p")) (.cons (.var 1) (.cons (.tup (.cons (.cst (.str "g")) (.cons (.var 2) (.cons (.cst .non) .nil)))) .nil)))) .nil)))) .nil))))
def fn_called_running : Fn where
  ps := ["p", "q", "k", "g"]
  N := ["p", "q", "k", "g", "form", "names", "_", "w", "x", "y", "t"]
  body := (.seq (.unp [4, 5] (.var 0))
  (.seq (.ifs (.cmp .ne (.idx (.var 4) (.cst (.int (0)))) (.cst (.str "code"))) (.ret (.cst .non)) .pass)
  (.seq (.unp [6, 6, 6, 7, 8, 9, 10] (.var 4))
  (.ret (.tup (.cons (.var 10) (.cons (.tup (.cons (.var 9) (.cons (.var 3) (.cons (.tup (.cons (.var 8) (.cons (.var 2) (.cons (.tup (.cons (.var 7) (.cons (.var 1) (.cons (.var 5) .nil)))) .nil)))) .nil)))) .nil)))))))
def fn_added : Fn where
  ps := ["p", "q", "k", "g"]
  N := ["p", "q", "k", "g"]
  body := (.seq (.ifs (.or (.not (.call "is_number_running" (.cons (.var 0) .nil))) (.not (.call "is_number_running" (.cons (.var 1) .nil)))) (.ret (.cst .non)) .pass)
  (.ret (.call "given" (.cons (.var 2) (.cons (.tup (.cons (.tup (.cons (.cst (.str "num")) (.cons (.bin .add (.idx (.idx (.var 0) (.cst (.int (0)))) (.cst (.int (1)))) (.idx (.idx (.var 1) (.cst (.int (0)))) (.cst (.int (1))))) .nil))) (.cons (.cst .non) .nil))) (.cons (.var 3) .nil))))))
def fn_picked : Fn where
  ps := ["term", "p", "names"]
  N := ["term", "p", "names", "_", "one", "other"]
  body := (.seq (.ifs (.not (.call "is_number_running" (.cons (.var 1) .nil))) (.ret (.cst .non)) .pass)
  (.seq (.unp [3, 3, 3, 4, 5] (.var 0))
  (.ret (.tup (.cons (.ifx (.cmp .eq (.idx (.idx (.var 1) (.cst (.int (0)))) (.cst (.int (1)))) (.cst (.int (0)))) (.var 4) (.var 5)) (.cons (.var 2) .nil))))))
def fn__law_cell_at : Fn where
  ps := ["_law_script", "_law_k"]
  N := ["_law_script", "_law_k"]
  body := (.seq (.ifs (.cmp .lt (.var 1) (.blt .len (.cons (.var 0) .nil))) (.ret (.idx (.var 0) (.var 1))) .pass)
  (.ret (.cst (.int (0)))))
def fn__law_mixed : Fn where
  ps := ["_law_number"]
  N := ["_law_number", "_law_first"]
  body := (.seq (.set 1 (.bin .mod (.bin .add (.bin .mul (.var 0) (.cst (.int (48271)))) (.cst (.int (7919)))) (.cst (.int (2147483647)))))
  (.ret (.bin .mod (.bin .add (.bin .mul (.var 1) (.var 1)) (.bin .fdiv (.var 1) (.cst (.int (7))))) (.cst (.int (2147483647))))))
def fn__law_frame_by : Fn where
  ps := ["_law_mix"]
  N := ["_law_mix", "_law_mark"]
  body := (.seq (.set 1 (.bin .mod (.bin .fdiv (.var 0) (.cst (.int (5)))) (.cst (.int (9990)))))
  (.seq (.ifs (.cmp .eq (.bin .mod (.var 0) (.cst (.int (5)))) (.cst (.int (0)))) (.ret (.tup (.cons (.cst (.str "adder")) (.cons (.var 1) (.cons (.tup (.cons (.cst (.str "num")) (.cons (.bin .mod (.bin .fdiv (.var 0) (.cst (.int (7)))) (.cst (.int (9)))) .nil))) .nil))))) .pass)
  (.seq (.ifs (.cmp .eq (.bin .mod (.var 0) (.cst (.int (5)))) (.cst (.int (1)))) (.ret (.tup (.cons (.cst (.str "added")) (.cons (.var 1) (.cons (.tup (.cons (.cst (.str "num")) (.cons (.bin .mod (.bin .fdiv (.var 0) (.cst (.int (7)))) (.cst (.int (9)))) .nil))) .nil))))) .pass)
  (.seq (.ifs (.cmp .eq (.bin .mod (.var 0) (.cst (.int (5)))) (.cst (.int (2)))) (.ret (.tup (.cons (.cst (.str "given")) (.cons (.var 1) (.cons (.tup (.cons (.cst (.str "shut")) (.cons (.var 1) (.cons (.cst (.str "x")) (.cons (.tup (.cons (.cst (.str "name")) (.cons (.cst (.str "x")) .nil))) .nil))))) .nil))))) .pass)
  (.seq (.ifs (.cmp .eq (.bin .mod (.var 0) (.cst (.int (5)))) (.cst (.int (3)))) (.ret (.tup (.cons (.cst (.str "picker")) (.cons (.var 1) (.cons (.tup (.cons (.cst (.str "num")) (.cons (.cst (.int (3))) .nil))) (.cons (.tup (.cons (.cst (.str "num")) (.cons (.bin .mod (.bin .fdiv (.var 0) (.cst (.int (7)))) (.cst (.int (9)))) .nil))) .nil)))))) .pass)
  (.ret (.tup (.cons (.cst (.str "caller")) (.cons (.var 1) (.cons (.tup (.cons (.cst (.str "num")) (.cons (.cst (.int (4))) .nil))) .nil))))))))))
def fn__law_about : Fn where
  ps := ["_law_frame", "_law_inner"]
  N := ["_law_frame", "_law_inner"]
  body := (.seq (.ifs (.or (.cmp .eq (.idx (.var 0) (.cst (.int (0)))) (.cst (.str "adder"))) (.cmp .eq (.idx (.var 0) (.cst (.int (0)))) (.cst (.str "caller")))) (.ret (.tupN (.cons (.idx (.lst (.cons (.cst (.str "plus")) (.cons (.cst (.str "call")) .nil))) (.blt .int (.cons (.cmp .eq (.idx (.var 0) (.cst (.int (0)))) (.cst (.str "caller"))) .nil))) (.cons (.idx (.var 0) (.cst (.int (1)))) (.cons (.var 1) (.cons (.idx (.var 0) (.cst (.int (2)))) .nil)))))) .pass)
  (.seq (.ifs (.or (.cmp .eq (.idx (.var 0) (.cst (.int (0)))) (.cst (.str "added"))) (.cmp .eq (.idx (.var 0) (.cst (.int (0)))) (.cst (.str "given")))) (.ret (.tupN (.cons (.idx (.lst (.cons (.cst (.str "plus")) (.cons (.cst (.str "call")) .nil))) (.blt .int (.cons (.cmp .eq (.idx (.var 0) (.cst (.int (0)))) (.cst (.str "given"))) .nil))) (.cons (.idx (.var 0) (.cst (.int (1)))) (.cons (.idx (.var 0) (.cst (.int (2)))) (.cons (.var 1) .nil)))))) .pass)
  (.seq (.ifs (.cmp .eq (.idx (.var 0) (.cst (.int (0)))) (.cst (.str "picker"))) (.ret (.tupN (.cons (.cst (.str "pick")) (.cons (.idx (.var 0) (.cst (.int (1)))) (.cons (.var 1) (.cons (.idx (.var 0) (.cst (.int (2)))) (.cons (.idx (.var 0) (.cst (.int (3)))) .nil))))))) .pass)
  (.ret (.tupN (.cons (.cst (.str "round")) (.cons (.var 1) .nil)))))))
def fn__law_in : Fn where
  ps := ["_law_frames", "_law_inner"]
  N := ["_law_frames", "_law_inner", "_law_frame"]
  body := (.seq (.for_ (.nm 2) .one (.cons (.var 0) .nil) (.set 1 (.cot (.call "_law_about" (.cons (.var 2) (.cons (.var 1) .nil))))))
  (.ret (.var 1)))
def fn__law_same : Fn where
  ps := ["_law_piece", "_law_frames", "_law_inner"]
  N := ["_law_piece", "_law_frames", "_law_inner", "_law_frame", "_law_due", "_law_at"]
  body := (.seq (.for_ (.nm 3) .one (.cons (.rvs (.var 1)) .nil) (.seq (.set 4 (.call "_law_about" (.cons (.var 3) (.cons (.cst .non) .nil))))
  (.seq (.set 5 (.meth .tindex (.var 4) (.cons (.cst .non) .nil)))
  (.seq (.ifs (.or (.not (.isi (.var 0) "tuple")) (.or (.cmp .ne (.blt .len (.cons (.var 0) .nil)) (.blt .len (.cons (.cot (.var 4)) .nil))) (.cmp .ge (.var 5) (.blt .len (.cons (.var 0) .nil))))) (.ret (.cst (.bl false))) .pass)
  (.seq (.ifs (.or (.cmp .ne (.slc (.var 0) .nil (.cons (.var 5) .nil)) (.slc (.cot (.var 4)) .nil (.cons (.var 5) .nil))) (.cmp .ne (.slc (.var 0) (.cons (.bin .add (.var 5) (.cst (.int (1)))) .nil) .nil) (.slc (.cot (.var 4)) (.cons (.bin .add (.var 5) (.cst (.int (1)))) .nil) .nil))) (.ret (.cst (.bl false))) .pass)
  (.set 0 (.idx (.var 0) (.var 5))))))))
  (.ret (.cmp .eq (.var 0) (.var 2))))
def fn__law_goes : Fn where
  ps := ["_law_piece", "_law_frames", "_law_inner"]
  N := ["_law_piece", "_law_frames", "_law_inner", "_law_found"]
  body := (.seq (.set 3 (.call "stepped" (.cons (.var 0) .nil)))
  (.seq (.ifs (.or (.not (.isi (.var 3) "tuple")) (.or (.cmp .ne (.blt .len (.cons (.var 3) .nil)) (.cst (.int (2)))) (.cmp .ne (.idx (.var 3) (.cst (.int (0)))) (.cst (.str "step"))))) (.ret (.cst .non)) .pass)
  (.seq (.ifs (.not (.call "_law_same" (.cons (.idx (.var 3) (.cst (.int (1)))) (.cons (.var 1) (.cons (.var 2) .nil))))) (.ret (.cst .non)) .pass)
  (.ret (.idx (.var 3) (.cst (.int (1))))))))
def fn__law_many_frames : Fn where
  ps := ["_law_script"]
  N := ["_law_script", "_law_mix", "_law_frames", "_law_at", "_law_way", "_law_take", "_law_kept", "_law_further", "_law_k"]
  body := (.seq (.set 1 (.call "_law_mixed" (.cons (.call "_law_cell_at" (.cons (.var 0) (.cons (.cst (.int (0))) .nil))) .nil)))
  (.seq (.set 2 (.comp [("_law_k", 8)] (.nm 8) .rng1 (.cons (.bin .add (.cst (.int (900))) (.bin .mod (.var 1) (.cst (.int (900))))) .nil) .nil (.call "_law_frame_by" (.cons (.call "_law_mixed" (.cons (.bin .add (.var 1) (.var 8)) .nil)) .nil))))
  (.seq (.set 3 (.bin .mod (.bin .fdiv (.var 1) (.cst (.int (900)))) (.blt .len (.cons (.var 2) .nil))))
  (.seq (.ifs (.cmp .gt (.bin .mod (.bin .fdiv (.var 1) (.cst (.int (7)))) (.cst (.int (4)))) (.cst (.int (0)))) (.setIx (.var 2) (.var 3) (.tup (.cons (.cst (.str "round")) .nil))) .pass)
  (.seq (.set 4 (.bin .mod (.call "_law_cell_at" (.cons (.var 0) (.cons (.cst (.int (1))) .nil))) (.cst (.int (4)))))
  (.seq (.ifs (.cmp .eq (.var 4) (.cst (.int (0)))) (.ret (.cmp .notN (.call "_law_goes" (.cons (.call "_law_in" (.cons (.var 2) (.cons (.tup (.cons (.cst (.str "plus")) (.cons (.cst (.int (1))) (.cons (.tup (.cons (.cst (.str "num")) (.cons (.cst (.int (2))) .nil))) (.cons (.tup (.cons (.cst (.str "num")) (.cons (.cst (.int (3))) .nil))) .nil))))) .nil))) (.cons (.var 2) (.cons (.tup (.cons (.cst (.str "num")) (.cons (.cst (.int (5))) .nil))) .nil)))) (.cst .non))) .pass)
  (.seq (.ifs (.cmp .eq (.var 4) (.cst (.int (1)))) (.ret (.cmp .eq (.call "stepped" (.cons (.call "_law_in" (.cons (.var 2) (.cons (.tup (.cons (.cst (.str "call")) (.cons (.cst (.int (9999))) (.cons (.tup (.cons (.cst (.str "num")) (.cons (.cst (.int (2))) .nil))) (.cons (.tup (.cons (.cst (.str "num")) (.cons (.cst (.int (3))) .nil))) .nil))))) .nil))) .nil)) (.tup (.cons (.cst (.str "stuck")) (.cons (.cst (.int (9999))) .nil))))) .pass)
  (.seq (.set 5 (.tup (.cons (.cst (.str "take")) (.cons (.cst (.int (9998))) (.cons (.cst (.str "k")) (.cons (.tup (.cons (.cst (.str "call")) (.cons (.cst (.int (9997))) (.cons (.tup (.cons (.cst (.str "name")) (.cons (.cst (.str "k")) .nil))) (.cons (.tup (.cons (.cst (.str "num")) (.cons (.cst (.int (8))) .nil))) .nil))))) .nil))))))
  (.seq (.ifs (.cmp .notIn (.tup (.cons (.cst (.str "round")) .nil)) (.var 2)) (.ret (.cmp .eq (.call "stepped" (.cons (.call "_law_in" (.cons (.var 2) (.cons (.var 5) .nil))) .nil)) (.tup (.cons (.cst (.str "stuck")) (.cons (.cst (.int (9998))) .nil))))) .pass)
  (.seq (.set 6 (.tup (.cons (.cst (.str "call")) (.cons (.cst (.int (9997))) (.cons (.tup (.cons (.cst (.str "kept")) (.cons (.cst (.int (9998))) (.cons (.blt .tuple (.cons (.slc (.var 2) .nil (.cons (.var 3) .nil)) .nil)) .nil)))) (.cons (.tup (.cons (.cst (.str "num")) (.cons (.cst (.int (8))) .nil))) .nil))))))
  (.seq (.set 7 (.call "_law_goes" (.cons (.call "_law_in" (.cons (.var 2) (.cons (.var 5) .nil))) (.cons (.slc (.var 2) (.cons (.var 3) .nil) .nil) (.cons (.var 6) .nil)))))
  (.seq (.ifs (.cmp .isN (.var 7) (.cst .non)) (.ret (.cst (.bl false))) .pass)
  (.ret (.cmp .notN (.call "_law_goes" (.cons (.var 7) (.cons (.bin .add (.bin .add (.slc (.var 2) .nil (.cons (.var 3) .nil)) (.lst (.cons (.tup (.cons (.cst (.str "round")) .nil)) .nil))) (.slc (.var 2) (.cons (.var 3) .nil) .nil)) (.cons (.tup (.cons (.cst (.str "num")) (.cons (.cst (.int (8))) .nil))) .nil)))) (.cst .non)))))))))))))))
def fn__law_counting : Fn where
  ps := ["_law_many"]
  N := ["_law_many", "_law_less", "_law_further", "_law_body", "_law_own"]
  body := (.seq (.set 1 (.tup (.cons (.cst (.str "plus")) (.cons (.cst (.int (6))) (.cons (.tup (.cons (.cst (.str "name")) (.cons (.cst (.str "n")) .nil))) (.cons (.tup (.cons (.cst (.str "num")) (.cons (.neg (.cst (.int (1)))) .nil))) .nil))))))
  (.seq (.set 2 (.tup (.cons (.cst (.str "call")) (.cons (.cst (.int (4))) (.cons (.tup (.cons (.cst (.str "call")) (.cons (.cst (.int (5))) (.cons (.tup (.cons (.cst (.str "name")) (.cons (.cst (.str "f")) .nil))) (.cons (.tup (.cons (.cst (.str "name")) (.cons (.cst (.str "f")) .nil))) .nil))))) (.cons (.var 1) .nil))))))
  (.seq (.set 3 (.tup (.cons (.cst (.str "pick")) (.cons (.cst (.int (3))) (.cons (.tup (.cons (.cst (.str "name")) (.cons (.cst (.str "n")) .nil))) (.cons (.tup (.cons (.cst (.str "num")) (.cons (.cst (.int (0))) .nil))) (.cons (.tup (.cons (.cst (.str "plus")) (.cons (.cst (.int (7))) (.cons (.tup (.cons (.cst (.str "num")) (.cons (.cst (.int (1))) .nil))) (.cons (.var 2) .nil))))) .nil)))))))
  (.seq (.set 4 (.tup (.cons (.cst (.str "fun")) (.cons (.cst (.int (1))) (.cons (.cst (.str "f")) (.cons (.tup (.cons (.cst (.str "fun")) (.cons (.cst (.int (2))) (.cons (.cst (.str "n")) (.cons (.var 3) .nil))))) .nil))))))
  (.ret (.tup (.cons (.cst (.str "call")) (.cons (.cst (.int (8))) (.cons (.tup (.cons (.cst (.str "call")) (.cons (.cst (.int (9))) (.cons (.var 4) (.cons (.var 4) .nil))))) (.cons (.tup (.cons (.cst (.str "num")) (.cons (.var 0) .nil))) .nil))))))))))
def fn_law : Fn where
  ps := ["_law_script"]
  N := ["_law_script", "_law_mix", "_law_many", "_law_few"]
  body := (.seq (.set 1 (.call "_law_mixed" (.cons (.call "_law_cell_at" (.cons (.var 0) (.cons (.cst (.int (2))) .nil))) .nil)))
  (.seq (.ifs (.not (.call "_law_many_frames" (.cons (.var 0) .nil))) (.ret (.cst (.bl false))) .pass)
  (.seq (.set 2 (.bin .add (.cst (.int (300))) (.bin .mod (.var 1) (.cst (.int (1100))))))
  (.seq (.ifs (.cmp .ne (.call "by_machine" (.cons (.call "_law_counting" (.cons (.var 2) .nil)) (.cons (.bin .pow (.cst (.int (10))) (.cst (.int (6)))) .nil))) (.tup (.cons (.cst (.str "number")) (.cons (.var 2) .nil)))) (.ret (.cst (.bl false))) .pass)
  (.seq (.set 3 (.bin .add (.cst (.int (20))) (.bin .mod (.bin .fdiv (.var 1) (.cst (.int (1100)))) (.cst (.int (100))))))
  (.seq (.ifs (.cmp .ne (.call "by_plain" (.cons (.call "_law_counting" (.cons (.var 2) .nil)) (.cons (.bin .pow (.cst (.int (10))) (.cst (.int (6)))) .nil))) (.tup (.cons (.cst (.str "number")) (.cons (.var 2) .nil)))) (.ret (.cst (.bl false))) .pass)
  (.ret (.cmp .eq (.call "by_putting" (.cons (.call "_law_counting" (.cons (.var 3) .nil)) (.cons (.bin .pow (.cst (.int (10))) (.cst (.int (6)))) .nil))) (.tup (.cons (.cst (.str "number")) (.cons (.var 3) .nil)))))))))))
def sx : Sx where
  blt := ["all", "any", "bool", "int", "isinstance", "len", "range", "reversed", "set", "sorted", "str", "tuple", "zip"]
  gl := [("NUMBER_END", (.int (1000000000000))), ("LAST_MARK", (.int (9999))), ("LONGEST_NAME", (.int (8))), ("MOST_KNOTS", (.int (300))), ("DEEPEST", (.int (30))), ("BINDERS", (.tup [(.str "fun"), (.str "take")])), ("MOST_FUEL", (.int (1000000))), ("VALUES", (.tup [(.str "num"), (.str "shut"), (.str "kept")])), ("HALT", (.tup [(.str "halt")])), ("END", (.tup [(.str "end")])), ("LEAVER", (.tup [(.str "then"), (.str "v0"), (.str "g0"), (.tup [(.str "leave"), (.tup [(.str "name"), (.str "g0")]), (.tup [(.str "name"), (.str "v0")])])])), ("STEPS", (.tup [(.str "shut"), (.str "call"), (.str "plus"), (.str "pick"), (.str "ask"), (.str "leave")])), ("BARE", (.tup [(.str "num"), (.str "halt"), (.str "end")])), ("GIVING", (.tup [(.str "pass"), (.tup [(.str "name"), (.str "k")]), (.tup [(.str "name"), (.str "p")]), (.tup [(.str "name"), (.str "g")])]))]
  gd := [("FORMS", gd_FORMS)]
  fns := ((["is_piece", "is_closed", "free_names", "parts_of", "is_knot", "fits", "is_whole", "is_name", "check_piece", "check_fuel", "check_both", "put_in", "stepped", "by_putting", "outcome", "is_value_putting", "is_done", "is_stuck", "found", "entered_putting", "filled", "surrounded", "changed", "called_putting", "taken_putting", "by_machine", "first", "holding"] : List Str) ++ (((["number", "meaning", "told_machine", "is_value_machine", "is_number_machine", "moved", "entered_machine", "taken_machine", "returned", "called_machine", "plain", "term_of", "function_of", "kept_of", "behind_round", "in_turn", "picking", "run_plain", "by_plain", "told_running", "meant", "is_number_running", "followed", "passed", "left", "given", "called_running", "added"] : List Str) ++ (["picked", "_law_cell_at", "_law_mixed", "_law_frame_by", "_law_about", "_law_in", "_law_same", "_law_goes", "_law_many_frames", "_law_counting", "law"] : List Str)) : List Str))
def tb (f : Str) : Option Fn :=
  bif f == "is_piece" then some fn_is_piece
  else bif f == "is_closed" then some fn_is_closed
  else bif f == "free_names" then some fn_free_names
  else bif f == "parts_of" then some fn_parts_of
  else bif f == "is_knot" then some fn_is_knot
  else bif f == "fits" then some fn_fits
  else bif f == "is_whole" then some fn_is_whole
  else bif f == "is_name" then some fn_is_name
  else bif f == "check_piece" then some fn_check_piece
  else bif f == "check_fuel" then some fn_check_fuel
  else bif f == "check_both" then some fn_check_both
  else bif f == "put_in" then some fn_put_in
  else bif f == "stepped" then some fn_stepped
  else bif f == "by_putting" then some fn_by_putting
  else bif f == "outcome" then some fn_outcome
  else bif f == "is_value_putting" then some fn_is_value_putting
  else bif f == "is_done" then some fn_is_done
  else bif f == "is_stuck" then some fn_is_stuck
  else bif f == "found" then some fn_found
  else bif f == "entered_putting" then some fn_entered_putting
  else bif f == "filled" then some fn_filled
  else bif f == "surrounded" then some fn_surrounded
  else bif f == "changed" then some fn_changed
  else bif f == "called_putting" then some fn_called_putting
  else bif f == "taken_putting" then some fn_taken_putting
  else bif f == "by_machine" then some fn_by_machine
  else bif f == "first" then some fn_first
  else bif f == "holding" then some fn_holding
  else bif f == "number" then some fn_number
  else bif f == "meaning" then some fn_meaning
  else bif f == "told_machine" then some fn_told_machine
  else bif f == "is_value_machine" then some fn_is_value_machine
  else bif f == "is_number_machine" then some fn_is_number_machine
  else bif f == "moved" then some fn_moved
  else bif f == "entered_machine" then some fn_entered_machine
  else bif f == "taken_machine" then some fn_taken_machine
  else bif f == "returned" then some fn_returned
  else bif f == "called_machine" then some fn_called_machine
  else bif f == "plain" then some fn_plain
  else bif f == "term_of" then some fn_term_of
  else bif f == "function_of" then some fn_function_of
  else bif f == "kept_of" then some fn_kept_of
  else bif f == "behind_round" then some fn_behind_round
  else bif f == "in_turn" then some fn_in_turn
  else bif f == "picking" then some fn_picking
  else bif f == "run_plain" then some fn_run_plain
  else bif f == "by_plain" then some fn_by_plain
  else bif f == "told_running" then some fn_told_running
  else bif f == "meant" then some fn_meant
  else bif f == "is_number_running" then some fn_is_number_running
  else bif f == "followed" then some fn_followed
  else bif f == "passed" then some fn_passed
  else bif f == "left" then some fn_left
  else bif f == "given" then some fn_given
  else bif f == "called_running" then some fn_called_running
  else bif f == "added" then some fn_added
  else bif f == "picked" then some fn_picked
  else bif f == "_law_cell_at" then some fn__law_cell_at
  else bif f == "_law_mixed" then some fn__law_mixed
  else bif f == "_law_frame_by" then some fn__law_frame_by
  else bif f == "_law_about" then some fn__law_about
  else bif f == "_law_in" then some fn__law_in
  else bif f == "_law_same" then some fn__law_same
  else bif f == "_law_goes" then some fn__law_goes
  else bif f == "_law_many_frames" then some fn__law_many_frames
  else bif f == "_law_counting" then some fn__law_counting
  else bif f == "law" then some fn_law
  else none
@[simp] theorem gdl_FORMS_num : gd_FORMS.lookup (Str.ofString "num") = some (.tup [(.str "number")]) := by rfl
@[simp] theorem gdl_FORMS_name : gd_FORMS.lookup (Str.ofString "name") = some (.tup [(.str "name")]) := by rfl
@[simp] theorem gdl_FORMS_fun : gd_FORMS.lookup (Str.ofString "fun") = some (.tup [(.str "mark"), (.str "name"), (.str "piece")]) := by rfl
@[simp] theorem gdl_FORMS_call : gd_FORMS.lookup (Str.ofString "call") = some (.tup [(.str "mark"), (.str "piece"), (.str "piece")]) := by rfl
@[simp] theorem gdl_FORMS_plus : gd_FORMS.lookup (Str.ofString "plus") = some (.tup [(.str "mark"), (.str "piece"), (.str "piece")]) := by rfl
@[simp] theorem gdl_FORMS_pick : gd_FORMS.lookup (Str.ofString "pick") = some (.tup [(.str "mark"), (.str "piece"), (.str "piece"), (.str "piece")]) := by rfl
@[simp] theorem gdl_FORMS_round : gd_FORMS.lookup (Str.ofString "round") = some (.tup [(.str "piece")]) := by rfl
@[simp] theorem gdl_FORMS_take : gd_FORMS.lookup (Str.ofString "take") = some (.tup [(.str "mark"), (.str "name"), (.str "piece")]) := by rfl
theorem tb_is_piece : tb "is_piece" = some fn_is_piece := by rfl
theorem tb_is_closed : tb "is_closed" = some fn_is_closed := by rfl
theorem tb_free_names : tb "free_names" = some fn_free_names := by rfl
theorem tb_parts_of : tb "parts_of" = some fn_parts_of := by rfl
theorem tb_is_knot : tb "is_knot" = some fn_is_knot := by rfl
theorem tb_fits : tb "fits" = some fn_fits := by rfl
theorem tb_is_whole : tb "is_whole" = some fn_is_whole := by rfl
theorem tb_is_name : tb "is_name" = some fn_is_name := by rfl
theorem tb_check_piece : tb "check_piece" = some fn_check_piece := by rfl
theorem tb_check_fuel : tb "check_fuel" = some fn_check_fuel := by rfl
theorem tb_check_both : tb "check_both" = some fn_check_both := by rfl
theorem tb_put_in : tb "put_in" = some fn_put_in := by rfl
theorem tb_stepped : tb "stepped" = some fn_stepped := by rfl
theorem tb_by_putting : tb "by_putting" = some fn_by_putting := by rfl
theorem tb_outcome : tb "outcome" = some fn_outcome := by rfl
theorem tb_is_value_putting : tb "is_value_putting" = some fn_is_value_putting := by rfl
theorem tb_is_done : tb "is_done" = some fn_is_done := by rfl
theorem tb_is_stuck : tb "is_stuck" = some fn_is_stuck := by rfl
theorem tb_found : tb "found" = some fn_found := by rfl
theorem tb_entered_putting : tb "entered_putting" = some fn_entered_putting := by rfl
theorem tb_filled : tb "filled" = some fn_filled := by rfl
theorem tb_surrounded : tb "surrounded" = some fn_surrounded := by rfl
theorem tb_changed : tb "changed" = some fn_changed := by rfl
theorem tb_called_putting : tb "called_putting" = some fn_called_putting := by rfl
theorem tb_taken_putting : tb "taken_putting" = some fn_taken_putting := by rfl
theorem tb_by_machine : tb "by_machine" = some fn_by_machine := by rfl
theorem tb_first : tb "first" = some fn_first := by rfl
theorem tb_holding : tb "holding" = some fn_holding := by rfl
theorem tb_number : tb "number" = some fn_number := by rfl
theorem tb_meaning : tb "meaning" = some fn_meaning := by rfl
theorem tb_told_machine : tb "told_machine" = some fn_told_machine := by rfl
theorem tb_is_value_machine : tb "is_value_machine" = some fn_is_value_machine := by rfl
theorem tb_is_number_machine : tb "is_number_machine" = some fn_is_number_machine := by rfl
theorem tb_moved : tb "moved" = some fn_moved := by rfl
theorem tb_entered_machine : tb "entered_machine" = some fn_entered_machine := by rfl
theorem tb_taken_machine : tb "taken_machine" = some fn_taken_machine := by rfl
theorem tb_returned : tb "returned" = some fn_returned := by rfl
theorem tb_called_machine : tb "called_machine" = some fn_called_machine := by rfl
theorem tb_plain : tb "plain" = some fn_plain := by rfl
theorem tb_term_of : tb "term_of" = some fn_term_of := by rfl
theorem tb_function_of : tb "function_of" = some fn_function_of := by rfl
theorem tb_kept_of : tb "kept_of" = some fn_kept_of := by rfl
theorem tb_behind_round : tb "behind_round" = some fn_behind_round := by rfl
theorem tb_in_turn : tb "in_turn" = some fn_in_turn := by rfl
theorem tb_picking : tb "picking" = some fn_picking := by rfl
theorem tb_run_plain : tb "run_plain" = some fn_run_plain := by rfl
theorem tb_by_plain : tb "by_plain" = some fn_by_plain := by rfl
theorem tb_told_running : tb "told_running" = some fn_told_running := by rfl
theorem tb_meant : tb "meant" = some fn_meant := by rfl
theorem tb_is_number_running : tb "is_number_running" = some fn_is_number_running := by rfl
theorem tb_followed : tb "followed" = some fn_followed := by rfl
theorem tb_passed : tb "passed" = some fn_passed := by rfl
theorem tb_left : tb "left" = some fn_left := by rfl
theorem tb_given : tb "given" = some fn_given := by rfl
theorem tb_called_running : tb "called_running" = some fn_called_running := by rfl
theorem tb_added : tb "added" = some fn_added := by rfl
theorem tb_picked : tb "picked" = some fn_picked := by rfl
theorem tb__law_cell_at : tb "_law_cell_at" = some fn__law_cell_at := by rfl
theorem tb__law_mixed : tb "_law_mixed" = some fn__law_mixed := by rfl
theorem tb__law_frame_by : tb "_law_frame_by" = some fn__law_frame_by := by rfl
theorem tb__law_about : tb "_law_about" = some fn__law_about := by rfl
theorem tb__law_in : tb "_law_in" = some fn__law_in := by rfl
theorem tb__law_same : tb "_law_same" = some fn__law_same := by rfl
theorem tb__law_goes : tb "_law_goes" = some fn__law_goes := by rfl
theorem tb__law_many_frames : tb "_law_many_frames" = some fn__law_many_frames := by rfl
theorem tb__law_counting : tb "_law_counting" = some fn__law_counting := by rfl
theorem tb_law : tb "law" = some fn_law := by rfl
def topS (i : Nat) : Stmt := PySem.Challenge.pw_cutback_k13_many_frames.main.body.getD i (.Pass ⟨0, 0, 0, 0⟩)
theorem sc_is_piece : FnScope fn_is_piece.N fn_is_piece.ps (defScope (topS 12)) := ⟨rfl, rfl, rfl, by decide +kernel, rfl, by decide +kernel, by decide +kernel⟩
theorem ck_is_piece : (chkS (sxOf sx fn_is_piece) fn_is_piece.N true (defScope (topS 12)).names fn_is_piece.body).b (defBody (topS 12)) = true := by decide +kernel
theorem sc_is_closed : FnScope fn_is_closed.N fn_is_closed.ps (defScope (topS 13)) := ⟨rfl, rfl, rfl, by decide +kernel, rfl, by decide +kernel, by decide +kernel⟩
theorem ck_is_closed : (chkS (sxOf sx fn_is_closed) fn_is_closed.N true (defScope (topS 13)).names fn_is_closed.body).b (defBody (topS 13)) = true := by decide +kernel
theorem sc_free_names : FnScope fn_free_names.N fn_free_names.ps (defScope (topS 14)) := ⟨rfl, rfl, rfl, by decide +kernel, rfl, by decide +kernel, by decide +kernel⟩
theorem ck_free_names : (chkS (sxOf sx fn_free_names) fn_free_names.N true (defScope (topS 14)).names fn_free_names.body).b (defBody (topS 14)) = true := by decide +kernel
theorem sc_parts_of : FnScope fn_parts_of.N fn_parts_of.ps (defScope (topS 15)) := ⟨rfl, rfl, rfl, by decide +kernel, rfl, by decide +kernel, by decide +kernel⟩
theorem ck_parts_of : (chkS (sxOf sx fn_parts_of) fn_parts_of.N true (defScope (topS 15)).names fn_parts_of.body).b (defBody (topS 15)) = true := by decide +kernel
theorem sc_is_knot : FnScope fn_is_knot.N fn_is_knot.ps (defScope (topS 16)) := ⟨rfl, rfl, rfl, by decide +kernel, rfl, by decide +kernel, by decide +kernel⟩
theorem ck_is_knot : (chkS (sxOf sx fn_is_knot) fn_is_knot.N true (defScope (topS 16)).names fn_is_knot.body).b (defBody (topS 16)) = true := by decide +kernel
theorem sc_fits : FnScope fn_fits.N fn_fits.ps (defScope (topS 17)) := ⟨rfl, rfl, rfl, by decide +kernel, rfl, by decide +kernel, by decide +kernel⟩
theorem ck_fits : (chkS (sxOf sx fn_fits) fn_fits.N true (defScope (topS 17)).names fn_fits.body).b (defBody (topS 17)) = true := by decide +kernel
theorem sc_is_whole : FnScope fn_is_whole.N fn_is_whole.ps (defScope (topS 18)) := ⟨rfl, rfl, rfl, by decide +kernel, rfl, by decide +kernel, by decide +kernel⟩
theorem ck_is_whole : (chkS (sxOf sx fn_is_whole) fn_is_whole.N true (defScope (topS 18)).names fn_is_whole.body).b (defBody (topS 18)) = true := by decide +kernel
theorem sc_is_name : FnScope fn_is_name.N fn_is_name.ps (defScope (topS 19)) := ⟨rfl, rfl, rfl, by decide +kernel, rfl, by decide +kernel, by decide +kernel⟩
theorem ck_is_name : (chkS (sxOf sx fn_is_name) fn_is_name.N true (defScope (topS 19)).names fn_is_name.body).b (defBody (topS 19)) = true := by decide +kernel
theorem sc_check_piece : FnScope fn_check_piece.N fn_check_piece.ps (defScope (topS 22)) := ⟨rfl, rfl, rfl, by decide +kernel, rfl, by decide +kernel, by decide +kernel⟩
theorem ck_check_piece : (chkS (sxOf sx fn_check_piece) fn_check_piece.N true (defScope (topS 22)).names fn_check_piece.body).b (defBody (topS 22)) = true := by decide +kernel
theorem sc_check_fuel : FnScope fn_check_fuel.N fn_check_fuel.ps (defScope (topS 23)) := ⟨rfl, rfl, rfl, by decide +kernel, rfl, by decide +kernel, by decide +kernel⟩
theorem ck_check_fuel : (chkS (sxOf sx fn_check_fuel) fn_check_fuel.N true (defScope (topS 23)).names fn_check_fuel.body).b (defBody (topS 23)) = true := by decide +kernel
theorem sc_check_both : FnScope fn_check_both.N fn_check_both.ps (defScope (topS 24)) := ⟨rfl, rfl, rfl, by decide +kernel, rfl, by decide +kernel, by decide +kernel⟩
theorem ck_check_both : (chkS (sxOf sx fn_check_both) fn_check_both.N true (defScope (topS 24)).names fn_check_both.body).b (defBody (topS 24)) = true := by decide +kernel
theorem sc_put_in : FnScope fn_put_in.N fn_put_in.ps (defScope (topS 27)) := ⟨rfl, rfl, rfl, by decide +kernel, rfl, by decide +kernel, by decide +kernel⟩
theorem ck_put_in : (chkS (sxOf sx fn_put_in) fn_put_in.N true (defScope (topS 27)).names fn_put_in.body).b (defBody (topS 27)) = true := by decide +kernel
theorem sc_stepped : FnScope fn_stepped.N fn_stepped.ps (defScope (topS 28)) := ⟨rfl, rfl, rfl, by decide +kernel, rfl, by decide +kernel, by decide +kernel⟩
theorem ck_stepped : (chkS (sxOf sx fn_stepped) fn_stepped.N true (defScope (topS 28)).names fn_stepped.body).b (defBody (topS 28)) = true := by decide +kernel
theorem sc_by_putting : FnScope fn_by_putting.N fn_by_putting.ps (defScope (topS 29)) := ⟨rfl, rfl, rfl, by decide +kernel, rfl, by decide +kernel, by decide +kernel⟩
theorem ck_by_putting : (chkS (sxOf sx fn_by_putting) fn_by_putting.N true (defScope (topS 29)).names fn_by_putting.body).b (defBody (topS 29)) = true := by decide +kernel
theorem sc_outcome : FnScope fn_outcome.N fn_outcome.ps (defScope (topS 30)) := ⟨rfl, rfl, rfl, by decide +kernel, rfl, by decide +kernel, by decide +kernel⟩
theorem ck_outcome : (chkS (sxOf sx fn_outcome) fn_outcome.N true (defScope (topS 30)).names fn_outcome.body).b (defBody (topS 30)) = true := by decide +kernel
theorem sc_is_value_putting : FnScope fn_is_value_putting.N fn_is_value_putting.ps (defScope (topS 31)) := ⟨rfl, rfl, rfl, by decide +kernel, rfl, by decide +kernel, by decide +kernel⟩
theorem ck_is_value_putting : (chkS (sxOf sx fn_is_value_putting) fn_is_value_putting.N true (defScope (topS 31)).names fn_is_value_putting.body).b (defBody (topS 31)) = true := by decide +kernel
theorem sc_is_done : FnScope fn_is_done.N fn_is_done.ps (defScope (topS 33)) := ⟨rfl, rfl, rfl, by decide +kernel, rfl, by decide +kernel, by decide +kernel⟩
theorem ck_is_done : (chkS (sxOf sx fn_is_done) fn_is_done.N true (defScope (topS 33)).names fn_is_done.body).b (defBody (topS 33)) = true := by decide +kernel
theorem sc_is_stuck : FnScope fn_is_stuck.N fn_is_stuck.ps (defScope (topS 34)) := ⟨rfl, rfl, rfl, by decide +kernel, rfl, by decide +kernel, by decide +kernel⟩
theorem ck_is_stuck : (chkS (sxOf sx fn_is_stuck) fn_is_stuck.N true (defScope (topS 34)).names fn_is_stuck.body).b (defBody (topS 34)) = true := by decide +kernel
theorem sc_found : FnScope fn_found.N fn_found.ps (defScope (topS 35)) := ⟨rfl, rfl, rfl, by decide +kernel, rfl, by decide +kernel, by decide +kernel⟩
theorem ck_found : (chkS (sxOf sx fn_found) fn_found.N true (defScope (topS 35)).names fn_found.body).b (defBody (topS 35)) = true := by decide +kernel
theorem sc_entered_putting : FnScope fn_entered_putting.N fn_entered_putting.ps (defScope (topS 36)) := ⟨rfl, rfl, rfl, by decide +kernel, rfl, by decide +kernel, by decide +kernel⟩
theorem ck_entered_putting : (chkS (sxOf sx fn_entered_putting) fn_entered_putting.N true (defScope (topS 36)).names fn_entered_putting.body).b (defBody (topS 36)) = true := by decide +kernel
theorem sc_filled : FnScope fn_filled.N fn_filled.ps (defScope (topS 38)) := ⟨rfl, rfl, rfl, by decide +kernel, rfl, by decide +kernel, by decide +kernel⟩
theorem ck_filled : (chkS (sxOf sx fn_filled) fn_filled.N true (defScope (topS 38)).names fn_filled.body).b (defBody (topS 38)) = true := by decide +kernel
theorem sc_surrounded : FnScope fn_surrounded.N fn_surrounded.ps (defScope (topS 39)) := ⟨rfl, rfl, rfl, by decide +kernel, rfl, by decide +kernel, by decide +kernel⟩
theorem ck_surrounded : (chkS (sxOf sx fn_surrounded) fn_surrounded.N true (defScope (topS 39)).names fn_surrounded.body).b (defBody (topS 39)) = true := by decide +kernel
theorem sc_changed : FnScope fn_changed.N fn_changed.ps (defScope (topS 40)) := ⟨rfl, rfl, rfl, by decide +kernel, rfl, by decide +kernel, by decide +kernel⟩
theorem ck_changed : (chkS (sxOf sx fn_changed) fn_changed.N true (defScope (topS 40)).names fn_changed.body).b (defBody (topS 40)) = true := by decide +kernel
theorem sc_called_putting : FnScope fn_called_putting.N fn_called_putting.ps (defScope (topS 41)) := ⟨rfl, rfl, rfl, by decide +kernel, rfl, by decide +kernel, by decide +kernel⟩
theorem ck_called_putting : (chkS (sxOf sx fn_called_putting) fn_called_putting.N true (defScope (topS 41)).names fn_called_putting.body).b (defBody (topS 41)) = true := by decide +kernel
theorem sc_taken_putting : FnScope fn_taken_putting.N fn_taken_putting.ps (defScope (topS 43)) := ⟨rfl, rfl, rfl, by decide +kernel, rfl, by decide +kernel, by decide +kernel⟩
theorem ck_taken_putting : (chkS (sxOf sx fn_taken_putting) fn_taken_putting.N true (defScope (topS 43)).names fn_taken_putting.body).b (defBody (topS 43)) = true := by decide +kernel
theorem sc_by_machine : FnScope fn_by_machine.N fn_by_machine.ps (defScope (topS 46)) := ⟨rfl, rfl, rfl, by decide +kernel, rfl, by decide +kernel, by decide +kernel⟩
theorem ck_by_machine : (chkS (sxOf sx fn_by_machine) fn_by_machine.N true (defScope (topS 46)).names fn_by_machine.body).b (defBody (topS 46)) = true := by decide +kernel
theorem sc_first : FnScope fn_first.N fn_first.ps (defScope (topS 47)) := ⟨rfl, rfl, rfl, by decide +kernel, rfl, by decide +kernel, by decide +kernel⟩
theorem ck_first : (chkS (sxOf sx fn_first) fn_first.N true (defScope (topS 47)).names fn_first.body).b (defBody (topS 47)) = true := by decide +kernel
theorem sc_holding : FnScope fn_holding.N fn_holding.ps (defScope (topS 48)) := ⟨rfl, rfl, rfl, by decide +kernel, rfl, by decide +kernel, by decide +kernel⟩
theorem ck_holding : (chkS (sxOf sx fn_holding) fn_holding.N true (defScope (topS 48)).names fn_holding.body).b (defBody (topS 48)) = true := by decide +kernel
theorem sc_number : FnScope fn_number.N fn_number.ps (defScope (topS 49)) := ⟨rfl, rfl, rfl, by decide +kernel, rfl, by decide +kernel, by decide +kernel⟩
theorem ck_number : (chkS (sxOf sx fn_number) fn_number.N true (defScope (topS 49)).names fn_number.body).b (defBody (topS 49)) = true := by decide +kernel
theorem sc_meaning : FnScope fn_meaning.N fn_meaning.ps (defScope (topS 50)) := ⟨rfl, rfl, rfl, by decide +kernel, rfl, by decide +kernel, by decide +kernel⟩
theorem ck_meaning : (chkS (sxOf sx fn_meaning) fn_meaning.N true (defScope (topS 50)).names fn_meaning.body).b (defBody (topS 50)) = true := by decide +kernel
theorem sc_told_machine : FnScope fn_told_machine.N fn_told_machine.ps (defScope (topS 51)) := ⟨rfl, rfl, rfl, by decide +kernel, rfl, by decide +kernel, by decide +kernel⟩
theorem ck_told_machine : (chkS (sxOf sx fn_told_machine) fn_told_machine.N true (defScope (topS 51)).names fn_told_machine.body).b (defBody (topS 51)) = true := by decide +kernel
theorem sc_is_value_machine : FnScope fn_is_value_machine.N fn_is_value_machine.ps (defScope (topS 53)) := ⟨rfl, rfl, rfl, by decide +kernel, rfl, by decide +kernel, by decide +kernel⟩
theorem ck_is_value_machine : (chkS (sxOf sx fn_is_value_machine) fn_is_value_machine.N true (defScope (topS 53)).names fn_is_value_machine.body).b (defBody (topS 53)) = true := by decide +kernel
theorem sc_is_number_machine : FnScope fn_is_number_machine.N fn_is_number_machine.ps (defScope (topS 55)) := ⟨rfl, rfl, rfl, by decide +kernel, rfl, by decide +kernel, by decide +kernel⟩
theorem ck_is_number_machine : (chkS (sxOf sx fn_is_number_machine) fn_is_number_machine.N true (defScope (topS 55)).names fn_is_number_machine.body).b (defBody (topS 55)) = true := by decide +kernel
theorem sc_moved : FnScope fn_moved.N fn_moved.ps (defScope (topS 57)) := ⟨rfl, rfl, rfl, by decide +kernel, rfl, by decide +kernel, by decide +kernel⟩
theorem ck_moved : (chkS (sxOf sx fn_moved) fn_moved.N true (defScope (topS 57)).names fn_moved.body).b (defBody (topS 57)) = true := by decide +kernel
theorem sc_entered_machine : FnScope fn_entered_machine.N fn_entered_machine.ps (defScope (topS 58)) := ⟨rfl, rfl, rfl, by decide +kernel, rfl, by decide +kernel, by decide +kernel⟩
theorem ck_entered_machine : (chkS (sxOf sx fn_entered_machine) fn_entered_machine.N true (defScope (topS 58)).names fn_entered_machine.body).b (defBody (topS 58)) = true := by decide +kernel
theorem sc_taken_machine : FnScope fn_taken_machine.N fn_taken_machine.ps (defScope (topS 60)) := ⟨rfl, rfl, rfl, by decide +kernel, rfl, by decide +kernel, by decide +kernel⟩
theorem ck_taken_machine : (chkS (sxOf sx fn_taken_machine) fn_taken_machine.N true (defScope (topS 60)).names fn_taken_machine.body).b (defBody (topS 60)) = true := by decide +kernel
theorem sc_returned : FnScope fn_returned.N fn_returned.ps (defScope (topS 62)) := ⟨rfl, rfl, rfl, by decide +kernel, rfl, by decide +kernel, by decide +kernel⟩
theorem ck_returned : (chkS (sxOf sx fn_returned) fn_returned.N true (defScope (topS 62)).names fn_returned.body).b (defBody (topS 62)) = true := by decide +kernel
theorem sc_called_machine : FnScope fn_called_machine.N fn_called_machine.ps (defScope (topS 63)) := ⟨rfl, rfl, rfl, by decide +kernel, rfl, by decide +kernel, by decide +kernel⟩
theorem ck_called_machine : (chkS (sxOf sx fn_called_machine) fn_called_machine.N true (defScope (topS 63)).names fn_called_machine.body).b (defBody (topS 63)) = true := by decide +kernel
theorem sc_plain : FnScope fn_plain.N fn_plain.ps (defScope (topS 69)) := ⟨rfl, rfl, rfl, by decide +kernel, rfl, by decide +kernel, by decide +kernel⟩
theorem ck_plain : (chkS (sxOf sx fn_plain) fn_plain.N true (defScope (topS 69)).names fn_plain.body).b (defBody (topS 69)) = true := by decide +kernel
theorem sc_term_of : FnScope fn_term_of.N fn_term_of.ps (defScope (topS 70)) := ⟨rfl, rfl, rfl, by decide +kernel, rfl, by decide +kernel, by decide +kernel⟩
theorem ck_term_of : (chkS (sxOf sx fn_term_of) fn_term_of.N true (defScope (topS 70)).names fn_term_of.body).b (defBody (topS 70)) = true := by decide +kernel
theorem sc_function_of : FnScope fn_function_of.N fn_function_of.ps (defScope (topS 71)) := ⟨rfl, rfl, rfl, by decide +kernel, rfl, by decide +kernel, by decide +kernel⟩
theorem ck_function_of : (chkS (sxOf sx fn_function_of) fn_function_of.N true (defScope (topS 71)).names fn_function_of.body).b (defBody (topS 71)) = true := by decide +kernel
theorem sc_kept_of : FnScope fn_kept_of.N fn_kept_of.ps (defScope (topS 72)) := ⟨rfl, rfl, rfl, by decide +kernel, rfl, by decide +kernel, by decide +kernel⟩
theorem ck_kept_of : (chkS (sxOf sx fn_kept_of) fn_kept_of.N true (defScope (topS 72)).names fn_kept_of.body).b (defBody (topS 72)) = true := by decide +kernel
theorem sc_behind_round : FnScope fn_behind_round.N fn_behind_round.ps (defScope (topS 73)) := ⟨rfl, rfl, rfl, by decide +kernel, rfl, by decide +kernel, by decide +kernel⟩
theorem ck_behind_round : (chkS (sxOf sx fn_behind_round) fn_behind_round.N true (defScope (topS 73)).names fn_behind_round.body).b (defBody (topS 73)) = true := by decide +kernel
theorem sc_in_turn : FnScope fn_in_turn.N fn_in_turn.ps (defScope (topS 74)) := ⟨rfl, rfl, rfl, by decide +kernel, rfl, by decide +kernel, by decide +kernel⟩
theorem ck_in_turn : (chkS (sxOf sx fn_in_turn) fn_in_turn.N true (defScope (topS 74)).names fn_in_turn.body).b (defBody (topS 74)) = true := by decide +kernel
theorem sc_picking : FnScope fn_picking.N fn_picking.ps (defScope (topS 75)) := ⟨rfl, rfl, rfl, by decide +kernel, rfl, by decide +kernel, by decide +kernel⟩
theorem ck_picking : (chkS (sxOf sx fn_picking) fn_picking.N true (defScope (topS 75)).names fn_picking.body).b (defBody (topS 75)) = true := by decide +kernel
theorem sc_run_plain : FnScope fn_run_plain.N fn_run_plain.ps (defScope (topS 80)) := ⟨rfl, rfl, rfl, by decide +kernel, rfl, by decide +kernel, by decide +kernel⟩
theorem ck_run_plain : (chkS (sxOf sx fn_run_plain) fn_run_plain.N true (defScope (topS 80)).names fn_run_plain.body).b (defBody (topS 80)) = true := by decide +kernel
theorem sc_by_plain : FnScope fn_by_plain.N fn_by_plain.ps (defScope (topS 81)) := ⟨rfl, rfl, rfl, by decide +kernel, rfl, by decide +kernel, by decide +kernel⟩
theorem ck_by_plain : (chkS (sxOf sx fn_by_plain) fn_by_plain.N true (defScope (topS 81)).names fn_by_plain.body).b (defBody (topS 81)) = true := by decide +kernel
theorem sc_told_running : FnScope fn_told_running.N fn_told_running.ps (defScope (topS 82)) := ⟨rfl, rfl, rfl, by decide +kernel, rfl, by decide +kernel, by decide +kernel⟩
theorem ck_told_running : (chkS (sxOf sx fn_told_running) fn_told_running.N true (defScope (topS 82)).names fn_told_running.body).b (defBody (topS 82)) = true := by decide +kernel
theorem sc_meant : FnScope fn_meant.N fn_meant.ps (defScope (topS 84)) := ⟨rfl, rfl, rfl, by decide +kernel, rfl, by decide +kernel, by decide +kernel⟩
theorem ck_meant : (chkS (sxOf sx fn_meant) fn_meant.N true (defScope (topS 84)).names fn_meant.body).b (defBody (topS 84)) = true := by decide +kernel
theorem sc_is_number_running : FnScope fn_is_number_running.N fn_is_number_running.ps (defScope (topS 85)) := ⟨rfl, rfl, rfl, by decide +kernel, rfl, by decide +kernel, by decide +kernel⟩
theorem ck_is_number_running : (chkS (sxOf sx fn_is_number_running) fn_is_number_running.N true (defScope (topS 85)).names fn_is_number_running.body).b (defBody (topS 85)) = true := by decide +kernel
theorem sc_followed : FnScope fn_followed.N fn_followed.ps (defScope (topS 87)) := ⟨rfl, rfl, rfl, by decide +kernel, rfl, by decide +kernel, by decide +kernel⟩
theorem ck_followed : (chkS (sxOf sx fn_followed) fn_followed.N true (defScope (topS 87)).names fn_followed.body).b (defBody (topS 87)) = true := by decide +kernel
theorem sc_passed : FnScope fn_passed.N fn_passed.ps (defScope (topS 88)) := ⟨rfl, rfl, rfl, by decide +kernel, rfl, by decide +kernel, by decide +kernel⟩
theorem ck_passed : (chkS (sxOf sx fn_passed) fn_passed.N true (defScope (topS 88)).names fn_passed.body).b (defBody (topS 88)) = true := by decide +kernel
theorem sc_left : FnScope fn_left.N fn_left.ps (defScope (topS 89)) := ⟨rfl, rfl, rfl, by decide +kernel, rfl, by decide +kernel, by decide +kernel⟩
theorem ck_left : (chkS (sxOf sx fn_left) fn_left.N true (defScope (topS 89)).names fn_left.body).b (defBody (topS 89)) = true := by decide +kernel
theorem sc_given : FnScope fn_given.N fn_given.ps (defScope (topS 90)) := ⟨rfl, rfl, rfl, by decide +kernel, rfl, by decide +kernel, by decide +kernel⟩
theorem ck_given : (chkS (sxOf sx fn_given) fn_given.N true (defScope (topS 90)).names fn_given.body).b (defBody (topS 90)) = true := by decide +kernel
theorem sc_called_running : FnScope fn_called_running.N fn_called_running.ps (defScope (topS 91)) := ⟨rfl, rfl, rfl, by decide +kernel, rfl, by decide +kernel, by decide +kernel⟩
theorem ck_called_running : (chkS (sxOf sx fn_called_running) fn_called_running.N true (defScope (topS 91)).names fn_called_running.body).b (defBody (topS 91)) = true := by decide +kernel
theorem sc_added : FnScope fn_added.N fn_added.ps (defScope (topS 93)) := ⟨rfl, rfl, rfl, by decide +kernel, rfl, by decide +kernel, by decide +kernel⟩
theorem ck_added : (chkS (sxOf sx fn_added) fn_added.N true (defScope (topS 93)).names fn_added.body).b (defBody (topS 93)) = true := by decide +kernel
theorem sc_picked : FnScope fn_picked.N fn_picked.ps (defScope (topS 94)) := ⟨rfl, rfl, rfl, by decide +kernel, rfl, by decide +kernel, by decide +kernel⟩
theorem ck_picked : (chkS (sxOf sx fn_picked) fn_picked.N true (defScope (topS 94)).names fn_picked.body).b (defBody (topS 94)) = true := by decide +kernel
theorem sc__law_cell_at : FnScope fn__law_cell_at.N fn__law_cell_at.ps (defScope (topS 96)) := ⟨rfl, rfl, rfl, by decide +kernel, rfl, by decide +kernel, by decide +kernel⟩
theorem ck__law_cell_at : (chkS (sxOf sx fn__law_cell_at) fn__law_cell_at.N true (defScope (topS 96)).names fn__law_cell_at.body).b (defBody (topS 96)) = true := by decide +kernel
theorem sc__law_mixed : FnScope fn__law_mixed.N fn__law_mixed.ps (defScope (topS 97)) := ⟨rfl, rfl, rfl, by decide +kernel, rfl, by decide +kernel, by decide +kernel⟩
theorem ck__law_mixed : (chkS (sxOf sx fn__law_mixed) fn__law_mixed.N true (defScope (topS 97)).names fn__law_mixed.body).b (defBody (topS 97)) = true := by decide +kernel
theorem sc__law_frame_by : FnScope fn__law_frame_by.N fn__law_frame_by.ps (defScope (topS 98)) := ⟨rfl, rfl, rfl, by decide +kernel, rfl, by decide +kernel, by decide +kernel⟩
theorem ck__law_frame_by : (chkS (sxOf sx fn__law_frame_by) fn__law_frame_by.N true (defScope (topS 98)).names fn__law_frame_by.body).b (defBody (topS 98)) = true := by decide +kernel
theorem sc__law_about : FnScope fn__law_about.N fn__law_about.ps (defScope (topS 99)) := ⟨rfl, rfl, rfl, by decide +kernel, rfl, by decide +kernel, by decide +kernel⟩
theorem ck__law_about : (chkS (sxOf sx fn__law_about) fn__law_about.N true (defScope (topS 99)).names fn__law_about.body).b (defBody (topS 99)) = true := by decide +kernel
theorem sc__law_in : FnScope fn__law_in.N fn__law_in.ps (defScope (topS 100)) := ⟨rfl, rfl, rfl, by decide +kernel, rfl, by decide +kernel, by decide +kernel⟩
theorem ck__law_in : (chkS (sxOf sx fn__law_in) fn__law_in.N true (defScope (topS 100)).names fn__law_in.body).b (defBody (topS 100)) = true := by decide +kernel
theorem sc__law_same : FnScope fn__law_same.N fn__law_same.ps (defScope (topS 101)) := ⟨rfl, rfl, rfl, by decide +kernel, rfl, by decide +kernel, by decide +kernel⟩
theorem ck__law_same : (chkS (sxOf sx fn__law_same) fn__law_same.N true (defScope (topS 101)).names fn__law_same.body).b (defBody (topS 101)) = true := by decide +kernel
theorem sc__law_goes : FnScope fn__law_goes.N fn__law_goes.ps (defScope (topS 102)) := ⟨rfl, rfl, rfl, by decide +kernel, rfl, by decide +kernel, by decide +kernel⟩
theorem ck__law_goes : (chkS (sxOf sx fn__law_goes) fn__law_goes.N true (defScope (topS 102)).names fn__law_goes.body).b (defBody (topS 102)) = true := by decide +kernel
theorem sc__law_many_frames : FnScope fn__law_many_frames.N fn__law_many_frames.ps (defScope (topS 103)) := ⟨rfl, rfl, rfl, by decide +kernel, rfl, by decide +kernel, by decide +kernel⟩
theorem ck__law_many_frames : (chkS (sxOf sx fn__law_many_frames) fn__law_many_frames.N true (defScope (topS 103)).names fn__law_many_frames.body).b (defBody (topS 103)) = true := by decide +kernel
theorem sc__law_counting : FnScope fn__law_counting.N fn__law_counting.ps (defScope (topS 104)) := ⟨rfl, rfl, rfl, by decide +kernel, rfl, by decide +kernel, by decide +kernel⟩
theorem ck__law_counting : (chkS (sxOf sx fn__law_counting) fn__law_counting.N true (defScope (topS 104)).names fn__law_counting.body).b (defBody (topS 104)) = true := by decide +kernel
theorem sc_law : FnScope fn_law.N fn_law.ps (defScope (topS 105)) := ⟨rfl, rfl, rfl, by decide +kernel, rfl, by decide +kernel, by decide +kernel⟩
theorem ck_law : (chkS (sxOf sx fn_law) fn_law.N true (defScope (topS 105)).names fn_law.body).b (defBody (topS 105)) = true := by decide +kernel
end K13
namespace Mi
open PySem PySem.Spec PyProof.Rows L2
variable [TabsC]
theorem wdict_find {z : Str} : ∀ {kvs : List (Str × D)} {es : List DictEntry} {K : PySem.W.Frag}, Paired (fun (p : Str × D) (e : DictEntry) => (∃ t, e.key = .str p.1 t) ∧ ∃ v, RelV v e.val ∧ ∀ A H, RD K A H p.2 v) kvs es →
    (match kvs.lookup z with
      | some d => ∃ u v, (match es.find? (·.key.isStr z) with
          | some e => some (some e.val)
          | none => if es.any (·.refKey) then none else some none) = some (some u) ∧ RelV v u ∧ ∀ A H, RD K A H d v
      | none => es.find? (·.key.isStr z) = none ∧ es.any (·.refKey) = false)
  | [], _, K, h => by
    cases h
    exact ⟨rfl, rfl⟩
  | (x, d) :: kvs, _, K, h => by
    cases h with
    | cons h1 h2 =>
      rename_i e es
      obtain ⟨⟨t, hk⟩, v, hv, hd⟩ := h1
      have ih := wdict_find (z := z) h2
      have hs : e.key.isStr z = (x == z) := by rw [hk]; rfl
      by_cases hz : z = x
      · subst hz
        have e1 : (z == z) = true := beq_self_eq_true z
        rw [List.lookup_cons, e1]
        refine ⟨e.val, v, ?_, hv, hd⟩
        rw [List.find?_cons, hs, e1]
      · have e1 : (z == x) = false := beq_eq_false_iff_ne.mpr hz
        have e2 : (x == z) = false := beq_eq_false_iff_ne.mpr (Ne.symm hz)
        have e3 : e.refKey = false := by unfold DictEntry.refKey; rw [hk]
        rw [List.lookup_cons, e1, List.find?_cons, hs, e2, List.any_cons, e3, Bool.false_or]
        exact ih
theorem wdict_mk {K : PySem.W.Frag} {w : World} {a : Addr} {es : Array DictEntry} {n : Nat} {kvs : List (Str × D)} (l : K.lookup a = some ⟨.type "dict", none, .dict es n, #[]⟩) (kl : PySem.W.KeysLit w.params es.toList) (lo : (a == sysModules) = false)
    (h : Paired (fun (p : Str × D) (e : DictEntry) => (∃ t, e.key = .str p.1 t) ∧ ∃ v, RelV v e.val ∧ ∀ A H, RD K A H p.2 v) kvs es.toList) : WDict K w a kvs := by
  refine ⟨es, n, ⟨l, kl, lo⟩, fun z => ?_⟩
  have := wdict_find (z := z) h
  have en : PySem.W.nsIn K a z = (match es.toList.find? (·.key.isStr z) with
    | some e => some (some e.val)
    | none => if es.toList.any (·.refKey) then none else some none) := by
    unfold PySem.W.nsIn
    rw [l]
    rfl
  cases hl : kvs.lookup z with
  | some d =>
    rw [hl] at this
    rw [en]
    exact this
  | none =>
    rw [hl] at this
    rw [en, this.1, this.2]
    rfl
theorem rds_strs {K : PySem.W.Frag} {A : List Addr} {H : Hp} : ∀ zs : List Str, RDs K A H (zs.map D.str) (zs.map V.str)
  | [] => rfl
  | z :: zs => ⟨.str z, zs.map V.str, rfl, rfl, rds_strs zs⟩
/-- a tuple of texts of the written part -/
theorem rd_strs {K : PySem.W.Frag} {a : Addr} {o : Obj} {its : Array Value} {n : Nat} (zs : List Str) (l : K.lookup a = some o) (hc : o.cls = .type "tuple") (hd : o.data = .seq its n) (hz : its.size ≤ sizeLine) (hv : Vals (zs.map V.str) its.toList) (A : List Addr) (H : Hp) :
    RD K A H (.tup (zs.map D.str)) (.ref a) := rd_tup l hc hd hz hv A H (rds_strs zs)
section
variable {K : PySem.W.Frag} {h : Heap}
abbrev DefOkX (X : K.In h) (S : Sx) (tb : Str → Option Fn) (mg : Str → Option Value) (f : Str) : Prop := DefOk S tb K mg f
abbrev GdX (X : K.In h) (w : World) (mg : Str → Option Value) (x : Str) (kvs : List (Str × D)) : Prop := ∃ a, mg x = some (.ref a) ∧ WDict K w a kvs
abbrev GlX (X : K.In h) (mg : Str → Option Value) (x : Str) (d : D) : Prop := ∃ u v, mg x = some u ∧ RelV v u ∧ ∀ A H, RD K A H d v
theorem gl_strs {mg : Str → Option Value} {x : Str} {a : Addr} {o : Obj} {its : Array Value} {n : Nat} (X : K.In h) (G : h.Ns mainGlobals mg) (zs : List Str) (hn : PySem.W.nsIn K mainGlobals x = some (some (.ref a))) (l : K.lookup a = some o) (hc : o.cls = .type "tuple") (hd : o.data = .seq its n) (hz : its.size ≤ sizeLine)
    (hv : Vals (zs.map V.str) its.toList) : GlX X mg x (.tup (zs.map D.str)) := ⟨_, .ref a, PySem.W.mg_of X G hn, rfl, fun A H => rd_strs zs l hc hd hz hv A H⟩
theorem gl_int {mg : Str → Option Value} {x : Str} {i : Int} {t : Tok} (X : K.In h) (G : h.Ns mainGlobals mg) (hn : PySem.W.nsIn K mainGlobals x = some (some (.int i t))) : GlX X mg x (.int i) := ⟨_, .int i, PySem.W.mg_of X G hn, ⟨t, rfl⟩, fun _ _ => rfl⟩
abbrev TopX (X : K.In h) (S : Sx) (tb : Str → Option Fn) (w : World) (mg : Str → Option Value) : Prop := Top S tb w K mg
end
@[reducible] def noTabs (w : World) : TabsC := ⟨[], w⟩
/-- the end of a program without tables -/
theorem fin_K {P : Program} {w : World} {K : PySem.W.Frag} {mg : Str → Option Value} {k : Nat} {fa : Addr} {x : Str} {sp : Sp}
    (h : ∃ fd : FuncData, (∀ (s : Shared) (v : Value), BindsTo s fd ⟨[v], []⟩ [(x, v)]) ∧ ∀ base : Heap, K.In base → base.Ns mainGlobals mg → (∀ p ∈ (@TabsC.C (noTabs w)), GxR.TabB base mg p.1 p.2) → FnOk P w K mg base CX0 k fa fd [x] sp) :
    ∃ fd : FuncData, (∀ (s : Shared) (v : Value), BindsTo s fd ⟨[v], []⟩ [(x, v)]) ∧ ∀ base : Heap, K.In base → base.Ns mainGlobals mg → FnOk P w K mg base CX0 k fa fd [x] sp := by
  obtain ⟨fd, h1, h2⟩ := h
  exact ⟨fd, h1, fun base h3 h4 => h2 base h3 h4 (fun p hp => by cases hp)⟩
end Mi
namespace Mi
open PySem PySem.Spec PyProof.Rows L2

/-! ### how a run goes -/
theorem gc_app {m l : List SO} {d : D} (h : ltD m.length d = true) : gc m d (m ++ l) = (d, m) := by
  have hk : Kept m (m ++ l) := ⟨by simp, fun i hi => .inl (by rw [List.getElem?_append_left hi])⟩
  unfold gc
  rw [if_pos hk, if_pos h, List.take_left']
  rfl
theorem gc_same {m : List SO} {d : D} (h : ltD m.length d = true) : gc m d m = (d, m) := by
  have := gc_app (l := []) h
  rwa [List.append_nil] at this
@[simp] theorem lt_non (n : Nat) : ltD n .non = true := by simp [ltD]
@[simp] theorem lt_bl (n : Nat) (b : Bool) : ltD n (.bl b) = true := by simp [ltD]
@[simp] theorem lt_int (n : Nat) (i : Int) : ltD n (.int i) = true := by simp [ltD]
@[simp] theorem lt_str (n : Nat) (x : Str) : ltD n (.str x) = true := by simp [ltD]
@[simp] theorem lt_tup (n : Nat) (xs : List D) : ltD n (.tup xs) = ltDs n xs := by simp [ltD]
@[simp] theorem lt_nil (n : Nat) : ltDs n [] = true := by simp [ltDs]
@[simp] theorem lt_cons (n : Nat) (x : D) (xs : List D) : ltDs n (x :: xs) = (ltD n x && ltDs n xs) := by simp [ltDs]
/-- a def's end -/
noncomputable def fini (m : List SO) : Option ((Out × Rho) × List SO) → Option (D × List SO)
  | some ((.nx, _), m') => some (gc m .non m')
  | some ((.rt d, _), m') => some (gc m d m')
  | _ => none
theorem run_at {tb : Str → Option Fn} {f : Str} {fn : Fn} (h : tb f = some fn) (k : Nat) {ds : List D} (hl : ds.length = fn.ps.length) (hn : fn.nn = false := by rfl) (m : List SO) :
    run tb (k + 1) f ds m = fini m ((ex k (run tb k) fn.body).x (ds.map some ++ List.replicate (fn.N.length - ds.length) none) m) := by
  show (match tb f with
    | none => M.no
    | some fn => if fn.nn = true then runN tb (2 * (k + 1)) f ds else callF k (run tb k) fn ds) m = _
  rw [h]
  simp only
  rw [if_neg (by rw [hn]; exact Bool.false_ne_true)]
  unfold callF
  rw [if_pos hl]
  rfl
theorem runN_at {tb : Str → Option Fn} {f : Str} {fn : Fn} (h : tb f = some fn) (k : Nat) {ds : List D} (hl : ds.length = fn.ps.length) (hn : fn.nn = true := by rfl) (m : List SO) :
    runN tb (k + 1) f ds m = fini m ((ex (k / 2) (runN tb k) fn.body).x (ds.map some ++ List.replicate (fn.N.length - ds.length) none) m) := by
  show (match tb f with
    | none => M.no
    | some fn => if fn.nn = true then callF (k / 2) (runN tb k) fn ds else M.no) m = _
  rw [h]
  simp only
  rw [if_pos hn]
  unfold callF
  rw [if_pos hl]
  rfl
theorem run_nn {tb : Str → Option Fn} {f : Str} {fn : Fn} (h : tb f = some fn) (k : Nat) {ds : List D} (hn : fn.nn = true := by rfl) : run tb (k + 1) f ds = runN tb (2 * (k + 1)) f ds := by
  show (match tb f with
    | none => M.no
    | some fn => if fn.nn = true then runN tb (2 * (k + 1)) f ds else callF k (run tb k) fn ds) = _
  rw [h]
  exact if_pos hn
@[simp] theorem set_app0 {α : Type} (m l : List α) (o : α) : (m ++ l).set m.length o = m ++ l.set 0 o := by
  rw [List.set_append_right _ _ (Nat.le_refl _), Nat.sub_self]
@[simp] theorem set_appn {α : Type} (m l : List α) (j : Nat) (o : α) : (m ++ l).set (m.length + j) o = m ++ l.set j o := by
  rw [List.set_append_right _ _ (Nat.le_add_right _ _), Nat.add_sub_cancel_left]
@[simp] theorem get_app0 {α : Type} (m l : List α) : (m ++ l)[m.length]? = l[0]? := by
  rw [List.getElem?_append_right (Nat.le_refl _), Nat.sub_self]
@[simp] theorem get_appn {α : Type} (m l : List α) (j : Nat) : (m ++ l)[m.length + j]? = l[j]? := by
  rw [List.getElem?_append_right (Nat.le_add_right _ _), Nat.add_sub_cancel_left]
@[simp] theorem getL_app0 (m : List SO) (xs : List D) (l : List SO) : getL (m ++ .lst xs :: l) m.length = some xs := by
  unfold getL; simp
@[simp] theorem getL_appn (m l : List SO) (j : Nat) : getL (m ++ l) (m.length + j) = getL l j := by
  unfold getL; simp
@[simp] theorem getL_cons0 (xs : List D) (l : List SO) : getL (.lst xs :: l) 0 = some xs := rfl
@[simp] theorem getL_consn (o : SO) (l : List SO) (j : Nat) : getL (o :: l) (j + 1) = getL l j := rfl
theorem getL_old {m l : List SO} {n : Nat} (h : n < m.length) : getL (m ++ l) n = getL m n := by
  unfold getL; rw [List.getElem?_append_left h]

theorem toNat_inj {a b : Char} (h : a.toNat = b.toNat) : a = b := by
  apply Char.ext
  exact UInt32.toNat_inj.mp h
theorem map_toNat_inj : ∀ {a b : List Char}, a.map Char.toNat = b.map Char.toNat → a = b
  | [], [], _ => rfl
  | [], _ :: _, h => by cases h
  | _ :: _, [], h => by cases h
  | x :: xs, y :: ys, h => by
    rw [List.map_cons, List.map_cons] at h
    injection h with h1 h2
    rw [toNat_inj h1, map_toNat_inj h2]
theorem ofs_inj {a b : String} (h : Str.ofString a = Str.ofString b) : a = b := by
  rw [Str.ofString_eq_toList, Str.ofString_eq_toList] at h
  injection h with h
  have h : a.toList.map Char.toNat = b.toList.map Char.toNat := by simpa using h
  exact String.toList_inj.mp (map_toNat_inj h)
@[simp] theorem ofs_beq (a b : String) : (Str.ofString a == Str.ofString b) = (a == b) := by
  rw [Bool.eq_iff_iff, beq_iff_eq, beq_iff_eq]
  exact ⟨ofs_inj, fun h => by rw [h]⟩
@[simp] theorem ofs_eq (a b : String) : (Str.ofString a = Str.ofString b) = (a = b) := propext ⟨ofs_inj, fun h => by rw [h]⟩
@[simp] theorem sok_of (s : String) : PyData.strOk (Str.ofString s) = true := by
  unfold PyData.strOk
  rw [Str.ofString_eq_toList]
  rw [Array.all_eq_true]
  intro i hi
  simp only [List.getElem_toArray, List.getElem_map, decide_eq_true_eq]
  have := (s.toList[i]'(by simpa using hi)).valid
  have h2 : ∀ c : Char, c.toNat < 0x110000 := fun c => by
    have := c.valid
    unfold UInt32.isValidChar Nat.isValidChar at this
    show c.val.toNat < _
    omega
  exact h2 _
@[simp] theorem depth_int (i : Int) : (PyData.int i).depth = 0 := rfl
theorem eqD_int (k : Nat) (m : List SO) (a b : Int) : eqD k m (.int a) (.int b) = some (a == b) := by
  simp [eqD, pd, pd0, PyData.canLay0, PyData.eqv]
theorem eqD_str (k : Nat) (m : List SO) {a b : Str} (ha : PyData.strOk a = true) (hb : PyData.strOk b = true) : eqD k m (.str a) (.str b) = some (a == b) := by
  simp [eqD, pd, pd0, PyData.canLay0, PyData.eqv, ha, hb, PyData.depth]
end Mi
namespace Mi
open PySem PySem.Spec PyProof.Rows L2

/-! ### running pieces -/
mutual
inductive RP where
  | num (i : Int) | name (x : Str) | fun_ (a : Int) (x : Str) (b : RP) | call (a : Int) (f x : RP) | plus (a : Int) (x y : RP) | pick (a : Int) (c x y : RP)
  | round (b : RP) | take (a : Int) (x : Str) (b : RP) | shut (a : Int) (x : Str) (b : RP) | kept (a : Int) (fs : List Fr)
inductive Fr where
  | caller (a : Int) (x : RP) | given (a : Int) (f : RP) | adder (a : Int) (y : RP) | added (a : Int) (x : RP) | picker (a : Int) (x y : RP) | round
end
mutual
def enc : RP → D
  | .num i => .tup [.str "num", .int i]
  | .name x => .tup [.str "name", .str x]
  | .fun_ a x b => .tup [.str "fun", .int a, .str x, enc b]
  | .call a f x => .tup [.str "call", .int a, enc f, enc x]
  | .plus a x y => .tup [.str "plus", .int a, enc x, enc y]
  | .pick a c x y => .tup [.str "pick", .int a, enc c, enc x, enc y]
  | .round b => .tup [.str "round", enc b]
  | .take a x b => .tup [.str "take", .int a, .str x, enc b]
  | .shut a x b => .tup [.str "shut", .int a, .str x, enc b]
  | .kept a fs => .tup [.str "kept", .int a, .tup (encFs fs)]
def encF : Fr → D
  | .caller a x => .tup [.str "caller", .int a, enc x]
  | .given a f => .tup [.str "given", .int a, enc f]
  | .adder a y => .tup [.str "adder", .int a, enc y]
  | .added a x => .tup [.str "added", .int a, enc x]
  | .picker a x y => .tup [.str "picker", .int a, enc x, enc y]
  | .round => .tup [.str "round"]
def encFs : List Fr → List D
  | [] => []
  | f :: fs => encF f :: encFs fs
end
theorem encFs_map (fs : List Fr) : encFs fs = fs.map encF := by
  induction fs with
  | nil => simp [encFs]
  | cons f fs ih => simp [encFs, ih]
mutual
theorem lt_enc (n : Nat) : ∀ p : RP, ltD n (enc p) = true
  | .num i => by simp [enc, ltD, ltDs]
  | .name x => by simp [enc, ltD, ltDs]
  | .fun_ a x b => by simp [enc, ltD, ltDs, lt_enc n b]
  | .call a f x => by simp [enc, ltD, ltDs, lt_enc n f, lt_enc n x]
  | .plus a x y => by simp [enc, ltD, ltDs, lt_enc n x, lt_enc n y]
  | .pick a c x y => by simp [enc, ltD, ltDs, lt_enc n c, lt_enc n x, lt_enc n y]
  | .round b => by simp [enc, ltD, ltDs, lt_enc n b]
  | .take a x b => by simp [enc, ltD, ltDs, lt_enc n b]
  | .shut a x b => by simp [enc, ltD, ltDs, lt_enc n b]
  | .kept a fs => by simp [enc, ltD, ltDs, lt_encFs n fs]
theorem lt_encF (n : Nat) : ∀ f : Fr, ltD n (encF f) = true
  | .caller a x => by simp [encF, ltD, ltDs, lt_enc n x]
  | .given a f => by simp [encF, ltD, ltDs, lt_enc n f]
  | .adder a y => by simp [encF, ltD, ltDs, lt_enc n y]
  | .added a x => by simp [encF, ltD, ltDs, lt_enc n x]
  | .picker a x y => by simp [encF, ltD, ltDs, lt_enc n x, lt_enc n y]
  | .round => by simp [encF, ltD, ltDs]
theorem lt_encFs (n : Nat) : ∀ fs : List Fr, ltDs n (encFs fs) = true
  | [] => by simp [encFs, ltDs]
  | f :: fs => by simp [encFs, ltDs, lt_encF n f, lt_encFs n fs]
end
def RP.isVal : RP → Bool
  | .num _ => true | .shut _ _ _ => true | .kept _ _ => true
  | _ => false
/-- how deep, but for what stands within values -/
def RP.dp : RP → Nat
  | .fun_ _ _ b => b.dp + 1
  | .call _ f x => max f.dp x.dp + 1
  | .plus _ f x => max f.dp x.dp + 1
  | .pick _ c x y => max c.dp (max x.dp y.dp) + 1
  | .round b => b.dp + 1
  | .take _ _ b => b.dp + 1
  | _ => 0
/-- v put in for x -/
def RP.put (x : Str) (v : RP) : RP → RP
  | .name y => if y == x then v else .name y
  | .fun_ a y b => if y == x then .fun_ a y b else .fun_ a y (RP.put x v b)
  | .call a f c => .call a (RP.put x v f) (RP.put x v c)
  | .plus a f c => .plus a (RP.put x v f) (RP.put x v c)
  | .pick a c f g => .pick a (RP.put x v c) (RP.put x v f) (RP.put x v g)
  | .round b => .round (RP.put x v b)
  | .take a y b => if y == x then .take a y b else .take a y (RP.put x v b)
  | p => p
/-- the texts that stand in it are texts -/
def RP.sok : RP → Bool
  | .name x => PyData.strOk x
  | .fun_ _ x b => PyData.strOk x && b.sok
  | .call _ f x => f.sok && x.sok
  | .plus _ f x => f.sok && x.sok
  | .pick _ c x y => c.sok && x.sok && y.sok
  | .round b => b.sok
  | .take _ x b => PyData.strOk x && b.sok
  | _ => true
end Mi
namespace Mi
open PySem PySem.Spec PyProof.Rows L2

/-! ### a state that is written -/
theorem gc_set {m l : List SO} {s : Nat} {xs : List D} {d : D} (h : ltD m.length d = true) (hx : ltDs m.length xs = true) (hs : s < m.length) : gc m d (m.set s (.lst xs) ++ l) = (d, m.set s (.lst xs)) := by
  have hk : Kept m (m.set s (.lst xs) ++ l) := by
    refine ⟨by simp, fun i hi => ?_⟩
    rw [List.getElem?_append_left (by simpa using hi)]
    by_cases e : s = i
    · subst e
      right
      exact ⟨.lst xs, by rw [List.getElem?_set_self hs], hx⟩
    · left
      rw [List.getElem?_set_ne e]
  unfold gc
  rw [if_pos hk, if_pos h, List.take_left']
  simp
theorem gc_set0 {m : List SO} {s : Nat} {xs : List D} {d : D} (h : ltD m.length d = true) (hx : ltDs m.length xs = true) (hs : s < m.length) : gc m d (m.set s (.lst xs)) = (d, m.set s (.lst xs)) := by
  have := gc_set (l := []) h hx hs
  rwa [List.append_nil] at this
section
variable (m l : List SO) (s : Nat) (o : SO)
@[simp] theorem sset_app0 (o' : SO) : (m.set s o ++ l).set m.length o' = m.set s o ++ l.set 0 o' := by
  have := set_app0 (m.set s o) l o'
  rwa [List.length_set] at this
@[simp] theorem sset_appn (j : Nat) (o' : SO) : (m.set s o ++ l).set (m.length + j) o' = m.set s o ++ l.set j o' := by
  have := set_appn (m.set s o) l j o'
  rwa [List.length_set] at this
@[simp] theorem sgetL_app0 (xs : List D) : getL (m.set s o ++ .lst xs :: l) m.length = some xs := by
  have := getL_app0 (m.set s o) xs l
  rwa [List.length_set] at this
@[simp] theorem sgetL_appn (j : Nat) : getL (m.set s o ++ l) (m.length + j) = getL l j := by
  have := getL_appn (m.set s o) l j
  rwa [List.length_set] at this
@[simp] theorem sget_app0 : (m.set s o ++ l)[m.length]? = l[0]? := by
  have := get_app0 (m.set s o) l
  rwa [List.length_set] at this
@[simp] theorem sget_appn (j : Nat) : (m.set s o ++ l)[m.length + j]? = l[j]? := by
  have := get_appn (m.set s o) l j
  rwa [List.length_set] at this
end
theorem getL_lt {m : List SO} {s : Nat} {xs : List D} (h : getL m s = some xs) : s < m.length := by
  unfold getL at h
  rcases Nat.lt_or_ge s m.length with h1 | h1
  · exact h1
  · rw [List.getElem?_eq_none h1] at h; cases h
theorem getL_set_same {m : List SO} {s : Nat} (h : s < m.length) (xs : List D) : getL (m.set s (.lst xs)) s = some xs := by
  unfold getL; rw [List.getElem?_set_self h]
theorem getL_set_ne {m : List SO} {s c : Nat} (h : s ≠ c) (o : SO) : getL (m.set s o) c = getL m c := by
  unfold getL; rw [List.getElem?_set_ne h]
theorem set_in {m l : List SO} {s : Nat} (h : s < m.length) (o : SO) : (m ++ l).set s o = m.set s o ++ l := List.set_append_left _ _ h
theorem set_in2 {m l : List SO} {s : Nat} (h : s < m.length) (o o' : SO) : (m.set s o ++ l).set s o' = m.set s o' ++ l := by
  rw [List.set_append_left _ _ (by simpa using h), List.set_set]
end Mi
namespace Mi
open PySem PySem.Spec PyProof.Rows L2

/-! ### names -/
def Low (x : Str) : Prop := ∀ c ∈ x.cps.toList, 97 ≤ c ∧ c ≤ 122
def Nm (x : Str) : Prop := Low x ∧ 0 < x.length ∧ x.length ≤ 8
theorem Low.sok {x : Str} (h : Low x) : PyData.strOk x = true := by
  unfold PyData.strOk
  rw [← Array.all_toList, List.all_eq_true]
  intro c hc
  have := h c hc
  simp only [decide_eq_true_eq]
  omega
theorem Nm.sok {x : Str} (h : Nm x) : PyData.strOk x = true := h.1.sok
theorem app_cps (a b : Str) : (a ++ b).cps.toList = a.cps.toList ++ b.cps.toList := by
  show (a.cps ++ b.cps).toList = _
  simp
theorem len_cps (a : Str) : a.length = a.cps.toList.length := by
  show a.cps.size = _
  simp
theorem Low.app {a b : Str} (ha : Low a) (hb : Low b) : Low (a ++ b) := by
  intro c hc
  rw [app_cps, List.mem_append] at hc
  rcases hc with h | h
  · exact ha c h
  · exact hb c h
theorem Low.cut {a : Str} (ha : Low a) (lo hi : Option Int) : Low (cutS a lo hi) := by
  intro c hc
  unfold cutS at hc
  exact ha c (List.mem_of_mem_drop (List.mem_of_mem_take hc))
@[simp] theorem len_app (a b : Str) : (a ++ b).length = a.length + b.length := by
  rw [len_cps, len_cps, len_cps, app_cps, List.length_append]
def sg (c : Nat) : Str := ⟨#[c]⟩
@[simp] theorem len_sg (c : Nat) : (sg c).length = 1 := rfl
theorem Low.one {c : Nat} (h : 97 ≤ c ∧ c ≤ 122) : Low (sg c) := by
  intro d hd
  have : d = c := by simpa [sg] using hd
  rw [this]; exact h
theorem len_cutTo {a : Str} {i : Int} (h0 : 0 ≤ i) (h : i ≤ a.length) : (cutS a none (some i)).length = i.toNat := by
  obtain ⟨n, rfl⟩ : ∃ n : Nat, i = n := ⟨i.toNat, by omega⟩
  have hl := len_cps a
  have hs : a.cps.size = a.length := rfl
  rw [len_cps]
  unfold cutS
  rw [HT.sIx_none, HT.sIx_nat]
  simp
  omega
theorem len_cutFrom {a : Str} {i : Int} (h0 : 0 ≤ i) (h : i ≤ a.length) : (cutS a (some i) none).length = a.length - i.toNat := by
  obtain ⟨n, rfl⟩ : ∃ n : Nat, i = n := ⟨i.toNat, by omega⟩
  have hl := len_cps a
  have hs : a.cps.size = a.length := rfl
  rw [len_cps]
  unfold cutS
  rw [HT.sIx_none, HT.sIx_nat]
  simp
  omega
theorem len_cutLast {a : Str} : (cutS a none (some (-1))).length = a.length - 1 := by
  have hl := len_cps a
  have hs : a.cps.size = a.length := rfl
  have e : HT.sIx a.length a.length (some (-1)) = a.length - 1 := by
    unfold HT.sIx
    simp only
    rw [if_pos (by decide)]
    omega
  rw [len_cps]
  unfold cutS
  rw [HT.sIx_none, e]
  simp
  omega
def alpha : Str := Str.ofString "abcdefghijklmnopqrstuvwxyz"
theorem alpha_list : alpha.cps.toList = (List.range 26).map (· + 97) := by decide +kernel
theorem alpha_len : alpha.length = 26 := by decide +kernel
theorem at_alpha {i : Int} (h0 : 0 ≤ i) (h : i < 26) : atI alpha.cps.toList i = some (97 + i.toNat) := by
  obtain ⟨n, rfl⟩ : ∃ n : Nat, i = n := ⟨i.toNat, by omega⟩
  rw [alpha_list]
  unfold atI ixN
  have hn : n < 26 := by omega
  simp [hn, show ((n : Int) < 26) from by omega]
  omega
theorem idx_alpha {i : Int} (h0 : 0 ≤ i) (h : i < 26) (m : List SO) : idxD (.str (Str.ofString "abcdefghijklmnopqrstuvwxyz")) (.int i) m = some (D.str (sg (97 + i.toNat)), m) := by
  show (if alpha.length ≤ sizeLine then (match atI alpha.cps.toList i with
      | some c => some (D.str ⟨#[c]⟩, m)
      | none => none) else none) = _
  rw [at_alpha h0 h, alpha_len, if_pos (by decide)]
  rfl
theorem join_low : ∀ l : List Str, (∀ a ∈ l, Low a) → Low (Str.join (Str.ofString "") l)
  | [], _ => by intro c hc; simp [Str.join, Str.empty] at hc
  | [a], h => h a (by simp)
  | a :: b :: l, h => by
    show Low ((a ++ Str.ofString "") ++ Str.join (Str.ofString "") (b :: l))
    refine Low.app (Low.app (h a (by simp)) ?_) (join_low (b :: l) fun x hx => h x (by simp [hx]))
    intro c hc
    have e : (Str.ofString "").cps.toList = [] := by decide +kernel
    rw [e] at hc; cases hc
theorem join_low' {l : List Str} (h : ∀ a ∈ l, Low a) : Low (Txt.join (Str.ofString "") l) := by
  have e : Txt.join (Str.ofString "") l = Str.join (Str.ofString "") l := StrLaws.glued_eq_join _ l
  rw [e]; exact join_low l h
theorem join_len {l : List Str} (h : ∀ a ∈ l, a.length = 1) : (Txt.join (Str.ofString "") l).length = l.length := by
  show (Builtin.Str.glued (Str.ofString "") l).length = _
  rw [StrLaws.glued_eq_join]
  cases l with
  | nil => rfl
  | cons a r =>
    have z : (Str.ofString "").length = 0 := by decide
    rw [len_join_cons, sumLen_of_ones (a :: r) h, z]
    simp
theorem set_getL {m : List SO} {n : Nat} {xs : List D} (h : getL m n = some xs) : m.set n (.lst xs) = m := by
  have hn := getL_lt h
  apply List.ext_getElem? 
  intro i
  by_cases e : n = i
  · subst e
    rw [List.getElem?_set_self hn]
    unfold getL at h
    rw [List.getElem?_eq_getElem hn] at h ⊢
    cases hm : m[n] with
    | lst ys => rw [hm] at h; simp at h; rw [h]
    | dct ys => rw [hm] at h; simp at h
  · rw [List.getElem?_set_ne e]
/-- a comprehension whose turns change nothing -/
theorem compL_pure {f : D → M (Option D)} {n : Nat} (g : D → D) : ∀ (xs : List D) {m : List SO} {acc : List D}, (∀ x ∈ xs, ∀ m, f x m = some (some (g x), m)) → getL m n = some acc → acc.length + xs.length ≤ sizeLine →
    compL f none n xs m = some ((), m.set n (.lst (acc ++ xs.map g)))
  | [], m, acc, _, hg, _ => by
    unfold compL
    rw [if_pos (by trivial)]
    simp [set_getL hg]
  | x :: xs, m, acc, hf, hg, hl => by
    unfold compL
    have hn := getL_lt hg
    rw [if_pos (by trivial), hf x (by simp) m]
    simp only [hg]
    have hl' : acc.length + (xs.length + 1) ≤ sizeLine := by simpa using hl
    rw [if_pos (by omega), compL_pure g xs (fun y hy => hf y (by simp [hy])) (getL_set_same hn _) (by simp; omega)]
    simp
theorem strsOf_map (l : List Str) : strsOf (l.map D.str) = some l := by
  induction l with
  | nil => rfl
  | cons a l ih => simp [strsOf, ih]

/-! ### alike -/
theorem eqD_refl {k : Nat} {m : List SO} {d : D} {a : PyData} (h : pd m d = some a) (hl : a.canLay0 = true) (hd : a.depth ≤ 32 * k + 200) : eqD k m d d = some true := by
  unfold eqD
  rw [h]
  simp only
  rw [if_pos ⟨hl, hl, by simpa using hd⟩, SeqAt.eqv_refl a hl]
theorem pds_strs {l : List Str} : pds0 (l.map D.str) = some (l.map PyData.str) := by
  induction l with
  | nil => rfl
  | cons a l ih => simp [pds0, pd0, ih]
theorem lay_strs {l : List Str} (h : ∀ x ∈ l, PyData.strOk x = true) : PyData.canLayAll0 (l.map PyData.str) = true := by
  induction l with
  | nil => rfl
  | cons a l ih =>
    have h1 := ih fun x hx => h x (by simp [hx])
    simp [PyData.canLayAll0, PyData.canLay0, h a (by simp), h1]
theorem eqD_strs {k : Nat} {m : List SO} {c j : Nat} {l : List Str} (h : ∀ x ∈ l, PyData.strOk x = true) (hc : getL m c = some (l.map .str)) (hj : getL m j = some []) : eqD k m (.loc c) (.loc j) = some l.isEmpty := by
  have p1 : pd m (.loc c) = some (.list (l.map PyData.str)) := by
    unfold getL at hc
    unfold pd
    revert hc
    cases hm : m[c]? with
    | none => intro h; cases h
    | some o =>
      cases o with
      | lst xs =>
        intro e
        have e : xs = l.map .str := by simpa using e
        subst e
        simp [hm, pds_strs]
      | dct xs => intro e; cases e
  have p2 : pd m (.loc j) = some (.list []) := by
    unfold getL at hj
    unfold pd
    revert hj
    cases hm : m[j]? with
    | none => intro h; cases h
    | some o =>
      cases o with
      | lst xs =>
        intro e
        have e : xs = [] := by simpa using e
        subst e
        simp [hm, pds0]
      | dct xs => intro e; cases e
  unfold eqD
  rw [p1, p2]
  simp only
  rw [if_pos ⟨by simpa [PyData.canLay0] using lay_strs h, by simp [PyData.canLay0, PyData.canLayAll0], by
    have : (PyData.list []).depth = 1 := by simp [PyData.depth, PyData.depthAll]
    omega⟩]
  cases l <;> simp [PyData.eqv, PyData.eqvAll]
mutual
/-- all texts are texts -/
def RP.all : RP → Bool
  | .num _ => true
  | .name x => PyData.strOk x
  | .fun_ _ x b => PyData.strOk x && b.all
  | .call _ f x => f.all && x.all
  | .plus _ f x => f.all && x.all
  | .pick _ c x y => c.all && x.all && y.all
  | .round b => b.all
  | .take _ x b => PyData.strOk x && b.all
  | .shut _ x b => PyData.strOk x && b.all
  | .kept _ fs => RP.allFs fs
def RP.allF : Fr → Bool
  | .caller _ x => x.all
  | .given _ x => x.all
  | .adder _ x => x.all
  | .added _ x => x.all
  | .picker _ x y => x.all && y.all
  | .round => true
def RP.allFs : List Fr → Bool
  | [] => true
  | f :: fs => RP.allF f && RP.allFs fs
end
mutual
def RP.dep : RP → Nat
  | .num _ => 1
  | .name x => 1
  | .fun_ _ x b => b.dep + 1
  | .call _ f x => max f.dep x.dep + 1
  | .plus _ f x => max f.dep x.dep + 1
  | .pick _ c x y => max c.dep (max x.dep y.dep) + 1
  | .round b => b.dep + 1
  | .take _ x b => b.dep + 1
  | .shut _ x b => b.dep + 1
  | .kept _ fs => RP.depFs fs + 2
def RP.depF : Fr → Nat
  | .caller _ x => x.dep + 1
  | .given _ x => x.dep + 1
  | .adder _ x => x.dep + 1
  | .added _ x => x.dep + 1
  | .picker _ x y => max x.dep y.dep + 1
  | .round => 1
def RP.depFs : List Fr → Nat
  | [] => 0
  | f :: fs => max (RP.depF f) (RP.depFs fs)
end
mutual
theorem lay_enc : ∀ p : RP, p.all = true → ∃ a, pd0 (enc p) = some a ∧ a.canLay0 = true ∧ a.depth ≤ p.dep
  | .num i, _ => by simp [enc, pd0, pds0, PyData.canLay0, PyData.canLayAll0, PyData.depth, PyData.depthAll, RP.dep]
  | .name x, h => by
    have h : PyData.strOk x = true := by simpa [RP.all] using h
    simp [enc, pd0, pds0, PyData.canLay0, PyData.canLayAll0, PyData.depth, PyData.depthAll, RP.dep, h]
  | .fun_ a x b, h => by
    have h : PyData.strOk x = true ∧ b.all = true := by simpa [RP.all] using h
    obtain ⟨u, h1, h2, h3⟩ := lay_enc b h.2
    simp [enc, pd0, pds0, PyData.canLay0, PyData.canLayAll0, PyData.depth, PyData.depthAll, RP.dep, h, h1, h2]
    omega
  | .take a x b, h => by
    have h : PyData.strOk x = true ∧ b.all = true := by simpa [RP.all] using h
    obtain ⟨u, h1, h2, h3⟩ := lay_enc b h.2
    simp [enc, pd0, pds0, PyData.canLay0, PyData.canLayAll0, PyData.depth, PyData.depthAll, RP.dep, h, h1, h2]
    omega
  | .shut a x b, h => by
    have h : PyData.strOk x = true ∧ b.all = true := by simpa [RP.all] using h
    obtain ⟨u, h1, h2, h3⟩ := lay_enc b h.2
    simp [enc, pd0, pds0, PyData.canLay0, PyData.canLayAll0, PyData.depth, PyData.depthAll, RP.dep, h, h1, h2]
    omega
  | .round b, h => by
    have h : b.all = true := by simpa [RP.all] using h
    obtain ⟨u, h1, h2, h3⟩ := lay_enc b h
    simp [enc, pd0, pds0, PyData.canLay0, PyData.canLayAll0, PyData.depth, PyData.depthAll, RP.dep, h, h1, h2]
    omega
  | .call a f x, h => by
    have h : f.all = true ∧ x.all = true := by simpa [RP.all] using h
    obtain ⟨u, h1, h2, h3⟩ := lay_enc f h.1
    obtain ⟨v, i1, i2, i3⟩ := lay_enc x h.2
    simp [enc, pd0, pds0, PyData.canLay0, PyData.canLayAll0, PyData.depth, PyData.depthAll, RP.dep, h1, h2, i1, i2]
    omega
  | .plus a f x, h => by
    have h : f.all = true ∧ x.all = true := by simpa [RP.all] using h
    obtain ⟨u, h1, h2, h3⟩ := lay_enc f h.1
    obtain ⟨v, i1, i2, i3⟩ := lay_enc x h.2
    simp [enc, pd0, pds0, PyData.canLay0, PyData.canLayAll0, PyData.depth, PyData.depthAll, RP.dep, h1, h2, i1, i2]
    omega
  | .pick a c f x, h => by
    have h : (c.all = true ∧ f.all = true) ∧ x.all = true := by simpa [RP.all] using h
    obtain ⟨w, j1, j2, j3⟩ := lay_enc c h.1.1
    obtain ⟨u, h1, h2, h3⟩ := lay_enc f h.1.2
    obtain ⟨v, i1, i2, i3⟩ := lay_enc x h.2
    simp [enc, pd0, pds0, PyData.canLay0, PyData.canLayAll0, PyData.depth, PyData.depthAll, RP.dep, h1, h2, i1, i2, j1, j2]
    omega
  | .kept a fs, h => by
    obtain ⟨u, h1, h2, h3⟩ := lay_encFs fs (by simpa [RP.all] using h)
    simp [enc, pd0, pds0, PyData.canLay0, PyData.canLayAll0, PyData.depth, PyData.depthAll, RP.dep, h1, h2]
    omega
theorem lay_encF : ∀ p : Fr, RP.allF p = true → ∃ a, pd0 (encF p) = some a ∧ a.canLay0 = true ∧ a.depth ≤ RP.depF p
  | .round, _ => by simp [encF, pd0, pds0, PyData.canLay0, PyData.canLayAll0, PyData.depth, PyData.depthAll, RP.depF]
  | .caller a b, h => by
    have h : b.all = true := by simpa [RP.allF] using h
    obtain ⟨u, h1, h2, h3⟩ := lay_enc b h
    simp [encF, pd0, pds0, PyData.canLay0, PyData.canLayAll0, PyData.depth, PyData.depthAll, RP.depF, h, h1, h2]
    omega
  | .given a b, h => by
    have h : b.all = true := by simpa [RP.allF] using h
    obtain ⟨u, h1, h2, h3⟩ := lay_enc b h
    simp [encF, pd0, pds0, PyData.canLay0, PyData.canLayAll0, PyData.depth, PyData.depthAll, RP.depF, h, h1, h2]
    omega
  | .adder a b, h => by
    have h : b.all = true := by simpa [RP.allF] using h
    obtain ⟨u, h1, h2, h3⟩ := lay_enc b h
    simp [encF, pd0, pds0, PyData.canLay0, PyData.canLayAll0, PyData.depth, PyData.depthAll, RP.depF, h, h1, h2]
    omega
  | .added a b, h => by
    have h : b.all = true := by simpa [RP.allF] using h
    obtain ⟨u, h1, h2, h3⟩ := lay_enc b h
    simp [encF, pd0, pds0, PyData.canLay0, PyData.canLayAll0, PyData.depth, PyData.depthAll, RP.depF, h, h1, h2]
    omega
  | .picker a f x, h => by
    have h : f.all = true ∧ x.all = true := by simpa [RP.allF] using h
    obtain ⟨u, h1, h2, h3⟩ := lay_enc f h.1
    obtain ⟨v, i1, i2, i3⟩ := lay_enc x h.2
    simp [encF, pd0, pds0, PyData.canLay0, PyData.canLayAll0, PyData.depth, PyData.depthAll, RP.depF, h1, h2, i1, i2]
    omega
theorem lay_encFs : ∀ fs : List Fr, RP.allFs fs = true → ∃ as, pds0 (encFs fs) = some as ∧ PyData.canLayAll0 as = true ∧ PyData.depthAll as ≤ RP.depFs fs
  | [], _ => by simp [encFs, pds0, PyData.canLayAll0, PyData.depthAll, RP.depFs]
  | f :: fs, h => by
    have h : RP.allF f = true ∧ RP.allFs fs = true := by simpa [RP.allFs] using h
    obtain ⟨u, h1, h2, h3⟩ := lay_encF f h.1
    obtain ⟨v, i1, i2, i3⟩ := lay_encFs fs h.2
    simp [encFs, pds0, PyData.canLayAll0, PyData.depthAll, RP.depFs, h1, h2, i1, i2]
    omega
end
theorem pd_enc (m : List SO) (p : RP) : pd m (enc p) = pd0 (enc p) := by
  cases p <;> rfl
theorem eqD_enc {k : Nat} {m : List SO} {p : RP} (h : p.all = true) (hd : p.dep ≤ 16 * k + 200) : eqD k m (enc p) (enc p) = some true := by
  obtain ⟨a, h1, h2, h3⟩ := lay_enc p h
  exact eqD_refl (by rw [pd_enc]; exact h1) h2 (by omega)
theorem RP.all_put {x : Str} {v : RP} (hv : v.all = true) : ∀ p : RP, p.all = true → (RP.put x v p).all = true
  | .num i, h => h
  | .shut _ _ _, h => h
  | .kept _ _, h => h
  | .name y, h => by unfold RP.put; split <;> assumption
  | .fun_ a y b, h => by
    have h' : PyData.strOk y = true ∧ b.all = true := by simpa [RP.all] using h
    unfold RP.put; split
    · exact h
    · simp [RP.all, h'.1, RP.all_put hv b h'.2]
  | .take a y b, h => by
    have h' : PyData.strOk y = true ∧ b.all = true := by simpa [RP.all] using h
    unfold RP.put; split
    · exact h
    · simp [RP.all, h'.1, RP.all_put hv b h'.2]
  | .round b, h => by
    have h' : b.all = true := by simpa [RP.all] using h
    simp [RP.put, RP.all, RP.all_put hv b h']
  | .call a f g, h => by
    have h' : f.all = true ∧ g.all = true := by simpa [RP.all] using h
    simp [RP.put, RP.all, RP.all_put hv f h'.1, RP.all_put hv g h'.2]
  | .plus a f g, h => by
    have h' : f.all = true ∧ g.all = true := by simpa [RP.all] using h
    simp [RP.put, RP.all, RP.all_put hv f h'.1, RP.all_put hv g h'.2]
  | .pick a c f g, h => by
    have h' : (c.all = true ∧ f.all = true) ∧ g.all = true := by simpa [RP.all] using h
    simp [RP.put, RP.all, RP.all_put hv c h'.1.1, RP.all_put hv f h'.1.2, RP.all_put hv g h'.2]
theorem RP.dep_put {x : Str} {v : RP} : ∀ p : RP, (RP.put x v p).dep ≤ p.dep + v.dep
  | .num i => by simp [RP.put]
  | .shut _ _ _ => by simp [RP.put]
  | .kept _ _ => by simp [RP.put]
  | .name y => by unfold RP.put; split <;> simp
  | .fun_ a y b => by
    have := RP.dep_put (x := x) (v := v) b
    unfold RP.put; split <;> simp [RP.dep] <;> omega
  | .take a y b => by
    have := RP.dep_put (x := x) (v := v) b
    unfold RP.put; split <;> simp [RP.dep] <;> omega
  | .round b => by
    have := RP.dep_put (x := x) (v := v) b
    simp [RP.put, RP.dep]; omega
  | .call a f g => by
    have := RP.dep_put (x := x) (v := v) f
    have := RP.dep_put (x := x) (v := v) g
    simp [RP.put, RP.dep]; omega
  | .plus a f g => by
    have := RP.dep_put (x := x) (v := v) f
    have := RP.dep_put (x := x) (v := v) g
    simp [RP.put, RP.dep]; omega
  | .pick a c f g => by
    have := RP.dep_put (x := x) (v := v) c
    have := RP.dep_put (x := x) (v := v) f
    have := RP.dep_put (x := x) (v := v) g
    simp [RP.put, RP.dep]; omega
theorem RP.dp_put {x : Str} {v : RP} : ∀ p : RP, (RP.put x v p).dp ≤ p.dp + v.dp
  | .num i => by simp [RP.put]
  | .shut _ _ _ => by simp [RP.put]
  | .kept _ _ => by simp [RP.put]
  | .name y => by unfold RP.put; split <;> simp
  | .fun_ a y b => by
    have := RP.dp_put (x := x) (v := v) b
    unfold RP.put; split <;> simp [RP.dp] <;> omega
  | .take a y b => by
    have := RP.dp_put (x := x) (v := v) b
    unfold RP.put; split <;> simp [RP.dp] <;> omega
  | .round b => by
    have := RP.dp_put (x := x) (v := v) b
    simp [RP.put, RP.dp]; omega
  | .call a f g => by
    have := RP.dp_put (x := x) (v := v) f
    have := RP.dp_put (x := x) (v := v) g
    simp [RP.put, RP.dp]; omega
  | .plus a f g => by
    have := RP.dp_put (x := x) (v := v) f
    have := RP.dp_put (x := x) (v := v) g
    simp [RP.put, RP.dp]; omega
  | .pick a c f g => by
    have := RP.dp_put (x := x) (v := v) c
    have := RP.dp_put (x := x) (v := v) f
    have := RP.dp_put (x := x) (v := v) g
    simp [RP.put, RP.dp]; omega
theorem RP.all_sok : ∀ p : RP, p.all = true → p.sok = true
  | .num _, _ => rfl
  | .name _, h => h
  | .shut _ _ _, _ => rfl
  | .kept _ _, _ => rfl
  | .fun_ a y b, h => by
    have h' : PyData.strOk y = true ∧ b.all = true := by simpa [RP.all] using h
    simp [RP.sok, h'.1, RP.all_sok b h'.2]
  | .take a y b, h => by
    have h' : PyData.strOk y = true ∧ b.all = true := by simpa [RP.all] using h
    simp [RP.sok, h'.1, RP.all_sok b h'.2]
  | .round b, h => by
    have h' : b.all = true := by simpa [RP.all] using h
    simp [RP.sok, RP.all_sok b h']
  | .call a f g, h => by
    have h' : f.all = true ∧ g.all = true := by simpa [RP.all] using h
    simp [RP.sok, RP.all_sok f h'.1, RP.all_sok g h'.2]
  | .plus a f g, h => by
    have h' : f.all = true ∧ g.all = true := by simpa [RP.all] using h
    simp [RP.sok, RP.all_sok f h'.1, RP.all_sok g h'.2]
  | .pick a c f g, h => by
    have h' : (c.all = true ∧ f.all = true) ∧ g.all = true := by simpa [RP.all] using h
    simp [RP.sok, RP.all_sok c h'.1.1, RP.all_sok f h'.1.2, RP.all_sok g h'.2]
theorem RP.dep_dp : ∀ p : RP, p.dp ≤ p.dep
  | .num _ => by simp [RP.dp]
  | .name _ => by simp [RP.dp]
  | .shut _ _ _ => by simp [RP.dp]
  | .kept _ _ => by simp [RP.dp]
  | .fun_ a y b => by have := RP.dep_dp b; simp [RP.dp, RP.dep]; omega
  | .take a y b => by have := RP.dep_dp b; simp [RP.dp, RP.dep]; omega
  | .round b => by have := RP.dep_dp b; simp [RP.dp, RP.dep]; omega
  | .call a f g => by have := RP.dep_dp f; have := RP.dep_dp g; simp [RP.dp, RP.dep]; omega
  | .plus a f g => by have := RP.dep_dp f; have := RP.dep_dp g; simp [RP.dp, RP.dep]; omega
  | .pick a c f g => by have := RP.dep_dp c; have := RP.dep_dp f; have := RP.dep_dp g; simp [RP.dp, RP.dep]; omega
end Mi
namespace Mi
open PySem PySem.Spec PyProof.Rows L2

section
variable (i j : Int) (m : List SO)
@[simp] theorem bin_add : binD .add (.int i) (.int j) m = some (.int (i + j), m) := rfl
@[simp] theorem bin_sub : binD .sub (.int i) (.int j) m = some (.int (i - j), m) := rfl
theorem bin_mul {i j : Int} (h : (-(2 ^ 64) < i ∧ i < 2 ^ 64) ∨ (-(2 ^ 64) < j ∧ j < 2 ^ 64)) : binD .mul (.int i) (.int j) m = some (.int (i * j), m) := by
  show (match Mi.binI .mul i j with
    | some k => some (D.int k, m)
    | none => none) = _
  unfold Mi.binI
  simp only
  rw [if_pos h]
@[simp] theorem bin_mul_l {i j : Int} (h : -(2 ^ 64) < i ∧ i < 2 ^ 64) : binD .mul (.int i) (.int j) m = some (.int (i * j), m) := bin_mul m (.inl h)
@[simp] theorem bin_mul_r {i j : Int} (h : -(2 ^ 64) < j ∧ j < 2 ^ 64) : binD .mul (.int i) (.int j) m = some (.int (i * j), m) := bin_mul m (.inr h)
@[simp] theorem bin_fdiv {i j : Int} (h : 0 < j ∧ j < 1073741824) : binD .fdiv (.int i) (.int j) m = some (.int (i / j), m) := by
  show (match Mi.binI .fdiv i j with
    | some k => some (D.int k, m)
    | none => none) = _
  unfold Mi.binI
  simp only
  rw [if_pos h]
@[simp] theorem bin_mod {i j : Int} (h : 0 < j) : binD .mod (.int i) (.int j) m = some (.int (i % j), m) := by
  show (match Mi.binI .mod i j with
    | some k => some (D.int k, m)
    | none => none) = _
  unfold Mi.binI
  simp only
  rw [if_pos h]
@[simp] theorem bin_pow {i j : Int} (h : 0 ≤ j ∧ j ≤ 1000000 ∧ i.natAbs < 2 ^ 64) : binD .pow (.int i) (.int j) m = some (.int (i ^ j.toNat), m) := by
  show (match Mi.binI .pow i j with
    | some k => some (D.int k, m)
    | none => none) = _
  unfold Mi.binI
  simp only
  rw [if_pos h]
@[simp] theorem bin_strs {a b : Str} (h : a.length + b.length ≤ 16777216) : binD .add (.str a) (.str b) m = some (.str (a ++ b), m) := if_pos h
@[simp] theorem bin_tups {a b : List D} (h : a.length + b.length ≤ 16777216) : binD .add (.tup a) (.tup b) m = some (.tup (a ++ b), m) := if_pos h
theorem bin_locs {a b : Nat} {xs ys : List D} {m : List SO} (ha : getL m a = some xs) (hb : getL m b = some ys) (h : xs.length + ys.length ≤ sizeLine) : binD .add (.loc a) (.loc b) m = some (.loc m.length, m ++ [.lst (xs ++ ys)]) := by
  show (match getL m a, getL m b with
    | some xs, some ys => if xs.length + ys.length ≤ sizeLine then newL (xs ++ ys) m else none
    | _, _ => none) = _
  rw [ha, hb]
  simp only
  rw [if_pos h]
  unfold newL
  rw [if_pos (by simpa using h)]
theorem compL_nil {f : D → M (Option D)} {n : Nat} : compL f none n [] m = some ((), m) := by
  unfold compL
  rw [if_pos (by trivial)]
theorem compL_cons {f : D → M (Option D)} {n : Nat} {x : D} {xs : List D} : compL f none n (x :: xs) m = match f x m with
    | some (none, m') => compL f none n xs m'
    | some (some d, m') => match getL m' n with
      | some acc => if acc.length < sizeLine then compL f none n xs (m'.set n (.lst (acc ++ [d]))) else none
      | none => none
    | none => none := by
  rw [compL]
  exact if_pos (by trivial)
theorem itemsR {j : Int} {m : List SO} (h : -(2 ^ 62) ≤ j ∧ j < 2 ^ 62) : itemsD .rng1 [.int j] m = some (((List.range j.toNat).map fun (i : Nat) => D.int i, none), m) := if_pos h
theorem meth_join {m : List SO} {n : Nat} {zs : List Str} {a : Str} (h : getL m n = some (zs.map .str)) (hb : (zs.map (·.length)).sum + zs.length * a.length ≤ 16777216) : methD .join (.str a) [.loc n] m = some (.str (Txt.join a zs), m) := by
  unfold methD
  have e : seqOf m (.loc n) = some (zs.map .str) := h
  simp only
  rw [e]
  simp only
  rw [strsOf_map]
  simp only
  rw [if_pos hb]
theorem slc_str {z : Str} {lo hi : Option Int} (m : List SO) (h : z.length ≤ 16777216) : slcD lo hi (.str z) m = some (.str (cutS z lo hi), m) := if_pos h
end
end Mi
namespace Mi
open PySem PySem.Spec PyProof.Rows L2

/-! ### frames about a piece, the place, a step -/
def sdF : Fr → Nat
  | .caller _ g => g.dp
  | .given _ _ => 0
  | .adder _ g => g.dp
  | .added _ _ => 0
  | .picker _ f g => max f.dp g.dp
  | .round => 0
/-- how deep, from what stands at the place on -/
def hgt : Nat → List Fr → Nat
  | d, [] => d
  | d, f :: fs => hgt (max d (sdF f) + 1) fs
/-- how deep within one round at most -/
def msg : Nat → List Fr → Nat
  | d, [] => d
  | d, .round :: fs => max d (msg 1 fs)
  | d, f :: fs => msg (max d (sdF f) + 1) fs
theorem hgt_mono : ∀ {fs : List Fr} {d e : Nat}, d ≤ e → hgt d fs ≤ hgt e fs
  | [], d, e, h => h
  | f :: fs, d, e, h => hgt_mono (fs := fs) (by omega)
theorem hgt_ge : ∀ {fs : List Fr} {d : Nat}, d ≤ hgt d fs
  | [], d => Nat.le_refl _
  | f :: fs, d => Nat.le_trans (by omega) (hgt_ge (fs := fs))
theorem hgt_add : ∀ {fs : List Fr} {d e : Nat}, hgt (d + e) fs ≤ hgt d fs + e
  | [], d, e => Nat.le_refl _
  | f :: fs, d, e => by
    show hgt (max (d + e) (sdF f) + 1) fs ≤ hgt (max d (sdF f) + 1) fs + e
    exact Nat.le_trans (hgt_mono (by omega)) (hgt_add (fs := fs) (d := max d (sdF f) + 1) (e := e))
theorem msg_mono : ∀ {fs : List Fr} {d e : Nat}, d ≤ e → msg d fs ≤ msg e fs
  | [], d, e, h => h
  | .round :: fs, d, e, h => by simp only [msg]; omega
  | .caller _ _ :: fs, d, e, h => by simp only [msg]; exact msg_mono (by omega)
  | .given _ _ :: fs, d, e, h => by simp only [msg]; exact msg_mono (by omega)
  | .adder _ _ :: fs, d, e, h => by simp only [msg]; exact msg_mono (by omega)
  | .added _ _ :: fs, d, e, h => by simp only [msg]; exact msg_mono (by omega)
  | .picker _ _ _ :: fs, d, e, h => by simp only [msg]; exact msg_mono (by omega)
theorem msg_ge : ∀ {fs : List Fr} {d : Nat}, d ≤ msg d fs
  | [], d => Nat.le_refl _
  | .round :: fs, d => by simp only [msg]; omega
  | .caller _ _ :: fs, d => by simp only [msg]; exact Nat.le_trans (by omega) (msg_ge (fs := fs))
  | .given _ _ :: fs, d => by simp only [msg]; exact Nat.le_trans (by omega) (msg_ge (fs := fs))
  | .adder _ _ :: fs, d => by simp only [msg]; exact Nat.le_trans (by omega) (msg_ge (fs := fs))
  | .added _ _ :: fs, d => by simp only [msg]; exact Nat.le_trans (by omega) (msg_ge (fs := fs))
  | .picker _ _ _ :: fs, d => by simp only [msg]; exact Nat.le_trans (by omega) (msg_ge (fs := fs))
theorem msg_add : ∀ {fs : List Fr} {d e : Nat}, msg (d + e) fs ≤ msg d fs + e
  | [], d, e => Nat.le_refl _
  | .round :: fs, d, e => by simp only [msg]; omega
  | .caller _ _ :: fs, d, e => by simp only [msg]; exact Nat.le_trans (msg_mono (by omega)) (msg_add (fs := fs) (e := e))
  | .given _ _ :: fs, d, e => by simp only [msg]; exact Nat.le_trans (msg_mono (by omega)) (msg_add (fs := fs) (e := e))
  | .adder _ _ :: fs, d, e => by simp only [msg]; exact Nat.le_trans (msg_mono (by omega)) (msg_add (fs := fs) (e := e))
  | .added _ _ :: fs, d, e => by simp only [msg]; exact Nat.le_trans (msg_mono (by omega)) (msg_add (fs := fs) (e := e))
  | .picker _ _ _ :: fs, d, e => by simp only [msg]; exact Nat.le_trans (msg_mono (by omega)) (msg_add (fs := fs) (e := e))
theorem msg_le_hgt : ∀ {fs : List Fr} {d : Nat}, msg d fs ≤ hgt d fs
  | [], d => Nat.le_refl _
  | .round :: fs, d => by
    have h1 := msg_le_hgt (fs := fs) (d := 1)
    have h2 := hgt_mono (fs := fs) (d := 1) (e := max d (sdF .round) + 1) (by omega)
    have h3 := hgt_ge (fs := fs) (d := max d (sdF .round) + 1)
    simp only [msg, hgt]; omega
  | .caller _ _ :: fs, d => by simp only [msg, hgt]; exact msg_le_hgt
  | .given _ _ :: fs, d => by simp only [msg, hgt]; exact msg_le_hgt
  | .adder _ _ :: fs, d => by simp only [msg, hgt]; exact msg_le_hgt
  | .added _ _ :: fs, d => by simp only [msg, hgt]; exact msg_le_hgt
  | .picker _ _ _ :: fs, d => by simp only [msg, hgt]; exact msg_le_hgt
/-- behind a round, and in it -/
theorem msg_app : ∀ {ks fs : List Fr} {d : Nat}, msg d (ks ++ .round :: fs) ≤ max (hgt d ks) (msg 1 fs)
  | [], fs, d => Nat.le_refl _
  | .round :: ks, fs, d => by
    have h1 := msg_app (ks := ks) (fs := fs) (d := 1)
    have h2 := hgt_mono (fs := ks) (d := 1) (e := max d (sdF .round) + 1) (by omega)
    have h3 := hgt_ge (fs := ks) (d := max d (sdF .round) + 1)
    simp only [List.cons_append, msg, hgt]; omega
  | .caller _ _ :: ks, fs, d => by simp only [List.cons_append, msg, hgt]; exact msg_app
  | .given _ _ :: ks, fs, d => by simp only [List.cons_append, msg, hgt]; exact msg_app
  | .adder _ _ :: ks, fs, d => by simp only [List.cons_append, msg, hgt]; exact msg_app
  | .added _ _ :: ks, fs, d => by simp only [List.cons_append, msg, hgt]; exact msg_app
  | .picker _ _ _ :: ks, fs, d => by simp only [List.cons_append, msg, hgt]; exact msg_app
theorem hgt_app : ∀ {ks fs : List Fr} {d : Nat}, hgt d (ks ++ fs) = hgt (hgt d ks) fs
  | [], fs, d => rfl
  | k :: ks, fs, d => hgt_app (ks := ks)

mutual
/-- a running piece as these laws have them: S, how deep a kept's frames are; V, how deep values are -/
def gd (S V : Nat) : RP → List Str → Prop
  | .num _, _ => True
  | .name x, sc => PyData.strOk x = true ∧ x ∈ sc
  | .fun_ _ x b, sc => PyData.strOk x = true ∧ b.dp ≤ 28 ∧ gd S V b (x :: sc)
  | .take _ x b, sc => PyData.strOk x = true ∧ b.dp ≤ 28 ∧ gd S V b (x :: sc)
  | .call _ f g, sc => gd S V f sc ∧ gd S V g sc
  | .plus _ f g, sc => gd S V f sc ∧ gd S V g sc
  | .pick _ c f g, sc => gd S V c sc ∧ gd S V f sc ∧ gd S V g sc
  | .round b, sc => gd S V b sc
  | .shut _ x b, _ => PyData.strOk x = true ∧ b.dp ≤ 28 ∧ b.dep + 1 ≤ V ∧ gd S V b [x]
  | .kept _ fs, _ => RP.depFs fs + 2 ≤ V ∧ hgt 0 fs ≤ S ∧ gdFs S V fs
def gdF (S V : Nat) : Fr → Prop
  | .caller _ g => g.dp ≤ 28 ∧ gd S V g []
  | .given _ f => f.isVal = true ∧ gd S V f []
  | .adder _ g => g.dp ≤ 28 ∧ gd S V g []
  | .added _ f => f.isVal = true ∧ gd S V f []
  | .picker _ f g => f.dp ≤ 28 ∧ g.dp ≤ 28 ∧ gd S V f [] ∧ gd S V g []
  | .round => True
def gdFs (S V : Nat) : List Fr → Prop
  | [] => True
  | f :: fs => gdF S V f ∧ gdFs S V fs
end
mutual
theorem gd.mono {S V S' V' : Nat} (hS : S ≤ S') (hV : V ≤ V') : ∀ {p : RP} {sc sc' : List Str}, (∀ x ∈ sc, x ∈ sc') → gd S V p sc → gd S' V' p sc'
  | .num _, _, _, _, h => by simp [gd]
  | .name x, _, _, hs, h => by simp only [gd] at h ⊢; exact ⟨h.1, hs _ h.2⟩
  | .fun_ _ x b, sc, sc', hs, h => by
    simp only [gd] at h ⊢
    exact ⟨h.1, h.2.1, h.2.2.mono hS hV fun y hy => by rcases List.mem_cons.mp hy with rfl | hy <;> simp_all⟩
  | .take _ x b, sc, sc', hs, h => by
    simp only [gd] at h ⊢
    exact ⟨h.1, h.2.1, h.2.2.mono hS hV fun y hy => by rcases List.mem_cons.mp hy with rfl | hy <;> simp_all⟩
  | .call _ f g, _, _, hs, h => by simp only [gd] at h ⊢; exact ⟨h.1.mono hS hV hs, h.2.mono hS hV hs⟩
  | .plus _ f g, _, _, hs, h => by simp only [gd] at h ⊢; exact ⟨h.1.mono hS hV hs, h.2.mono hS hV hs⟩
  | .pick _ c f g, _, _, hs, h => by simp only [gd] at h ⊢; exact ⟨h.1.mono hS hV hs, h.2.1.mono hS hV hs, h.2.2.mono hS hV hs⟩
  | .round b, _, _, hs, h => by simp only [gd] at h ⊢; exact h.mono hS hV hs
  | .shut _ x b, _, _, hs, h => by simp only [gd] at h ⊢; exact ⟨h.1, h.2.1, by omega, h.2.2.2.mono hS hV fun _ z => z⟩
  | .kept _ fs, _, _, hs, h => by simp only [gd] at h ⊢; exact ⟨by omega, by omega, h.2.2.mono hS hV⟩
theorem gdF.mono {S V S' V' : Nat} (hS : S ≤ S') (hV : V ≤ V') : ∀ {f : Fr}, gdF S V f → gdF S' V' f
  | .caller _ g, h => by simp only [gdF] at h ⊢; exact ⟨h.1, h.2.mono hS hV fun _ z => z⟩
  | .given _ g, h => by simp only [gdF] at h ⊢; exact ⟨h.1, h.2.mono hS hV fun _ z => z⟩
  | .adder _ g, h => by simp only [gdF] at h ⊢; exact ⟨h.1, h.2.mono hS hV fun _ z => z⟩
  | .added _ g, h => by simp only [gdF] at h ⊢; exact ⟨h.1, h.2.mono hS hV fun _ z => z⟩
  | .picker _ f g, h => by simp only [gdF] at h ⊢; exact ⟨h.1, h.2.1, h.2.2.1.mono hS hV fun _ z => z, h.2.2.2.mono hS hV fun _ z => z⟩
  | .round, h => by simp [gdF]
theorem gdFs.mono {S V S' V' : Nat} (hS : S ≤ S') (hV : V ≤ V') : ∀ {fs : List Fr}, gdFs S V fs → gdFs S' V' fs
  | [], h => by simp [gdFs]
  | f :: fs, h => by simp only [gdFs] at h ⊢; exact ⟨h.1.mono hS hV, h.2.mono hS hV⟩
end
theorem gdFs_mem {S V : Nat} : ∀ {fs : List Fr}, gdFs S V fs ↔ ∀ f ∈ fs, gdF S V f
  | [] => by simp [gdFs]
  | f :: fs => by simp [gdFs, gdFs_mem (fs := fs)]
mutual
theorem gd.all {S V : Nat} : ∀ {p : RP} {sc : List Str}, gd S V p sc → p.all = true
  | .num _, _, h => rfl
  | .name x, _, h => by simp only [gd] at h; exact h.1
  | .fun_ _ x b, sc, h => by simp only [gd] at h; simp [RP.all, h.1, h.2.2.all]
  | .take _ x b, sc, h => by simp only [gd] at h; simp [RP.all, h.1, h.2.2.all]
  | .call _ f g, _, h => by simp only [gd] at h; simp [RP.all, h.1.all, h.2.all]
  | .plus _ f g, _, h => by simp only [gd] at h; simp [RP.all, h.1.all, h.2.all]
  | .pick _ c f g, _, h => by simp only [gd] at h; simp [RP.all, h.1.all, h.2.1.all, h.2.2.all]
  | .round b, _, h => by simp only [gd] at h; simp [RP.all, h.all]
  | .shut _ x b, _, h => by simp only [gd] at h; simp [RP.all, h.1, h.2.2.2.all]
  | .kept _ fs, _, h => by simp only [gd] at h; simp [RP.all, h.2.2.all]
theorem gdF.all {S V : Nat} : ∀ {f : Fr}, gdF S V f → RP.allF f = true
  | .caller _ g, h => by simp only [gdF] at h; simp [RP.allF, h.2.all]
  | .given _ g, h => by simp only [gdF] at h; simp [RP.allF, h.2.all]
  | .adder _ g, h => by simp only [gdF] at h; simp [RP.allF, h.2.all]
  | .added _ g, h => by simp only [gdF] at h; simp [RP.allF, h.2.all]
  | .picker _ f g, h => by simp only [gdF] at h; simp [RP.allF, h.2.2.1.all, h.2.2.2.all]
  | .round, h => rfl
theorem gdFs.all {S V : Nat} : ∀ {fs : List Fr}, gdFs S V fs → RP.allFs fs = true
  | [], h => rfl
  | f :: fs, h => by simp only [gdFs] at h; simp [RP.allFs, h.1.all, h.2.all]
end
/-- how deep in all -/
theorem gd.dep {S V : Nat} (hV : 1 ≤ V) : ∀ {p : RP} {sc : List Str}, gd S V p sc → p.dep ≤ p.dp + V
  | .num _, _, h => by simp [RP.dep]; omega
  | .name x, _, h => by simp [RP.dep]; omega
  | .fun_ _ x b, sc, h => by simp only [gd] at h; have := h.2.2.dep hV; simp [RP.dep, RP.dp]; omega
  | .take _ x b, sc, h => by simp only [gd] at h; have := h.2.2.dep hV; simp [RP.dep, RP.dp]; omega
  | .call _ f g, _, h => by simp only [gd] at h; have := h.1.dep hV; have := h.2.dep hV; simp [RP.dep, RP.dp]; omega
  | .plus _ f g, _, h => by simp only [gd] at h; have := h.1.dep hV; have := h.2.dep hV; simp [RP.dep, RP.dp]; omega
  | .pick _ c f g, _, h => by simp only [gd] at h; have := h.1.dep hV; have := h.2.1.dep hV; have := h.2.2.dep hV; simp [RP.dep, RP.dp]; omega
  | .round b, _, h => by simp only [gd] at h; have := h.dep hV; simp [RP.dep, RP.dp]; omega
  | .shut _ x b, _, h => by simp only [gd] at h; simp [RP.dep, RP.dp]; omega
  | .kept _ fs, _, h => by simp only [gd] at h; simp [RP.dep, RP.dp]; omega
theorem dp_val {v : RP} (h : v.isVal = true) : v.dp = 0 := by
  cases v <;> simp [RP.isVal] at h <;> rfl
theorem dp_put {x : Str} {v : RP} (h : v.isVal = true) (p : RP) : (RP.put x v p).dp ≤ p.dp := by
  have := RP.dp_put (x := x) (v := v) p
  have := dp_val h
  omega
theorem gd.val {S V : Nat} {v : RP} (h : v.isVal = true) {sc sc' : List Str} (g : gd S V v sc) : gd S V v sc' := by
  cases v <;> simp [RP.isVal] at h <;> simpa only [gd] using g
theorem gd.put {S V : Nat} {x : Str} {v : RP} (hv : v.isVal = true) (gv : gd S V v []) : ∀ {p : RP} {sc sc' : List Str}, (∀ y ∈ sc, y = x ∨ y ∈ sc') → gd S V p sc → gd S V (RP.put x v p) sc'
  | .num _, _, _, _, h => by simp [RP.put, gd]
  | .name y, _, _, hs, h => by
    simp only [gd] at h
    unfold RP.put
    split
    · exact gv.val hv
    · rename_i e
      simp only [gd]
      rcases hs _ h.2 with e2 | e2
      · exact absurd (beq_iff_eq.mpr e2) e
      · exact ⟨h.1, e2⟩
  | .fun_ a y b, sc, sc', hs, h => by
    simp only [gd] at h
    unfold RP.put
    split
    · rename_i e
      have e := eq_of_beq e
      subst e
      simp only [gd]
      exact ⟨h.1, h.2.1, h.2.2.mono (Nat.le_refl _) (Nat.le_refl _) fun z hz => by
        rcases List.mem_cons.mp hz with rfl | hz
        · simp
        · rcases hs z hz with rfl | hz <;> simp_all⟩
    · simp only [gd]
      exact ⟨h.1, Nat.le_trans (dp_put hv b) h.2.1, gd.put hv gv (fun z hz => by
        rcases List.mem_cons.mp hz with rfl | hz
        · simp
        · rcases hs z hz with rfl | hz <;> simp_all) h.2.2⟩
  | .take a y b, sc, sc', hs, h => by
    simp only [gd] at h
    unfold RP.put
    split
    · rename_i e
      have e := eq_of_beq e
      subst e
      simp only [gd]
      exact ⟨h.1, h.2.1, h.2.2.mono (Nat.le_refl _) (Nat.le_refl _) fun z hz => by
        rcases List.mem_cons.mp hz with rfl | hz
        · simp
        · rcases hs z hz with rfl | hz <;> simp_all⟩
    · simp only [gd]
      exact ⟨h.1, Nat.le_trans (dp_put hv b) h.2.1, gd.put hv gv (fun z hz => by
        rcases List.mem_cons.mp hz with rfl | hz
        · simp
        · rcases hs z hz with rfl | hz <;> simp_all) h.2.2⟩
  | .call _ f g, _, _, hs, h => by simp only [gd] at h; simp only [RP.put, gd]; exact ⟨gd.put hv gv hs h.1, gd.put hv gv hs h.2⟩
  | .plus _ f g, _, _, hs, h => by simp only [gd] at h; simp only [RP.put, gd]; exact ⟨gd.put hv gv hs h.1, gd.put hv gv hs h.2⟩
  | .pick _ c f g, _, _, hs, h => by simp only [gd] at h; simp only [RP.put, gd]; exact ⟨gd.put hv gv hs h.1, gd.put hv gv hs h.2.1, gd.put hv gv hs h.2.2⟩
  | .round b, _, _, hs, h => by simp only [gd] at h; simp only [RP.put, gd]; exact gd.put hv gv hs h
  | .shut _ y b, _, _, hs, h => by simp only [gd] at h; simp only [RP.put, gd]; exact h
  | .kept _ fs, _, _, hs, h => by simp only [gd] at h; simp only [RP.put, gd]; exact h

def fill : Fr → RP → RP
  | .caller a g, q => .call a q g
  | .given a f, q => .call a f q
  | .adder a g, q => .plus a q g
  | .added a f, q => .plus a f q
  | .picker a f g, q => .pick a q f g
  | .round, q => .round q
def plug (q : RP) (fs : List Fr) : RP := fs.foldl (fun q f => fill f q) q
@[simp] theorem plug_nil (q : RP) : plug q [] = q := rfl
@[simp] theorem plug_cons (q : RP) (f : Fr) (fs : List Fr) : plug q (f :: fs) = plug (fill f q) fs := rfl
theorem plug_app (q : RP) (fs gs : List Fr) : plug q (fs ++ gs) = plug (plug q fs) gs := List.foldl_append
/-- the part in which the place is, and the frame about it -/
def ent : RP → Option (RP × Fr)
  | .call a f g => if f.isVal then (if g.isVal then none else some (g, .given a f)) else some (f, .caller a g)
  | .plus a f g => if f.isVal then (if g.isVal then none else some (g, .added a f)) else some (f, .adder a g)
  | .pick a c f g => if c.isVal then none else some (c, .picker a f g)
  | .round b => if b.isVal then none else some (b, .round)
  | _ => none
/-- the place, and the frames about it, the nearest first -/
def dec : RP → List Fr → RP × List Fr
  | .call a f g, fs => if f.isVal then (if g.isVal then (.call a f g, fs) else dec g (.given a f :: fs)) else dec f (.caller a g :: fs)
  | .plus a f g, fs => if f.isVal then (if g.isVal then (.plus a f g, fs) else dec g (.added a f :: fs)) else dec f (.adder a g :: fs)
  | .pick a c f g, fs => if c.isVal then (.pick a c f g, fs) else dec c (.picker a f g :: fs)
  | .round b, fs => if b.isVal then (.round b, fs) else dec b (.round :: fs)
  | p, fs => (p, fs)
theorem ent_fill {p q : RP} {f : Fr} (h : ent p = some (q, f)) : fill f q = p ∧ q.isVal = false := by
  cases p with
  | call a x y =>
    simp only [ent] at h
    by_cases h1 : x.isVal = true
    · by_cases h2 : y.isVal = true
      · simp [h1, h2] at h
      · simp [h1, h2] at h; obtain ⟨rfl, rfl⟩ := h; exact ⟨rfl, by simpa using h2⟩
    · simp [h1] at h; obtain ⟨rfl, rfl⟩ := h; exact ⟨rfl, by simpa using h1⟩
  | plus a x y =>
    simp only [ent] at h
    by_cases h1 : x.isVal = true
    · by_cases h2 : y.isVal = true
      · simp [h1, h2] at h
      · simp [h1, h2] at h; obtain ⟨rfl, rfl⟩ := h; exact ⟨rfl, by simpa using h2⟩
    · simp [h1] at h; obtain ⟨rfl, rfl⟩ := h; exact ⟨rfl, by simpa using h1⟩
  | pick a c x y =>
    simp only [ent] at h
    by_cases h1 : c.isVal = true
    · simp [h1] at h
    · simp [h1] at h; obtain ⟨rfl, rfl⟩ := h; exact ⟨rfl, by simpa using h1⟩
  | round b =>
    simp only [ent] at h
    by_cases h1 : b.isVal = true
    · simp [h1] at h
    · simp [h1] at h; obtain ⟨rfl, rfl⟩ := h; exact ⟨rfl, by simpa using h1⟩
  | _ => simp [ent] at h
theorem dec_ent {p q : RP} {f : Fr} {fs : List Fr} (h : ent p = some (q, f)) : dec p fs = dec q (f :: fs) := by
  cases p with
  | call a x y =>
    simp only [ent] at h
    by_cases h1 : x.isVal = true
    · by_cases h2 : y.isVal = true
      · simp [h1, h2] at h
      · simp [h1, h2] at h; obtain ⟨rfl, rfl⟩ := h; simp [dec, h1, h2]
    · simp [h1] at h; obtain ⟨rfl, rfl⟩ := h; simp [dec, h1]
  | plus a x y =>
    simp only [ent] at h
    by_cases h1 : x.isVal = true
    · by_cases h2 : y.isVal = true
      · simp [h1, h2] at h
      · simp [h1, h2] at h; obtain ⟨rfl, rfl⟩ := h; simp [dec, h1, h2]
    · simp [h1] at h; obtain ⟨rfl, rfl⟩ := h; simp [dec, h1]
  | pick a c x y =>
    simp only [ent] at h
    by_cases h1 : c.isVal = true
    · simp [h1] at h
    · simp [h1] at h; obtain ⟨rfl, rfl⟩ := h; simp [dec, h1]
  | round b =>
    simp only [ent] at h
    by_cases h1 : b.isVal = true
    · simp [h1] at h
    · simp [h1] at h; obtain ⟨rfl, rfl⟩ := h; simp [dec, h1]
  | _ => simp [ent] at h
theorem dec_none {p : RP} {fs : List Fr} (h : ent p = none) : dec p fs = (p, fs) := by
  cases p with
  | call a x y =>
    simp only [ent] at h
    by_cases h1 : x.isVal = true
    · by_cases h2 : y.isVal = true
      · simp [dec, h1, h2]
      · simp [h1, h2] at h
    · simp [h1] at h
  | plus a x y =>
    simp only [ent] at h
    by_cases h1 : x.isVal = true
    · by_cases h2 : y.isVal = true
      · simp [dec, h1, h2]
      · simp [h1, h2] at h
    · simp [h1] at h
  | pick a c x y =>
    simp only [ent] at h
    by_cases h1 : c.isVal = true
    · simp [dec, h1]
    · simp [h1] at h
  | round b =>
    simp only [ent] at h
    by_cases h1 : b.isVal = true
    · simp [dec, h1]
    · simp [h1] at h
  | _ => simp [dec]
/-- smaller, along the way to the place -/
theorem ent_lt {p q : RP} {f : Fr} (h : ent p = some (q, f)) : q.dp < p.dp := by
  have := (ent_fill h).1
  subst this
  cases f <;> simp [fill, RP.dp] <;> omega
theorem dec_ind {P : RP → List Fr → RP × List Fr → Prop} (h0 : ∀ p fs, ent p = none → P p fs (p, fs)) (h1 : ∀ p fs q f r, ent p = some (q, f) → dec q (f :: fs) = r → P q (f :: fs) r → P p fs r) (p : RP) (fs : List Fr) : P p fs (dec p fs) := by
  induction hn : p.dp using Nat.strongRecOn generalizing p fs with
  | ind n ih =>
    cases he : ent p with
    | none => rw [dec_none he]; exact h0 p fs he
    | some r =>
      obtain ⟨q, f⟩ := r
      rw [dec_ent he]
      exact h1 p fs q f _ he rfl (ih q.dp (by rw [← hn]; exact ent_lt he) q (f :: fs) rfl)
theorem plug_dec (p : RP) (fs : List Fr) : plug (dec p fs).1 (dec p fs).2 = plug p fs :=
  dec_ind (P := fun p fs r => plug r.1 r.2 = plug p fs) (fun _ _ _ => rfl) (fun p fs q f r he _ ih => by rw [ih, plug_cons, (ent_fill he).1]) p fs
theorem dec_end (p : RP) (fs : List Fr) : ent (dec p fs).1 = none :=
  dec_ind (P := fun p fs r => ent r.1 = none) (fun _ _ h => h) (fun p fs q f r _ _ ih => ih) p fs
theorem dec_nval {p : RP} (fs : List Fr) (h : p.isVal = false) : (dec p fs).1.isVal = false := by
  revert h
  exact dec_ind (P := fun p fs r => p.isVal = false → r.1.isVal = false) (fun _ _ _ h => h) (fun p fs q f r he _ ih _ => ih (ent_fill he).2) p fs
theorem fill_dp (f : Fr) (q : RP) : q.dp ≤ (fill f q).dp := by
  cases f <;> simp [fill, RP.dp] <;> omega
theorem fill_hgt {f : Fr} {q : RP} (hv : ∀ a v, (f = .given a v ∨ f = .added a v) → v.dp = 0) : (fill f q).dp = max q.dp (sdF f) + 1 := by
  cases f with
  | given a v => have := hv a v (.inl rfl); simp [fill, RP.dp, sdF, this]
  | added a v => have := hv a v (.inr rfl); simp [fill, RP.dp, sdF, this]
  | _ => simp [fill, RP.dp, sdF]
end Mi
namespace Mi
open PySem PySem.Spec PyProof.Rows L2

def Fr.isRd : Fr → Bool
  | .round => true
  | _ => false
/-- the frames nearer than the nearest round, and the rest -/
def splitR : List Fr → Option (List Fr × List Fr)
  | [] => none
  | f :: fs => if f.isRd then some ([], f :: fs) else (splitR fs).map fun r => (f :: r.1, r.2)
inductive Ac where
  | go (q : RP) (fs : List Fr) | stuck (a : Int) | bad
/-- what a step makes of a place -/
def act : RP → List Fr → Ac
  | .fun_ a x b, fs => .go (.shut a x b) fs
  | .call a (.shut _ x b) g, fs => .go (RP.put x g b) fs
  | .call a (.kept _ ks) g, fs => .go g (ks ++ .round :: fs)
  | .call a _ _, _ => .stuck a
  | .plus a (.num i) (.num j), fs => .go (.num (i + j)) fs
  | .plus a _ _, _ => .stuck a
  | .pick a (.num i) f g, fs => .go (if i = 0 then f else g) fs
  | .pick a _ _ _, _ => .stuck a
  | .round b, fs => .go b fs
  | .take a x b, fs => match splitR fs with
    | some r => .go (RP.put x (.kept a r.1) b) r.2
    | none => .stuck a
  | _, _ => .bad
/-- the place, from what stands in the frames -/
def fnd (q : RP) (fs : List Fr) : RP × List Fr := match q.isVal, fs with
  | true, [] => (q, [])
  | true, f :: fs => dec (fill f q) fs
  | false, fs => dec q fs

/-- a frame of its form -/
def prF : Fr → Bool
  | .given _ f => f.isVal
  | .added _ f => f.isVal
  | _ => true
theorem gdF.pr {S V : Nat} {f : Fr} (h : gdF S V f) : prF f = true := by
  cases f <;> simp only [gdF] at h <;> first | rfl | exact h.1
theorem fill_nval (f : Fr) (q : RP) : (fill f q).isVal = false := by cases f <;> rfl
theorem ent_of {f : Fr} {q : RP} (hf : prF f = true) (hq : q.isVal = false) : ent (fill f q) = some (q, f) := by
  cases f with
  | given a v => have : v.isVal = true := hf; simp [fill, ent, this, hq]
  | added a v => have : v.isVal = true := hf; simp [fill, ent, this, hq]
  | _ => simp [fill, ent, hq]
theorem dec_plug : ∀ {fs : List Fr} {q : RP} {gs : List Fr}, (∀ f ∈ fs, prF f = true) → q.isVal = false → dec (plug q fs) gs = dec q (fs ++ gs)
  | [], q, gs, _, _ => rfl
  | f :: fs, q, gs, hf, hq => by
    rw [plug_cons, dec_plug (fs := fs) (fun g hg => hf g (by simp [hg])) (fill_nval f q), dec_ent (ent_of (hf f (by simp)) hq)]
    rfl
theorem plug_nval : ∀ {fs : List Fr} {q : RP}, fs ≠ [] → (plug q fs).isVal = false
  | [], _, h => absurd rfl h
  | [f], q, _ => fill_nval f q
  | f :: g :: fs, q, _ => plug_nval (fs := g :: fs) (by simp)
theorem plug_nval' : ∀ {fs : List Fr} {q : RP}, q.isVal = false → (plug q fs).isVal = false
  | [], _, h => h
  | f :: fs, q, _ => plug_nval (by simp)
/-- the place of the whole -/
theorem fnd_plug {q : RP} {fs : List Fr} (hf : ∀ f ∈ fs, prF f = true) : fnd q fs = fnd (plug q fs) [] := by
  unfold fnd
  cases hq : q.isVal with
  | true =>
    cases fs with
    | nil => simp [hq]
    | cons f fs =>
      have h1 := plug_nval (fs := f :: fs) (q := q) (by simp)
      rw [h1]
      simp only
      rw [plug_cons, dec_plug (fun g hg => hf g (by simp [hg])) (fill_nval f q)]
      simp
  | false =>
    have h1 := plug_nval' (fs := fs) hq
    rw [h1]
    simp only
    rw [dec_plug hf hq, List.append_nil]

theorem split_ok : ∀ {fs hd tl : List Fr}, splitR fs = some (hd, tl) → fs = hd ++ tl ∧ (∀ f ∈ hd, f.isRd = false) ∧ (∃ tl', tl = .round :: tl') ∧ ∀ d, hgt d hd ≤ msg d fs ∧ ∀ tl', tl = .round :: tl' → msg 1 tl' ≤ msg d fs
  | [], _, _, h => by cases h
  | f :: fs, hd, tl, h => by
    unfold splitR at h
    cases hr : f.isRd with
    | true =>
      cases f <;> simp [Fr.isRd] at hr
      simp [Fr.isRd] at h
      obtain ⟨rfl, rfl⟩ := h
      refine ⟨rfl, by simp, ⟨fs, rfl⟩, fun d => ⟨by simp only [hgt, msg]; omega, fun tl' e => by cases e; simp only [msg]; omega⟩⟩
    | false =>
      rw [hr] at h
      simp only [Bool.false_eq_true, if_false, Option.map_eq_some_iff] at h
      obtain ⟨r, h1, h2⟩ := h
      obtain ⟨r1, r2⟩ := r
      simp only [Prod.mk.injEq] at h2
      obtain ⟨rfl, rfl⟩ := h2
      obtain ⟨e1, e2, e3, e4⟩ := split_ok h1
      have em : ∀ d, msg d (f :: fs) = msg (max d (sdF f) + 1) fs := fun d => by cases f <;> simp [Fr.isRd] at hr <;> rfl
      refine ⟨by rw [e1]; rfl, fun g hg => ?_, e3, fun d => ?_⟩
      · rcases List.mem_cons.mp hg with rfl | hg
        · exact hr
        · exact e2 g hg
      · rw [em]
        exact ⟨(e4 _).1, (e4 _).2⟩
theorem split_none : ∀ {fs : List Fr}, splitR fs = none ↔ fs.any Fr.isRd = false
  | [] => by simp [splitR]
  | f :: fs => by
    unfold splitR
    cases hr : f.isRd with
    | true => simp [hr]
    | false => simp [hr, split_none (fs := fs)]

/-- what holds of a piece in its frames: T, how deep within a round; V, of values; E, in all -/
structure ZI (T V E : Nat) (q : RP) (fs : List Fr) : Prop where
  g : gd T V q []
  d : q.dp ≤ 29
  f : gdFs T V fs
  m : msg q.dp fs ≤ T
  e : hgt q.dp fs ≤ E
  v : 1 ≤ V
theorem ZI.ent {T V E : Nat} {q c : RP} {f : Fr} {fs : List Fr} (z : ZI T V E q fs) (h : ent q = some (c, f)) : ZI T V E c (f :: fs) := by
  obtain ⟨h1, h2⟩ := ent_fill h
  subst h1
  obtain ⟨g, d, F, m, e, v⟩ := z
  cases f with
  | caller a y =>
    simp only [fill, gd, RP.dp] at g d m e
    exact ⟨g.1, by omega, by simp only [gdFs, gdF]; exact ⟨⟨by omega, g.2⟩, F⟩, by simpa only [msg, sdF] using m, by simpa only [hgt, sdF] using e, v⟩
  | adder a y =>
    simp only [fill, gd, RP.dp] at g d m e
    exact ⟨g.1, by omega, by simp only [gdFs, gdF]; exact ⟨⟨by omega, g.2⟩, F⟩, by simpa only [msg, sdF] using m, by simpa only [hgt, sdF] using e, v⟩
  | picker a y w =>
    simp only [fill, gd, RP.dp] at g d m e
    exact ⟨g.1, by omega, by simp only [gdFs, gdF]; exact ⟨⟨by omega, by omega, g.2.1, g.2.2⟩, F⟩, by simpa only [msg, sdF] using m, by simpa only [hgt, sdF] using e, v⟩
  | round =>
    simp only [fill, gd, RP.dp] at g d m e
    have h1 := msg_ge (fs := fs) (d := c.dp + 1)
    have h3 := msg_mono (fs := fs) (d := 1) (e := c.dp + 1) (by omega)
    refine ⟨g, by omega, by simp only [gdFs, gdF]; exact ⟨trivial, F⟩, by simp only [msg]; omega, by simpa only [hgt, sdF, Nat.max_zero] using e, v⟩
  | given a y =>
    have hy : y.isVal = true := by
      by_cases hy : y.isVal = true
      · exact hy
      · simp [fill, Mi.ent, hy] at h
    have hd := dp_val hy
    simp only [fill, gd, RP.dp, hd, Nat.zero_max] at g d m e
    exact ⟨g.2, by omega, by simp only [gdFs, gdF]; exact ⟨⟨hy, g.1⟩, F⟩, by simpa only [msg, sdF, Nat.max_zero] using m, by simpa only [hgt, sdF, Nat.max_zero] using e, v⟩
  | added a y =>
    have hy : y.isVal = true := by
      by_cases hy : y.isVal = true
      · exact hy
      · simp [fill, Mi.ent, hy] at h
    have hd := dp_val hy
    simp only [fill, gd, RP.dp, hd, Nat.zero_max] at g d m e
    exact ⟨g.2, by omega, by simp only [gdFs, gdF]; exact ⟨⟨hy, g.1⟩, F⟩, by simpa only [msg, sdF, Nat.max_zero] using m, by simpa only [hgt, sdF, Nat.max_zero] using e, v⟩
theorem ZI.dec {T V E : Nat} (q : RP) (fs : List Fr) : ZI T V E q fs → ZI T V E (dec q fs).1 (dec q fs).2 :=
  dec_ind (P := fun q fs r => ZI T V E q fs → ZI T V E r.1 r.2) (fun _ _ _ z => z) (fun q fs c f r h _ ih z => ih (z.ent h)) q fs
theorem ZI.pop {T V E : Nat} {q : RP} {f : Fr} {fs : List Fr} (hq : q.isVal = true) (z : ZI T V E q (f :: fs)) : ZI T V E (fill f q) fs := by
  obtain ⟨g, d, F, m, e, v⟩ := z
  simp only [gdFs] at F
  obtain ⟨Ff, F⟩ := F
  have hd := dp_val hq
  cases f with
  | caller a y =>
    simp only [gdF] at Ff
    exact ⟨by simp only [fill, gd]; exact ⟨g, Ff.2⟩, by simp only [fill, RP.dp]; omega, F, by simpa only [fill, RP.dp, msg, sdF] using m, by simpa only [fill, RP.dp, hgt, sdF] using e, v⟩
  | adder a y =>
    simp only [gdF] at Ff
    exact ⟨by simp only [fill, gd]; exact ⟨g, Ff.2⟩, by simp only [fill, RP.dp]; omega, F, by simpa only [fill, RP.dp, msg, sdF] using m, by simpa only [fill, RP.dp, hgt, sdF] using e, v⟩
  | picker a y w =>
    simp only [gdF] at Ff
    exact ⟨by simp only [fill, gd]; exact ⟨g, Ff.2.2⟩, by simp only [fill, RP.dp]; omega, F, by simpa only [fill, RP.dp, msg, sdF] using m, by simpa only [fill, RP.dp, hgt, sdF] using e, v⟩
  | round =>
    simp only [msg] at m
    exact ⟨by simp only [fill, gd]; exact g, by simp only [fill, RP.dp]; omega, F, by simp only [fill, RP.dp, hd, Nat.zero_add]; omega, by simpa only [fill, RP.dp, hgt, sdF, Nat.max_zero] using e, v⟩
  | given a y =>
    simp only [gdF] at Ff
    have hy := dp_val Ff.1
    exact ⟨by simp only [fill, gd]; exact ⟨Ff.2, g⟩, by simp only [fill, RP.dp]; omega, F, by simpa only [fill, RP.dp, hy, hd, msg, sdF] using m, by simpa only [fill, RP.dp, hy, hd, hgt, sdF] using e, v⟩
  | added a y =>
    simp only [gdF] at Ff
    have hy := dp_val Ff.1
    exact ⟨by simp only [fill, gd]; exact ⟨Ff.2, g⟩, by simp only [fill, RP.dp]; omega, F, by simpa only [fill, RP.dp, hy, hd, msg, sdF] using m, by simpa only [fill, RP.dp, hy, hd, hgt, sdF] using e, v⟩
theorem ZI.fnd {T V E : Nat} {q : RP} {fs : List Fr} (z : ZI T V E q fs) : ZI T V E (fnd q fs).1 (fnd q fs).2 := by
  unfold Mi.fnd
  cases hq : q.isVal with
  | true =>
    cases fs with
    | nil => exact z
    | cons f fs => exact ZI.dec _ _ (z.pop hq)
  | false => exact ZI.dec _ _ z
theorem ZI.up {T V E T' V' E' : Nat} {q : RP} {fs : List Fr} (z : ZI T V E q fs) (h1 : T ≤ T') (h2 : V ≤ V') (h3 : E ≤ E') : ZI T' V' E' q fs :=
  ⟨z.g.mono h1 h2 fun _ h => h, z.d, z.f.mono h1 h2, Nat.le_trans z.m h1, Nat.le_trans z.e h3, by have := z.v; omega⟩
theorem plug_hgt {S V : Nat} : ∀ {fs : List Fr} {q : RP}, gdFs S V fs → (plug q fs).dp = hgt q.dp fs
  | [], q, _ => rfl
  | f :: fs, q, h => by
    simp only [gdFs] at h
    rw [plug_cons, plug_hgt h.2, fill_hgt]
    · rfl
    · intro a v e
      rcases e with rfl | rfl <;> (have := h.1; simp only [gdF] at this; exact dp_val this.1)
theorem plug_gd {S V : Nat} : ∀ {fs : List Fr} {q : RP}, gdFs S V fs → gd S V q [] → gd S V (plug q fs) []
  | [], q, _, g => g
  | f :: fs, q, h, g => by
    simp only [gdFs] at h
    rw [plug_cons]
    refine plug_gd h.2 ?_
    have hf := h.1
    cases f <;> simp only [gdF] at hf <;> simp only [fill, gd]
    · exact ⟨g, hf.2⟩
    · exact ⟨hf.2, g⟩
    · exact ⟨g, hf.2⟩
    · exact ⟨hf.2, g⟩
    · exact ⟨g, hf.2.2⟩
    · exact g
/-- the whole -/
theorem ZI.whole {T V E : Nat} {q : RP} {fs : List Fr} (z : ZI T V E q fs) : gd T V (plug q fs) [] ∧ (plug q fs).dep ≤ E + V := by
  have g := plug_gd z.f z.g
  refine ⟨g, ?_⟩
  have h1 := g.dep z.v
  rw [plug_hgt z.f] at h1
  have := z.e
  omega
theorem depFs_le {S V n : Nat} : ∀ {fs : List Fr}, 1 ≤ V → V + 29 ≤ n → gdFs S V fs → RP.depFs fs ≤ n
  | [], _, _, _ => by simp [RP.depFs]
  | f :: fs, hV, hn, h => by
    simp only [gdFs] at h
    have ih := depFs_le hV hn h.2
    have hf := h.1
    simp only [RP.depFs]
    have : RP.depF f ≤ n := by
      cases f <;> simp only [gdF] at hf <;> simp only [RP.depF]
      · have := hf.2.dep hV; omega
      · have := hf.2.dep hV; have := dp_val hf.1; omega
      · have := hf.2.dep hV; omega
      · have := hf.2.dep hV; have := dp_val hf.1; omega
      · have := hf.2.2.1.dep hV; have := hf.2.2.2.dep hV; omega
      · omega
    omega
theorem gdFs_app {S V : Nat} {a b : List Fr} (h : gdFs S V (a ++ b)) : gdFs S V a ∧ gdFs S V b := by
  rw [gdFs_mem] at h
  exact ⟨gdFs_mem.mpr fun f hf => h f (by simp [hf]), gdFs_mem.mpr fun f hf => h f (by simp [hf])⟩
/-- a step keeps it -/
theorem ZI.act {T V E : Nat} {pl q : RP} {fs fs' : List Fr} (z : ZI T V E pl fs) (he : Mi.ent pl = none) (h : act pl fs = .go q fs') :
    ∃ T' E', ((T' = T + 28 ∧ E' = E + 28) ∨ (T' = T ∧ E' = E + T)) ∧ ZI T' (V + 31) E' q fs' := by
  obtain ⟨g, d, F, m, e, v⟩ := z
  have zero : ∀ q : RP, gd T V q [] → q.dp ≤ pl.dp → fs' = fs → ZI T (V + 31) (E + T) q fs' := fun q hq hd hf => by
    subst hf
    exact ⟨hq.mono (Nat.le_refl _) (by omega) fun _ h => h, by omega, F.mono (Nat.le_refl _) (by omega), Nat.le_trans (msg_mono hd) m, Nat.le_trans (hgt_mono hd) (by omega), by omega⟩
  cases pl with
  | num i => simp [Mi.act] at h
  | name x => simp [Mi.act] at h
  | shut a x b => simp [Mi.act] at h
  | kept a ks => simp [Mi.act] at h
  | fun_ a x b =>
    simp only [Mi.act, Ac.go.injEq] at h
    obtain ⟨rfl, rfl⟩ := h
    simp only [gd] at g
    have := g.2.2.dep v
    have h0 : hgt (RP.shut a x b).dp fs ≤ hgt (RP.fun_ a x b).dp fs := hgt_mono (by simp [RP.dp])
    refine ⟨T, E + T, .inr ⟨rfl, rfl⟩, ⟨?_, by simp [RP.dp], F.mono (Nat.le_refl _) (by omega), Nat.le_trans (msg_mono (by simp [RP.dp])) m, by omega, by omega⟩⟩
    simp only [gd]
    exact ⟨g.1, g.2.1, by omega, g.2.2.mono (Nat.le_refl _) (by omega) fun _ h => h⟩
  | round b =>
    simp only [Mi.act, Ac.go.injEq] at h
    obtain ⟨rfl, rfl⟩ := h
    simp only [gd] at g
    exact ⟨T, E + T, .inr ⟨rfl, rfl⟩, zero _ g (by simp [RP.dp]) rfl⟩
  | plus a f y =>
    have : ∃ i j, f = .num i ∧ y = .num j := by
      cases f <;> cases y <;> simp [Mi.act] at h
      exact ⟨_, _, rfl, rfl⟩
    obtain ⟨i, j, rfl, rfl⟩ := this
    simp only [Mi.act, Ac.go.injEq] at h
    obtain ⟨rfl, rfl⟩ := h
    exact ⟨T, E + T, .inr ⟨rfl, rfl⟩, zero _ (by simp [gd]) (by simp [RP.dp]) rfl⟩
  | pick a c f y =>
    have : ∃ i, c = .num i := by
      cases c <;> simp [Mi.act] at h
      exact ⟨_, rfl⟩
    obtain ⟨i, rfl⟩ := this
    simp only [Mi.act, Ac.go.injEq] at h
    obtain ⟨rfl, rfl⟩ := h
    simp only [gd] at g
    refine ⟨T, E + T, .inr ⟨rfl, rfl⟩, ?_⟩
    split
    · exact zero _ g.2.1 (by simp [RP.dp]; omega) rfl
    · exact zero _ g.2.2 (by simp [RP.dp]; omega) rfl
  | call a f y =>
    simp only [gd] at g
    have hy : y.isVal = true := by
      simp only [Mi.ent] at he
      by_cases h1 : f.isVal = true
      · by_cases h2 : y.isVal = true
        · exact h2
        · simp [h1, h2] at he
      · simp [h1] at he
    have hyd := dp_val hy
    cases f with
    | shut b x c =>
      simp only [Mi.act, Ac.go.injEq] at h
      obtain ⟨rfl, rfl⟩ := h
      have gf := g.1
      simp only [gd] at gf
      have hd := dp_put (x := x) hy c
      have h1 : (RP.put x y c).dp ≤ (RP.call a (.shut b x c) y).dp + 27 := by simp only [RP.dp]; omega
      refine ⟨T + 28, E + 28, .inl ⟨rfl, rfl⟩, ⟨?_, by omega, F.mono (by omega) (by omega), ?_, ?_, by omega⟩⟩
      · exact (gd.put (sc' := []) hy g.2 (by simp) gf.2.2.2).mono (by omega) (by omega) fun _ h => h
      · have := msg_add (fs := fs) (d := (RP.call a (.shut b x c) y).dp) (e := 27)
        have := msg_mono (fs := fs) h1
        omega
      · have := hgt_add (fs := fs) (d := (RP.call a (.shut b x c) y).dp) (e := 27)
        have := hgt_mono (fs := fs) h1
        omega
    | kept b ks =>
      simp only [Mi.act, Ac.go.injEq] at h
      obtain ⟨rfl, rfl⟩ := h
      have gf := g.1
      simp only [gd] at gf
      have hp : (RP.call a (.kept b ks) y).dp = 1 := by simp only [RP.dp, hyd]; rfl
      rw [hp] at m e
      refine ⟨T, E + T, .inr ⟨rfl, rfl⟩, ⟨g.2.mono (Nat.le_refl _) (by omega) fun _ h => h, by omega, ?_, ?_, ?_, by omega⟩⟩
      · rw [gdFs_mem]
        intro f hf
        rcases List.mem_append.mp hf with hf | hf
        · exact (gdFs_mem.mp gf.2.2 f hf).mono (Nat.le_refl _) (by omega)
        · rcases List.mem_cons.mp hf with rfl | hf
          · simp [gdF]
          · exact (gdFs_mem.mp F f hf).mono (Nat.le_refl _) (by omega)
      · have := msg_app (ks := ks) (fs := fs) (d := y.dp)
        rw [hyd] at this ⊢
        omega
      · rw [hgt_app, hyd]
        have h1 : hgt (hgt 0 ks) (.round :: fs) = hgt (1 + hgt 0 ks) fs := by simp only [hgt, sdF]; congr 1; omega
        rw [h1]
        have := hgt_add (fs := fs) (d := 1) (e := hgt 0 ks)
        omega
    | _ => simp [Mi.act] at h
  | take a x b =>
    simp only [Mi.act] at h
    cases hs : splitR fs with
    | none => rw [hs] at h; cases h
    | some r =>
      obtain ⟨hd, tl⟩ := r
      rw [hs] at h
      simp only [Ac.go.injEq] at h
      obtain ⟨rfl, rfl⟩ := h
      obtain ⟨h1, h2, ⟨tl', h3⟩, h4⟩ := split_ok hs
      simp only [gd] at g
      have hk : (RP.kept a hd).isVal = true := rfl
      have hdp := dp_put (x := x) hk b
      have hb : (RP.put x (.kept a hd) b).dp ≤ (RP.take a x b).dp := by simp only [RP.dp]; omega
      have h5 := h4 (RP.take a x b).dp
      subst h1
      obtain ⟨F1, F2⟩ := gdFs_app F
      have hh : hgt 0 hd ≤ T := Nat.le_trans (hgt_mono (Nat.zero_le _)) (Nat.le_trans h5.1 m)
      have hV := depFs_le (n := V + 29) v (Nat.le_refl _) F1
      refine ⟨T, E + T, .inr ⟨rfl, rfl⟩, ⟨?_, by omega, F2.mono (Nat.le_refl _) (by omega), ?_, ?_, by omega⟩⟩
      · refine gd.put (sc := [x]) hk ?_ (by simp) (g.2.2.mono (Nat.le_refl _) (by omega : V ≤ V + 31) fun _ h => h)
        simp only [gd]
        exact ⟨by omega, hh, F1.mono (Nat.le_refl _) (by omega)⟩
      · have h6 := h5.2 _ h3
        have h7 := msg_ge (fs := hd ++ tl) (d := (RP.take a x b).dp)
        rw [h3]
        simp only [msg]
        omega
      · have h8 : hgt (RP.put x (.kept a hd) b).dp tl ≤ hgt (RP.take a x b).dp (hd ++ tl) := by
          rw [hgt_app]
          exact hgt_mono (Nat.le_trans hb hgt_ge)
        exact Nat.le_trans h8 (by omega)
end Mi
namespace Mi
open PySem PySem.Spec PyProof.Rows L2

/-! ### pieces as they are handed in -/
def mkOk (a : Int) : Prop := 0 ≤ a ∧ a ≤ 9999
def pc : RP → List Str → Prop
  | .num i, _ => -1000000000000 < i ∧ i < 1000000000000
  | .name x, sc => x ∈ sc
  | .fun_ a x b, sc => mkOk a ∧ Nm x ∧ pc b (x :: sc)
  | .take a x b, sc => mkOk a ∧ Nm x ∧ pc b (x :: sc)
  | .call a f g, sc => mkOk a ∧ pc f sc ∧ pc g sc
  | .plus a f g, sc => mkOk a ∧ pc f sc ∧ pc g sc
  | .pick a c f g, sc => mkOk a ∧ pc c sc ∧ pc f sc ∧ pc g sc
  | .round b, sc => pc b sc
  | .shut _ _ _, _ => False
  | .kept _ _, _ => False
def RP.knots : RP → Nat
  | .fun_ _ _ b => b.knots + 1
  | .take _ _ b => b.knots + 1
  | .call _ f g => f.knots + g.knots + 1
  | .plus _ f g => f.knots + g.knots + 1
  | .pick _ c f g => c.knots + f.knots + g.knots + 1
  | .round b => b.knots + 1
  | _ => 1
theorem nm_cons {y : Str} {sc : List Str} (hy : Nm y) (hs : ∀ x ∈ sc, Nm x) : ∀ z ∈ y :: sc, Nm z := fun z hz => by
  rcases List.mem_cons.mp hz with h | h
  · exact h ▸ hy
  · exact hs z h
theorem pc.dep : ∀ {p : RP} {sc : List Str}, pc p sc → p.dep = p.dp + 1
  | .num _, _, _ => rfl
  | .name _, _, _ => rfl
  | .fun_ _ x b, sc, h => by simp only [pc] at h; simp [RP.dep, RP.dp, h.2.2.dep]
  | .take _ x b, sc, h => by simp only [pc] at h; simp [RP.dep, RP.dp, h.2.2.dep]
  | .call _ f g, _, h => by simp only [pc] at h; simp [RP.dep, RP.dp, h.2.1.dep, h.2.2.dep]
  | .plus _ f g, _, h => by simp only [pc] at h; simp [RP.dep, RP.dp, h.2.1.dep, h.2.2.dep]
  | .pick _ c f g, _, h => by simp only [pc] at h; simp [RP.dep, RP.dp, h.2.1.dep, h.2.2.1.dep, h.2.2.2.dep]
  | .round b, _, h => by simp only [pc] at h; simp [RP.dep, RP.dp, h.dep]
  | .shut _ _ _, _, h => by simp only [pc] at h
  | .kept _ _, _, h => by simp only [pc] at h
theorem pc.gd : ∀ {p : RP} {sc : List Str}, (∀ x ∈ sc, Nm x) → p.dp ≤ 29 → pc p sc → gd 0 1 p sc
  | .num _, _, _, _, _ => by simp [Mi.gd]
  | .name x, _, hs, _, h => by simp only [pc] at h; simp only [Mi.gd]; exact ⟨(hs x h).sok, h⟩
  | .fun_ _ x b, sc, hs, hd, h => by
    simp only [pc] at h
    simp only [RP.dp] at hd
    simp only [Mi.gd]
    exact ⟨h.2.1.sok, by omega, h.2.2.gd (nm_cons h.2.1 hs) (by omega)⟩
  | .take _ x b, sc, hs, hd, h => by
    simp only [pc] at h
    simp only [RP.dp] at hd
    simp only [Mi.gd]
    exact ⟨h.2.1.sok, by omega, h.2.2.gd (nm_cons h.2.1 hs) (by omega)⟩
  | .call _ f g, _, hs, hd, h => by
    simp only [pc] at h
    simp only [RP.dp] at hd
    simp only [Mi.gd]
    exact ⟨h.2.1.gd hs (by omega), h.2.2.gd hs (by omega)⟩
  | .plus _ f g, _, hs, hd, h => by
    simp only [pc] at h
    simp only [RP.dp] at hd
    simp only [Mi.gd]
    exact ⟨h.2.1.gd hs (by omega), h.2.2.gd hs (by omega)⟩
  | .pick _ c f g, _, hs, hd, h => by
    simp only [pc] at h
    simp only [RP.dp] at hd
    simp only [Mi.gd]
    exact ⟨h.2.1.gd hs (by omega), h.2.2.1.gd hs (by omega), h.2.2.2.gd hs (by omega)⟩
  | .round b, _, hs, hd, h => by
    simp only [pc] at h
    simp only [RP.dp] at hd
    simp only [Mi.gd]
    exact h.gd hs (by omega)
  | .shut _ _ _, _, _, _, h => by simp only [pc] at h
  | .kept _ _, _, _, _, h => by simp only [pc] at h
/-- what is left of the drawing -/
def cc (t : Int) : Int := if t < 22 then 22 - t else 0
theorem cc_anti {t u : Int} (h : t ≤ u) : cc u ≤ cc t := by unfold cc; split <;> split <;> omega
theorem cc_step {t : Int} (h : t ≤ 21) : cc t = cc (t + 1) + 1 := by unfold cc; split <;> split <;> omega
theorem cc_nn {t : Int} : 0 ≤ cc t := by unfold cc; split <;> omega
theorem cc_two : cc 2 = 20 := rfl
end Mi
namespace K13
open PySem PySem.Spec PyProof.Rows L2 Mi
variable {m : List SO} {k : Nat}

set_option maxHeartbeats 4000000 in
theorem run_put {x : Str} (hx : PyData.strOk x = true) (v : RP) : ∀ (p : RP) {k : Nat} {m : List SO}, p.sok = true → p.dp ≤ k → run tb (k + 1) "put_in" [enc p, .str x, enc v] m = some (enc (RP.put x v p), m)
  | .num i, k, m, hs, hd => by
    rw [run_at tb_put_in k rfl]
    simp [fn_put_in, ex, ev, dst, den, denB, M.bnd, M.ret, M.no, idxD, seqOf, atI, ixN, cmpM, cmpD, cmpI, newT, newL, flatD, inD, eqF, fini, gc_same, gc_app, truthM, truth, Mi.isNon, bltD, methD, itemsD, tgt, setsR, wipeR, slcD, cut, HT.sIx, ptO, binD, Mi.binI, Still, forL, compL, isiD, sizeLine, getL_app0, enc, eqD_str, RP.put]
  | .shut a y b, k, m, hs, hd => by
    rw [run_at tb_put_in k rfl]
    simp [fn_put_in, ex, ev, dst, den, denB, M.bnd, M.ret, M.no, idxD, seqOf, atI, ixN, cmpM, cmpD, cmpI, newT, newL, flatD, inD, eqF, fini, gc_same, gc_app, truthM, truth, Mi.isNon, bltD, methD, itemsD, tgt, setsR, wipeR, slcD, cut, HT.sIx, ptO, binD, Mi.binI, Still, forL, compL, isiD, sizeLine, getL_app0, enc, eqD_str, RP.put, lt_enc]
  | .kept a fs, k, m, hs, hd => by
    rw [run_at tb_put_in k rfl]
    simp [fn_put_in, ex, ev, dst, den, denB, M.bnd, M.ret, M.no, idxD, seqOf, atI, ixN, cmpM, cmpD, cmpI, newT, newL, flatD, inD, eqF, fini, gc_same, gc_app, truthM, truth, Mi.isNon, bltD, methD, itemsD, tgt, setsR, wipeR, slcD, cut, HT.sIx, ptO, binD, Mi.binI, Still, forL, compL, isiD, sizeLine, getL_app0, enc, eqD_str, RP.put, lt_encFs]
  | .name y, k, m, hs, hd => by
    have hy : PyData.strOk y = true := hs
    rw [run_at tb_put_in k rfl]
    by_cases e : (y == x) = true
    · simp [fn_put_in, ex, ev, dst, den, denB, M.bnd, M.ret, M.no, idxD, seqOf, atI, ixN, cmpM, cmpD, cmpI, newT, newL, flatD, inD, eqF, fini, gc_same, gc_app, truthM, truth, Mi.isNon, bltD, methD, itemsD, tgt, setsR, wipeR, slcD, cut, HT.sIx, ptO, binD, Mi.binI, Still, forL, compL, isiD, sizeLine, getL_app0, enc, eqD_str, RP.put, hx, hy, e, lt_enc]
    · simp [fn_put_in, ex, ev, dst, den, denB, M.bnd, M.ret, M.no, idxD, seqOf, atI, ixN, cmpM, cmpD, cmpI, newT, newL, flatD, inD, eqF, fini, gc_same, gc_app, truthM, truth, Mi.isNon, bltD, methD, itemsD, tgt, setsR, wipeR, slcD, cut, HT.sIx, ptO, binD, Mi.binI, Still, forL, compL, isiD, sizeLine, getL_app0, enc, eqD_str, RP.put, hx, hy, e]
  | .fun_ a y b, k, m, hs, hd => by
    have hs' : PyData.strOk y = true ∧ b.sok = true := by simpa [RP.sok] using hs
    rw [run_at tb_put_in k rfl]
    cases k with
    | zero => simp [RP.dp] at hd
    | succ k =>
      have ih : ∀ m, run tb (k + 1) "put_in" [enc b, .str x, enc v] m = some (enc (RP.put x v b), m) := fun m => run_put hx v b hs'.2 (by simpa [RP.dp] using hd)
      by_cases e : (y == x) = true
      · simp [fn_put_in, ex, ev, dst, den, denB, M.bnd, M.ret, M.no, idxD, seqOf, atI, ixN, cmpM, cmpD, cmpI, newT, newL, flatD, inD, eqF, fini, gc_same, gc_app, truthM, truth, Mi.isNon, bltD, methD, itemsD, tgt, setsR, wipeR, slcD, cut, HT.sIx, ptO, binD, Mi.binI, Still, forL, compL, isiD, sizeLine, getL_app0, enc, eqD_str, RP.put, hx, hs'.1, e, lt_enc]
      · simp [fn_put_in, ex, ev, dst, den, denB, M.bnd, M.ret, M.no, idxD, seqOf, atI, ixN, cmpM, cmpD, cmpI, newT, newL, flatD, inD, eqF, fini, gc_same, gc_app, truthM, truth, Mi.isNon, bltD, methD, itemsD, tgt, setsR, wipeR, slcD, cut, HT.sIx, ptO, binD, Mi.binI, Still, forL, compL, isiD, sizeLine, getL_app0, enc, eqD_str, RP.put, hx, hs'.1, e, lt_enc, ih]
  | .take a y b, k, m, hs, hd => by
    have hs' : PyData.strOk y = true ∧ b.sok = true := by simpa [RP.sok] using hs
    rw [run_at tb_put_in k rfl]
    cases k with
    | zero => simp [RP.dp] at hd
    | succ k =>
      have ih : ∀ m, run tb (k + 1) "put_in" [enc b, .str x, enc v] m = some (enc (RP.put x v b), m) := fun m => run_put hx v b hs'.2 (by simpa [RP.dp] using hd)
      by_cases e : (y == x) = true
      · simp [fn_put_in, ex, ev, dst, den, denB, M.bnd, M.ret, M.no, idxD, seqOf, atI, ixN, cmpM, cmpD, cmpI, newT, newL, flatD, inD, eqF, fini, gc_same, gc_app, truthM, truth, Mi.isNon, bltD, methD, itemsD, tgt, setsR, wipeR, slcD, cut, HT.sIx, ptO, binD, Mi.binI, Still, forL, compL, isiD, sizeLine, getL_app0, enc, eqD_str, RP.put, hx, hs'.1, e, lt_enc]
      · simp [fn_put_in, ex, ev, dst, den, denB, M.bnd, M.ret, M.no, idxD, seqOf, atI, ixN, cmpM, cmpD, cmpI, newT, newL, flatD, inD, eqF, fini, gc_same, gc_app, truthM, truth, Mi.isNon, bltD, methD, itemsD, tgt, setsR, wipeR, slcD, cut, HT.sIx, ptO, binD, Mi.binI, Still, forL, compL, isiD, sizeLine, getL_app0, enc, eqD_str, RP.put, hx, hs'.1, e, lt_enc, ih]
  | .call a f g, k, m, hs, hd => by
    have hs' : f.sok = true ∧ g.sok = true := by simpa [RP.sok] using hs
    rw [run_at tb_put_in k rfl]
    cases k with
    | zero => simp [RP.dp] at hd
    | succ k =>
      have hd' : max f.dp g.dp ≤ k := by simpa [RP.dp] using hd
      have i1 : ∀ m, run tb (k + 1) "put_in" [enc f, .str x, enc v] m = some (enc (RP.put x v f), m) := fun m => run_put hx v f hs'.1 (by omega)
      have i2 : ∀ m, run tb (k + 1) "put_in" [enc g, .str x, enc v] m = some (enc (RP.put x v g), m) := fun m => run_put hx v g hs'.2 (by omega)
      simp [fn_put_in, ex, ev, dst, den, denB, M.bnd, M.ret, M.no, idxD, seqOf, atI, ixN, cmpM, cmpD, cmpI, newT, newL, flatD, inD, eqF, fini, gc_same, gc_app, truthM, truth, Mi.isNon, bltD, methD, itemsD, tgt, setsR, wipeR, slcD, cut, HT.sIx, ptO, binD, Mi.binI, Still, forL, compL, isiD, sizeLine, getL_app0, enc, eqD_str, RP.put, lt_enc, i1, i2]
  | .plus a f g, k, m, hs, hd => by
    have hs' : f.sok = true ∧ g.sok = true := by simpa [RP.sok] using hs
    rw [run_at tb_put_in k rfl]
    cases k with
    | zero => simp [RP.dp] at hd
    | succ k =>
      have hd' : max f.dp g.dp ≤ k := by simpa [RP.dp] using hd
      have i1 : ∀ m, run tb (k + 1) "put_in" [enc f, .str x, enc v] m = some (enc (RP.put x v f), m) := fun m => run_put hx v f hs'.1 (by omega)
      have i2 : ∀ m, run tb (k + 1) "put_in" [enc g, .str x, enc v] m = some (enc (RP.put x v g), m) := fun m => run_put hx v g hs'.2 (by omega)
      simp [fn_put_in, ex, ev, dst, den, denB, M.bnd, M.ret, M.no, idxD, seqOf, atI, ixN, cmpM, cmpD, cmpI, newT, newL, flatD, inD, eqF, fini, gc_same, gc_app, truthM, truth, Mi.isNon, bltD, methD, itemsD, tgt, setsR, wipeR, slcD, cut, HT.sIx, ptO, binD, Mi.binI, Still, forL, compL, isiD, sizeLine, getL_app0, enc, eqD_str, RP.put, lt_enc, i1, i2]
  | .pick a c f g, k, m, hs, hd => by
    have hs' : (c.sok = true ∧ f.sok = true) ∧ g.sok = true := by simpa [RP.sok] using hs
    rw [run_at tb_put_in k rfl]
    cases k with
    | zero => simp [RP.dp] at hd
    | succ k =>
      have hd' : max c.dp (max f.dp g.dp) ≤ k := by simpa [RP.dp] using hd
      have i0 : ∀ m, run tb (k + 1) "put_in" [enc c, .str x, enc v] m = some (enc (RP.put x v c), m) := fun m => run_put hx v c hs'.1.1 (by omega)
      have i1 : ∀ m, run tb (k + 1) "put_in" [enc f, .str x, enc v] m = some (enc (RP.put x v f), m) := fun m => run_put hx v f hs'.1.2 (by omega)
      have i2 : ∀ m, run tb (k + 1) "put_in" [enc g, .str x, enc v] m = some (enc (RP.put x v g), m) := fun m => run_put hx v g hs'.2 (by omega)
      simp [fn_put_in, ex, ev, dst, den, denB, M.bnd, M.ret, M.no, idxD, seqOf, atI, ixN, cmpM, cmpD, cmpI, newT, newL, flatD, inD, eqF, fini, gc_same, gc_app, truthM, truth, Mi.isNon, bltD, methD, itemsD, tgt, setsR, wipeR, slcD, cut, HT.sIx, ptO, binD, Mi.binI, Still, forL, compL, isiD, sizeLine, getL_app0, enc, eqD_str, RP.put, lt_enc, i0, i1, i2]
  | .round b, k, m, hs, hd => by
    rw [run_at tb_put_in k rfl]
    cases k with
    | zero => simp [RP.dp] at hd
    | succ k =>
      have ih : ∀ m, run tb (k + 1) "put_in" [enc b, .str x, enc v] m = some (enc (RP.put x v b), m) := fun m => run_put hx v b (by simpa [RP.sok] using hs) (by simpa [RP.dp] using hd)
      simp [fn_put_in, ex, ev, dst, den, denB, M.bnd, M.ret, M.no, idxD, seqOf, atI, ixN, cmpM, cmpD, cmpI, newT, newL, flatD, inD, eqF, fini, gc_same, gc_app, truthM, truth, Mi.isNon, bltD, methD, itemsD, tgt, setsR, wipeR, slcD, cut, HT.sIx, ptO, binD, Mi.binI, Still, forL, compL, isiD, sizeLine, getL_app0, enc, eqD_str, RP.put, lt_enc, ih]
end K13
namespace K13
open PySem PySem.Spec PyProof.Rows L2 Mi
variable {m : List SO} {k : Nat}

def mixed (i : Int) : Int := let a := (i * 48271 + 7919) % 2147483647; (a * a + a / 7) % 2147483647
theorem mixed_lo (i : Int) : 0 ≤ mixed i := Int.emod_nonneg _ (by decide)
theorem mixed_hi (i : Int) : mixed i < 2147483647 := Int.emod_lt_of_pos _ (by decide)
theorem run_mixed (i : Int) : run tb (k + 1) "_law_mixed" [.int i] m = some (.int (mixed i), m) := by
  rw [run_at tb__law_mixed k rfl]
  have h0 : 0 ≤ (i * 48271 + 7919) % 2147483647 := Int.emod_nonneg _ (by decide)
  have h1 : (i * 48271 + 7919) % 2147483647 < 2147483647 := Int.emod_lt_of_pos _ (by decide)
  have h2 : -(2 ^ 64) < (i * 48271 + 7919) % 2147483647 ∧ (i * 48271 + 7919) % 2147483647 < 2 ^ 64 := by omega
  simp [fn__law_mixed, ex, ev, dst, den, denB, M.bnd, M.ret, M.no, seqOf, cmpM, cmpD, cmpI, newT, newL, flatD, inD, eqF, fini, truthM, truth, Mi.isNon, bltD, tgt, setsR, wipeR, ptO, isiD, sizeLine, getL_app0, mixed, bin_mul_l _ h2, gc_same]
def cell (ns : List Int) (j : Int) : Int := if j < ns.length then ns[j.toNat]?.getD 0 else 0
theorem run_cell {ns : List Int} (hn : ns.length ≤ 63) {j : Int} (hj : 0 ≤ j) : run tb (k + 1) "_law_cell_at" [.fz (ns.map .int), .int j] m = some (.int (cell ns j), m) := by
  rw [run_at tb__law_cell_at k rfl]
  by_cases h : j < ns.length
  · have hj' : j.toNat < ns.length := by omega
    simp [fn__law_cell_at, ex, ev, dst, den, denB, M.bnd, M.ret, M.no, idxD, seqOf, atI, ixN, cmpM, cmpD, cmpI, newT, newL, flatD, inD, eqF, fini, gc_same, gc_app, truthM, truth, Mi.isNon, bltD, methD, itemsD, tgt, setsR, wipeR, slcD, cut, HT.sIx, ptO, binD, Mi.binI, Still, forL, compL, isiD, sizeLine, getL_app0, cell, h, hj, List.getElem?_eq_getElem hj']
  · simp [fn__law_cell_at, ex, ev, dst, den, denB, M.bnd, M.ret, M.no, idxD, seqOf, atI, ixN, cmpM, cmpD, cmpI, newT, newL, flatD, inD, eqF, fini, gc_same, gc_app, truthM, truth, Mi.isNon, bltD, methD, itemsD, tgt, setsR, wipeR, slcD, cut, HT.sIx, ptO, binD, Mi.binI, Still, forL, compL, isiD, sizeLine, getL_app0, cell, h]
end K13
namespace K13
open PySem PySem.Spec PyProof.Rows L2 Mi

def sq1 : Sm → Sm
  | .seq a _ => a
  | s => s
def sq2 : Sm → Sm
  | .seq _ b => b
  | s => s
theorem idx_loc {m : List SO} {c : Nat} {xs : List D} {i : Int} (h : getL m c = some xs) (h0 : 0 ≤ i) {d : D} (hd : xs[i.toNat]? = some d) : idxD (.loc c) (.int i) m = some (d, m) := by
  have hl : i.toNat < xs.length := by
    rcases Nat.lt_or_ge i.toNat xs.length with h1 | h1
    · exact h1
    · rw [List.getElem?_eq_none h1] at hd; cases hd
  unfold idxD
  simp only [seqOf, h]
  have e : atI xs i = some d := by
    unfold atI ixN
    rw [if_pos h0, if_pos (by omega)]
    exact hd
  rw [e]
end K13
namespace K13
open PySem PySem.Spec PyProof.Rows L2 Mi

theorem idx_n0 (m l : List SO) (a : D) (xs : List D) : idxD (.loc m.length) (.int 0) (m ++ .lst (a :: xs) :: l) = some (a, m ++ .lst (a :: xs) :: l) := idx_loc (xs := a :: xs) (by simp) (by decide) rfl
theorem idx_n1 (m l : List SO) (a b : D) (xs : List D) : idxD (.loc m.length) (.int 1) (m ++ .lst (a :: b :: xs) :: l) = some (b, m ++ .lst (a :: b :: xs) :: l) := idx_loc (xs := a :: b :: xs) (by simp) (by decide) rfl
theorem idx_tup {xs : List D} {i : Int} (m : List SO) (h0 : 0 ≤ i) {d : D} (hd : xs[i.toNat]? = some d) : idxD (.tup xs) (.int i) m = some (d, m) := by
  have hl : i.toNat < xs.length := by
    rcases Nat.lt_or_ge i.toNat xs.length with h1 | h1
    · exact h1
    · rw [List.getElem?_eq_none h1] at hd; cases hd
  unfold idxD
  simp only [seqOf]
  have e : atI xs i = some d := by
    unfold atI ixN
    rw [if_pos h0, if_pos (by omega)]
    exact hd
  rw [e]
theorem idx_t0 (m : List SO) (a : D) (xs : List D) : idxD (.tup (a :: xs)) (.int 0) m = some (a, m) := idx_tup m (by decide) rfl
theorem idx_t1 (m : List SO) (a b : D) (xs : List D) : idxD (.tup (a :: b :: xs)) (.int 1) m = some (b, m) := idx_tup m (by decide) rfl
theorem idx_t2 (m : List SO) (a b c : D) (xs : List D) : idxD (.tup (a :: b :: c :: xs)) (.int 2) m = some (c, m) := idx_tup m (by decide) rfl
theorem idx_t3 (m : List SO) (a b c d : D) (xs : List D) : idxD (.tup (a :: b :: c :: d :: xs)) (.int 3) m = some (d, m) := idx_tup m (by decide) rfl
theorem slc_t2 (m : List SO) (a b : D) (xs : List D) : slcD (some 2) none (.tup (a :: b :: xs)) m = some (.tup xs, m) := by
  show some (D.tup (cut (a :: b :: xs) (some 2) none), m) = _
  have e : cut (a :: b :: xs) (some 2) none = xs := by
    unfold cut
    have h : HT.sIx (a :: b :: xs).length 0 (some 2) = 2 := by
      have := HT.sIx_nat (a :: b :: xs).length 0 2
      rw [show ((2 : Nat) : Int) = 2 from rfl] at this
      rw [this]; simp
    rw [h, HT.sIx_none]
    simp
  rw [e]
theorem itemsT (m : List SO) (ys : List D) : itemsD .one [.tup ys] m = some ((ys, none), m) := rfl
end K13
namespace Mi
open PySem PySem.Spec PyProof.Rows L2

/-! ### words at the front -/
def wordP : RP → String
  | .num _ => "num" | .name _ => "name" | .fun_ _ _ _ => "fun" | .call _ _ _ => "call" | .plus _ _ _ => "plus" | .pick _ _ _ _ => "pick"
  | .round _ => "round" | .take _ _ _ => "take" | .shut _ _ _ => "shut" | .kept _ _ => "kept"
def tagP (p : RP) : Str := Str.ofString (wordP p)
def wordF : Fr → String
  | .caller _ _ => "caller" | .given _ _ => "given" | .adder _ _ => "adder" | .added _ _ => "added" | .picker _ _ _ => "picker" | .round => "round"
def tagF (f : Fr) : Str := Str.ofString (wordF f)
theorem enc_tag (p : RP) : ∃ xs, enc p = .tup (.str (tagP p) :: xs) := by cases p <;> exact ⟨_, by rw [enc]; rfl⟩
theorem encF_tag (f : Fr) : ∃ xs, encF f = .tup (.str (tagF f) :: xs) := by cases f <;> exact ⟨_, by rw [encF]; rfl⟩
theorem idx_hd (m : List SO) (a : D) (xs : List D) : idxD (.tup (a :: xs)) (.int 0) m = some (a, m) := by
  unfold idxD
  simp [seqOf, atI, ixN]
@[simp] theorem idx_tag (p : RP) (m : List SO) : idxD (enc p) (.int 0) m = some (.str (tagP p), m) := by
  obtain ⟨xs, e⟩ := enc_tag p
  rw [e, idx_hd]
@[simp] theorem idx_tagF (f : Fr) (m : List SO) : idxD (encF f) (.int 0) m = some (.str (tagF f), m) := by
  obtain ⟨xs, e⟩ := encF_tag f
  rw [e, idx_hd]
theorem cmp_vals (k : Nat) (p : RP) (m : List SO) : cmpM k .in_ (.str (tagP p)) (.tup [.str "num", .str "shut", .str "kept"]) m = some (p.isVal, m) := by
  cases p <;> simp [cmpM, cmpD, seqOf, flatD, inD, eqF, tagP, wordP, RP.isVal]
theorem cmp_nvals (k : Nat) (p : RP) (m : List SO) : cmpM k .notIn (.str (tagP p)) (.tup [.str "num", .str "shut", .str "kept"]) m = some (!p.isVal, m) := by
  cases p <;> simp [cmpM, cmpD, seqOf, flatD, inD, eqF, tagP, wordP, RP.isVal]
theorem cmp_eqs (k : Nat) (a b : String) (m : List SO) : cmpM k .eq (.str (Str.ofString a)) (.str (Str.ofString b)) m = some (a == b, m) := by
  simp [cmpM, cmpD, eqD_str]
theorem cmp_nes (k : Nat) (a b : String) (m : List SO) : cmpM k .ne (.str (Str.ofString a)) (.str (Str.ofString b)) m = some (a != b, m) := by
  simp [cmpM, cmpD, eqD_str, bne]
theorem cmp_tag (k : Nat) (p : RP) (b : String) (m : List SO) : cmpM k .eq (.str (tagP p)) (.str (Str.ofString b)) m = some (wordP p == b, m) := cmp_eqs k _ b m
theorem cmp_tagN (k : Nat) (p : RP) (b : String) (m : List SO) : cmpM k .ne (.str (tagP p)) (.str (Str.ofString b)) m = some (wordP p != b, m) := cmp_nes k _ b m
theorem cmp_tagF (k : Nat) (p : Fr) (b : String) (m : List SO) : cmpM k .eq (.str (tagF p)) (.str (Str.ofString b)) m = some (wordF p == b, m) := cmp_eqs k _ b m
theorem cmp_tagFN (k : Nat) (p : Fr) (b : String) (m : List SO) : cmpM k .ne (.str (tagF p)) (.str (Str.ofString b)) m = some (wordF p != b, m) := cmp_nes k _ b m
theorem cmp_ints (k : Nat) (a b : Int) (m : List SO) : cmpM k .eq (.int a) (.int b) m = some (a == b, m) := by
  simp [cmpM, cmpD, eqD_int]
theorem cmp_isN (k : Nat) (a : D) (m : List SO) : cmpM k .isN a .non m = some (Mi.isNon a, m) := by
  simp [cmpM, cmpD, Mi.isNon]
theorem cmp_notN (k : Nat) (a : D) (m : List SO) : cmpM k .notN a .non m = some (!Mi.isNon a, m) := by
  simp [cmpM, cmpD, Mi.isNon]
theorem non_enc (p : RP) : Mi.isNon (enc p) = false := by
  obtain ⟨xs, e⟩ := enc_tag p
  rw [e]; rfl
/-- the part and the frame, or None -/
def encEnt : Option (RP × Fr) → D
  | none => .non
  | some r => .tup [enc r.1, encF r.2]
theorem lt_encEnt (n : Nat) (r : Option (RP × Fr)) : ltD n (encEnt r) = true := by
  cases r with
  | none => rfl
  | some r => simp [encEnt, lt_enc, lt_encF]
theorem encFs_app (a b : List Fr) : encFs (a ++ b) = encFs a ++ encFs b := by simp [encFs_map]
theorem encFs_len (a : List Fr) : (encFs a).length = a.length := by simp [encFs_map]
theorem encFs_rev (a : List Fr) : encFs a.reverse = (encFs a).reverse := by simp [encFs_map]
theorem encFs_one (f : Fr) : encFs [f] = [encF f] := by simp [encFs]
theorem encFs_snoc (f : Fr) (fs : List Fr) : encFs (f :: fs).reverse = encFs fs.reverse ++ [encF f] := by
  rw [List.reverse_cons, encFs_app, encFs_one]
theorem meth_app {m : List SO} {n : Nat} {xs : List D} (h : getL m n = some xs) (hl : xs.length < sizeLine) (y : D) : methD .append (.loc n) [y] m = some (.non, m.set n (.lst (xs ++ [y]))) := by
  unfold methD
  simp only [h]
  rw [if_pos hl]
theorem meth_pop {m : List SO} {n : Nat} {xs : List D} {y : D} (h : getL m n = some (xs ++ [y])) : methD .pop (.loc n) [] m = some (y, m.set n (.lst xs)) := by
  unfold methD
  simp [h]
theorem meth_ext {m : List SO} {n j : Nat} {xs ys : List D} (h : getL m n = some xs) (h2 : getL m j = some ys) (hl : xs.length + ys.length ≤ sizeLine) : methD .extend (.loc n) [.loc j] m = some (.non, m.set n (.lst (xs ++ ys))) := by
  unfold methD
  simp only [h, h2]
  rw [if_pos hl]
theorem meth_extT {m : List SO} {n : Nat} {xs ys : List D} (h : getL m n = some xs) (hl : xs.length + ys.length ≤ sizeLine) : methD .extend (.loc n) [.tup ys] m = some (.non, m.set n (.lst (xs ++ ys))) := by
  unfold methD
  simp only [h]
  rw [if_pos hl]
theorem truth_loc {m : List SO} {n : Nat} {xs : List D} (h : getL m n = some xs) : truth m (.loc n) = some (!xs.isEmpty) := by
  unfold getL at h
  unfold truth
  split at h
  · rename_i ys e; cases h; simp [e]
  · cases h

/-! ### match, case by case -/
section
variable {k : Nat} {cf : Str → List D → M D} {cs : Sm} {r : Rho} {m : List SO}
theorem ex_mtch {i : Nat} {d : D} (h : r[i]? = some (some d)) : (ex k cf (.mtch (.var i) cs)).x r m = (ex k cf cs).c d r m := by
  simp [ex, dst, ev, den, M.bnd, h]
theorem case_ne {w z : String} {ps : List Pt} {gd : Ex} {body rest : Sm} {xs : List D} (h : (z == w) = false) :
    (ex k cf (.case (some (.lit (Str.ofString w) :: ps)) gd body rest)).c (.tup (.str (Str.ofString z) :: xs)) r m = (ex k cf rest).c (.tup (.str (Str.ofString z) :: xs)) r m := by
  simp [ex, ptsD, h]
theorem case_len {p : List Pt} {gd : Ex} {body rest : Sm} {xs : List D} (h : xs.length ≠ p.length) :
    (ex k cf (.case (some p) gd body rest)).c (.tup xs) r m = (ex k cf rest).c (.tup xs) r m := by
  simp [ex, h]
theorem case_any {gd : Ex} {body rest : Sm} {d : D} : (ex k cf (.case none gd body rest)).c d r m = (ex k cf body).x r m := by
  simp [ex]
theorem case_hit {w : String} {ps : List Pt} {body rest : Sm} {xs : List D} {r' : Rho} (hl : xs.length = ps.length) (h : ptsD ps xs r = some (some r')) :
    (ex k cf (.case (some (.lit (Str.ofString w) :: ps)) .nil body rest)).c (.tup (.str (Str.ofString w) :: xs)) r m = (ex k cf body).x r' m := by
  simp [ex, ptsD, h, hl]
theorem case_grd {w : String} {ps : List Pt} {gd : Ex} {body rest : Sm} {xs : List D} {r' : Rho} (hg : gd ≠ .nil) (hl : xs.length = ps.length) (h : ptsD ps xs r = some (some r')) {b : Bool} {m' : List SO} (ht : (ev k cf gd r').t m = some (b, m')) :
    (ex k cf (.case (some (.lit (Str.ofString w) :: ps)) gd body rest)).c (.tup (.str (Str.ofString w) :: xs)) r m = if b = true then (ex k cf body).x r' m' else (ex k cf rest).c (.tup (.str (Str.ofString w) :: xs)) r' m' := by
  cases gd <;> first | exact absurd rfl hg | (simp [ex, ptsD, h, hl, ht]; cases b <;> rfl)
theorem grd_vals {i : Nat} {x : Str} {p : RP} (h : r[i]? = some (some (enc p))) : (ev k cf (.cmp .notIn (.idx (.var i) (.cst (.int 0))) (.glb x (.tup [.str "num", .str "shut", .str "kept"]))) r).t m = some (!p.isVal, m) := by
  simp [ev, den, denB, M.bnd, M.ret, h, cmp_nvals]
end

/-! ### what one step tells -/
inductive SR where
  | val (p : RP) | step (p : RP) | stuck (a : Int)
def stepR (p : RP) : SR := if p.isVal then .val p else match act (dec p []).1 (dec p []).2 with
  | .go q fs => .step (plug q fs)
  | .stuck a => .stuck a
  | .bad => .stuck 0
def encSR : SR → D
  | .val p => .tup [.str "value", enc p]
  | .step p => .tup [.str "step", enc p]
  | .stuck a => .tup [.str "stuck", .int a]
def stuckB (p : RP) (fs : List Fr) : Bool := match act p fs with
  | .stuck _ => true
  | _ => false
theorem tagF_rd (f : Fr) : (tagF f == Str.ofString "round") = f.isRd := by
  unfold tagF
  rw [ofs_beq]
  cases f <;> rfl
theorem tagsD_enc : ∀ fs : List Fr, tagsD (encFs fs) = some (fs.map tagF)
  | [] => by simp [encFs, tagsD]
  | f :: fs => by
    obtain ⟨xs, e⟩ := encF_tag f
    simp [encFs, e, tagsD, tagsD_enc fs]
theorem any_tags (fs : List Fr) : ((fs.map tagF).any fun t => t == Str.ofString "round") = fs.any Fr.isRd := by
  rw [List.any_map]
  congr 1
  funext f
  exact tagF_rd f
theorem fs_len_hgt : ∀ {fs : List Fr} {d : Nat}, fs.length + d ≤ hgt d fs
  | [], d => by simp [hgt]
  | f :: fs, d => by
    have := fs_len_hgt (fs := fs) (d := max d (sdF f) + 1)
    simp only [hgt, List.length_cons]
    omega
@[simp] theorem truth_bl (m : List SO) (b : Bool) : truth m (.bl b) = some b := rfl
theorem prF_dp {f : Fr} (h : prF f = true) : ∀ a v, (f = .given a v ∨ f = .added a v) → v.dp = 0 := by
  intro a v e
  rcases e with rfl | rfl <;> exact dp_val h
theorem getL_get {m : List SO} {n : Nat} {xs : List D} (h : getL m n = some xs) : m[n]? = some (.lst xs) := by
  unfold getL at h
  split at h
  · cases h; assumption
  · cases h
theorem set2 {m : List SO} {n h : Nat} (hnh : n ≠ h) (x y z w : SO) : ((((m.set n x).set h y).set n z).set h w) = (m.set n z).set h w := by
  rw [List.set_comm y z (Ne.symm hnh), List.set_set, List.set_set]
theorem ex_seq {k : Nat} {cf : Str → List D → M D} {a b : Sm} {r r' : Rho} {m m' : List SO} (h : (ex k cf a).x r m = some ((.nx, r'), m')) : (ex k cf (.seq a b)).x r m = (ex k cf b).x r' m' := by
  simp [ex, dst, h]
/-- a for's turn -/
def turnF (g : Tg) (F : MS) : D → MS := fun d r m => match tgt g d r m with
  | some r' => F r' m
  | none => none
theorem ex_for {k : Nat} {cf : Str → List D → M D} {g : Tg} {ik : Itk} {args : Ex} {b : Sm} {r : Rho} {m m1 m2 : List SO} {ds : List D} {it : List D × Option (Nat × List D)} (h1 : (ev k cf args r).l m = some (ds, m1)) (h2 : itemsD ik ds m1 = some (it, m2)) :
    (ex k cf (.for_ g ik args b)).x r m = forL (turnF g (ex k cf b).x) it.2 it.1 r m2 := by
  simp only [ex, dst, M.bnd, h1, h2]
  rfl
theorem ex_seq_rt {k : Nat} {cf : Str → List D → M D} {a b : Sm} {r r' : Rho} {d : D} {m m' : List SO} (h : (ex k cf a).x r m = some ((.rt d, r'), m')) : (ex k cf (.seq a b)).x r m = some ((.rt d, r'), m') := by
  simp [ex, dst, h]
end Mi
namespace K13
open PySem PySem.Spec PyProof.Rows L2 Mi
variable {m : List SO} {k : Nat}

theorem run_isv (p : RP) (m : List SO) : run tb (k + 1) "is_value_putting" [enc p] m = some (.bl p.isVal, m) := by
  rw [run_at tb_is_value_putting k rfl]
  simp [fn_is_value_putting, ex, ev, dst, den, denB, M.bnd, M.ret, M.no, newT, newL, fini, truthM, truth, Mi.isNon, bltD, tgt, setsR, wipeR, ptO, isiD, sizeLine, getL_app0, cmp_vals, gc_same]
theorem run_ent (p : RP) (m : List SO) : run tb (k + 1) "entered_putting" [enc p] m = some (encEnt (ent p), m) := by
  rw [run_at tb_entered_putting k rfl]
  cases p with
  | call a f g =>
    simp only [fn_entered_putting, enc]
    rw [ex_mtch rfl, case_grd (by nofun) rfl rfl (grd_vals (p := f) rfl)]
    by_cases h1 : f.isVal = true
    · rw [if_neg (by simp [h1]), case_grd (by nofun) rfl rfl (grd_vals (p := g) rfl)]
      by_cases h2 : g.isVal = true
      · rw [if_neg (by simp [h2]), case_ne rfl, case_ne rfl, case_ne rfl, case_ne rfl, case_any]
        simp [ex, ev, dst, den, denB, M.bnd, M.ret, M.no, newT, newL, fini, truthM, truth, Mi.isNon, bltD, tgt, setsR, wipeR, ptO, isiD, sizeLine, getL_app0, ent, encEnt, gc_same, h1, h2]
      · rw [if_pos (by simp [h2])]
        simp [ex, ev, dst, den, denB, M.bnd, M.ret, M.no, newT, newL, fini, truthM, truth, Mi.isNon, bltD, tgt, setsR, wipeR, ptO, isiD, sizeLine, getL_app0, ent, encEnt, encF, gc_same, h1, h2, lt_enc]
    · rw [if_pos (by simp [h1])]
      simp [ex, ev, dst, den, denB, M.bnd, M.ret, M.no, newT, newL, fini, truthM, truth, Mi.isNon, bltD, tgt, setsR, wipeR, ptO, isiD, sizeLine, getL_app0, ent, encEnt, encF, gc_same, h1, lt_enc]
  | plus a f g =>
    simp only [fn_entered_putting, enc]
    rw [ex_mtch rfl, case_ne rfl, case_ne rfl, case_grd (by nofun) rfl rfl (grd_vals (p := f) rfl)]
    by_cases h1 : f.isVal = true
    · rw [if_neg (by simp [h1]), case_grd (by nofun) rfl rfl (grd_vals (p := g) rfl)]
      by_cases h2 : g.isVal = true
      · rw [if_neg (by simp [h2]), case_ne rfl, case_ne rfl, case_any]
        simp [ex, ev, dst, den, denB, M.bnd, M.ret, M.no, newT, newL, fini, truthM, truth, Mi.isNon, bltD, tgt, setsR, wipeR, ptO, isiD, sizeLine, getL_app0, ent, encEnt, gc_same, h1, h2]
      · rw [if_pos (by simp [h2])]
        simp [ex, ev, dst, den, denB, M.bnd, M.ret, M.no, newT, newL, fini, truthM, truth, Mi.isNon, bltD, tgt, setsR, wipeR, ptO, isiD, sizeLine, getL_app0, ent, encEnt, encF, gc_same, h1, h2, lt_enc]
    · rw [if_pos (by simp [h1])]
      simp [ex, ev, dst, den, denB, M.bnd, M.ret, M.no, newT, newL, fini, truthM, truth, Mi.isNon, bltD, tgt, setsR, wipeR, ptO, isiD, sizeLine, getL_app0, ent, encEnt, encF, gc_same, h1, lt_enc]
  | pick a c f g =>
    simp only [fn_entered_putting, enc]
    rw [ex_mtch rfl, case_ne rfl, case_ne rfl, case_ne rfl, case_ne rfl, case_grd (by nofun) rfl rfl (grd_vals (p := c) rfl)]
    by_cases h1 : c.isVal = true
    · rw [if_neg (by simp [h1]), case_ne rfl, case_any]
      simp [ex, ev, dst, den, denB, M.bnd, M.ret, M.no, newT, newL, fini, truthM, truth, Mi.isNon, bltD, tgt, setsR, wipeR, ptO, isiD, sizeLine, getL_app0, ent, encEnt, gc_same, h1]
    · rw [if_pos (by simp [h1])]
      simp [ex, ev, dst, den, denB, M.bnd, M.ret, M.no, newT, newL, fini, truthM, truth, Mi.isNon, bltD, tgt, setsR, wipeR, ptO, isiD, sizeLine, getL_app0, ent, encEnt, encF, gc_same, h1, lt_enc]
  | round b =>
    simp only [fn_entered_putting, enc]
    rw [ex_mtch rfl, case_ne rfl, case_ne rfl, case_ne rfl, case_ne rfl, case_ne rfl, case_grd (by nofun) rfl rfl (grd_vals (p := b) rfl)]
    by_cases h1 : b.isVal = true
    · rw [if_neg (by simp [h1]), case_any]
      simp [ex, ev, dst, den, denB, M.bnd, M.ret, M.no, newT, newL, fini, truthM, truth, Mi.isNon, bltD, tgt, setsR, wipeR, ptO, isiD, sizeLine, getL_app0, ent, encEnt, gc_same, h1]
    · rw [if_pos (by simp [h1])]
      simp [ex, ev, dst, den, denB, M.bnd, M.ret, M.no, newT, newL, fini, truthM, truth, Mi.isNon, bltD, tgt, setsR, wipeR, ptO, isiD, sizeLine, getL_app0, ent, encEnt, encF, gc_same, h1, lt_enc]
  | _ =>
    simp only [fn_entered_putting, enc]
    rw [ex_mtch rfl, case_ne rfl, case_ne rfl, case_ne rfl, case_ne rfl, case_ne rfl, case_ne rfl, case_any]
    simp [ex, ev, dst, den, denB, M.bnd, M.ret, M.no, newT, newL, fini, truthM, truth, Mi.isNon, bltD, tgt, setsR, wipeR, ptO, isiD, sizeLine, getL_app0, ent, encEnt, gc_same]
theorem run_fill (f : Fr) (q : RP) (m : List SO) : run tb (k + 1) "filled" [encF f, enc q] m = some (enc (Mi.fill f q), m) := by
  rw [run_at tb_filled k rfl]
  cases f <;> simp only [fn_filled, encF]
  · rw [ex_mtch rfl, case_hit rfl rfl]; simp [ex, ev, dst, den, denB, M.bnd, M.ret, M.no, newT, newL, fini, truthM, truth, Mi.isNon, bltD, tgt, setsR, wipeR, ptO, isiD, sizeLine, getL_app0, Mi.fill, enc, gc_same, lt_enc]
  · rw [ex_mtch rfl, case_ne rfl, case_hit rfl rfl]; simp [ex, ev, dst, den, denB, M.bnd, M.ret, M.no, newT, newL, fini, truthM, truth, Mi.isNon, bltD, tgt, setsR, wipeR, ptO, isiD, sizeLine, getL_app0, Mi.fill, enc, gc_same, lt_enc]
  · rw [ex_mtch rfl, case_ne rfl, case_ne rfl, case_hit rfl rfl]; simp [ex, ev, dst, den, denB, M.bnd, M.ret, M.no, newT, newL, fini, truthM, truth, Mi.isNon, bltD, tgt, setsR, wipeR, ptO, isiD, sizeLine, getL_app0, Mi.fill, enc, gc_same, lt_enc]
  · rw [ex_mtch rfl, case_ne rfl, case_ne rfl, case_ne rfl, case_hit rfl rfl]; simp [ex, ev, dst, den, denB, M.bnd, M.ret, M.no, newT, newL, fini, truthM, truth, Mi.isNon, bltD, tgt, setsR, wipeR, ptO, isiD, sizeLine, getL_app0, Mi.fill, enc, gc_same, lt_enc]
  · rw [ex_mtch rfl, case_ne rfl, case_ne rfl, case_ne rfl, case_ne rfl, case_hit rfl rfl]; simp [ex, ev, dst, den, denB, M.bnd, M.ret, M.no, newT, newL, fini, truthM, truth, Mi.isNon, bltD, tgt, setsR, wipeR, ptO, isiD, sizeLine, getL_app0, Mi.fill, enc, gc_same, lt_enc]
  · rw [ex_mtch rfl, case_ne rfl, case_ne rfl, case_ne rfl, case_ne rfl, case_ne rfl, case_any]; simp [ex, ev, dst, den, denB, M.bnd, M.ret, M.no, newT, newL, fini, truthM, truth, Mi.isNon, bltD, tgt, setsR, wipeR, ptO, isiD, sizeLine, getL_app0, Mi.fill, enc, gc_same, lt_enc]
def fbody : Sm := match fn_found.body with
  | .whl _ b => b
  | s => s
theorem found_body : fn_found.body = .whl (.cst (.bl true)) fbody := rfl
theorem fbody_end (q : RP) {n : Nat} {r2 r3 : Option D} (hq : q.isVal = false) (he : ent q = none) (m : List SO) :
    ∃ r', (ex (k + 1) (run tb (k + 1)) fbody).x [some (enc q), some (.loc n), r2, r3] m = some ((.rt (enc q), r'), m) := by
  refine ⟨[some (enc q), some (.loc n), some .non, r3], ?_⟩
  simp only [fbody, fn_found]
  simp [ex, ev, dst, den, denB, M.bnd, M.ret, M.no, newT, newL, fini, truthM, truth, Mi.isNon, bltD, tgt, setsR, wipeR, ptO, isiD, sizeLine, getL_app0, run_isv, run_ent, hq, he, encEnt, cmp_isN]
theorem fbody_in (q c : RP) (f : Fr) {n : Nat} {xs : List D} {r2 r3 : Option D} (hq : q.isVal = false) (he : ent q = some (c, f)) {m : List SO} (hm : getL m n = some xs) (hl : xs.length < sizeLine) :
    (ex (k + 1) (run tb (k + 1)) fbody).x [some (enc q), some (.loc n), r2, r3] m = some ((.nx, [some (enc c), some (.loc n), some (encEnt (some (c, f))), some (encF f)]), m.set n (.lst (xs ++ [encF f]))) := by
  simp only [fbody, fn_found]
  simp [ex, ev, dst, den, denB, M.bnd, M.ret, M.no, newT, newL, fini, truthM, truth, Mi.isNon, bltD, tgt, setsR, wipeR, ptO, isiD, sizeLine, getL_app0, run_isv, run_ent, hq, he, encEnt, cmp_isN, meth_app hm hl]
theorem found_loop (n : Nat) : ∀ (d : Nat) (q : RP) (fs : List Fr) (r2 r3 : Option D) (m : List SO), q.dp ≤ d → q.isVal = false → fs.length + q.dp < 16300000 → getL m n = some (encFs fs.reverse) →
    ∃ N r', whN (fun r => (ev (k + 1) (run tb (k + 1)) (.cst (.bl true)) r).t) (ex (k + 1) (run tb (k + 1)) fbody).x N [some (enc q), some (.loc n), r2, r3] m = some ((.rt (enc (dec q fs).1), r'), m.set n (.lst (encFs (dec q fs).2.reverse)))
  | d, q, fs, r2, r3, m, hd, hq, hl, hm => by
    cases he : ent q with
    | none =>
      obtain ⟨r', h⟩ := fbody_end (k := k) (n := n) (r2 := r2) (r3 := r3) q hq he m
      refine ⟨1, r', ?_⟩
      rw [dec_none he, set_getL hm]
      simp [whN, ev, den, M.bnd, M.ret, truthM, truth, h]
    | some r =>
      obtain ⟨c, f⟩ := r
      have h := fbody_in (k := k) (n := n) (r2 := r2) (r3 := r3) q c f hq he hm (by rw [encFs_len, List.length_reverse]; unfold sizeLine; omega)
      have hlt := ent_lt he
      have hn := getL_lt hm
      cases d with
      | zero => omega
      | succ d =>
        obtain ⟨N, r', ih⟩ := found_loop n d c (f :: fs) (some (encEnt (some (c, f)))) (some (encF f)) (m.set n (.lst (encFs fs.reverse ++ [encF f]))) (by omega) (ent_fill he).2 (by simp; omega) (by rw [getL_set_same hn, encFs_snoc])
        refine ⟨N + 1, r', ?_⟩
        rw [dec_ent he]
        rw [List.set_set] at ih
        simp [whN, ev, den, M.bnd, M.ret, truthM, truth, h] at ih ⊢
        exact ih
end K13
namespace K13
open PySem PySem.Spec PyProof.Rows L2 Mi
variable {m : List SO} {k : Nat}

theorem fbody_pop (q : RP) (f : Fr) {n : Nat} {xs : List D} {r2 r3 : Option D} (hq : q.isVal = true) {m : List SO} (hm : getL m n = some (xs ++ [encF f])) :
    (ex (k + 1) (run tb (k + 1)) fbody).x [some (enc q), some (.loc n), r2, r3] m = (ex (k + 1) (run tb (k + 1)) fbody).x [some (enc (Mi.fill f q)), some (.loc n), r2, r3] (m.set n (.lst xs)) := by
  simp only [fbody, fn_found]
  have ht : truth m (.loc n) = some true := by rw [truth_loc hm]; simp
  simp [ex, ev, dst, den, denB, M.bnd, M.ret, M.no, truthM, ht, run_isv, hq, fill_nval, meth_pop hm, run_fill]
theorem fbody_done (q : RP) {n : Nat} {r2 r3 : Option D} (hq : q.isVal = true) {m : List SO} (hm : getL m n = some []) :
    (ex (k + 1) (run tb (k + 1)) fbody).x [some (enc q), some (.loc n), r2, r3] m = some ((.rt (enc q), [some (enc q), some (.loc n), r2, r3]), m) := by
  simp only [fbody, fn_found]
  have ht : truth m (.loc n) = some false := by rw [truth_loc hm]; simp
  simp [ex, ev, dst, den, denB, M.bnd, M.ret, M.no, truthM, ht, run_isv, hq]
theorem run_found (q : RP) (fs : List Fr) {n : Nat} (m : List SO) (hl : hgt q.dp fs < 16200000) (hp : ∀ f ∈ fs, prF f = true) (hm : getL m n = some (encFs fs.reverse)) :
    run tb (k + 2) "found" [enc q, .loc n] m = some (enc (fnd q fs).1, m.set n (.lst (encFs (fnd q fs).2.reverse))) := by
  have hn := getL_lt hm
  have hlen := fs_len_hgt (fs := fs) (d := q.dp)
  rw [run_at tb_found (k + 1) rfl, found_body]
  obtain ⟨N, r', h⟩ : ∃ N r', whN (fun r => (ev (k + 1) (run tb (k + 1)) (.cst (.bl true)) r).t) (ex (k + 1) (run tb (k + 1)) fbody).x N [some (enc q), some (.loc n), none, none] m = some ((.rt (enc (fnd q fs).1), r'), m.set n (.lst (encFs (fnd q fs).2.reverse))) := by
    cases hq : q.isVal with
    | false =>
      have e : fnd q fs = dec q fs := by unfold fnd; rw [hq]
      rw [e]
      exact found_loop n q.dp q fs none none m (Nat.le_refl _) hq (by omega) hm
    | true =>
      cases fs with
      | nil =>
        have e : fnd q [] = (q, []) := by unfold fnd; rw [hq]
        rw [e]
        have h := fbody_done (k := k) (n := n) (r2 := none) (r3 := none) q hq (m := m) (by simpa [encFs] using hm)
        refine ⟨1, [some (enc q), some (.loc n), none, none], ?_⟩
        have h0 : m.set n (.lst (encFs ([] : List Fr).reverse)) = m := set_getL (by simpa using hm)
        rw [h0]
        simp [whN, ev, den, M.bnd, M.ret, truthM, h]
      | cons f fs =>
        have e : fnd q (f :: fs) = dec (Mi.fill f q) fs := by unfold fnd; rw [hq]
        rw [e]
        have hm2 : getL m n = some (encFs fs.reverse ++ [encF f]) := by rw [← encFs_snoc]; exact hm
        have hd := fill_hgt (f := f) (q := q) (prF_dp (hp f (by simp)))
        have hdp := fs_len_hgt (fs := fs) (d := max q.dp (sdF f) + 1)
        simp only [hgt] at hl
        obtain ⟨N, r', h⟩ := found_loop (k := k) n (Mi.fill f q).dp (Mi.fill f q) fs none none (m.set n (.lst (encFs fs.reverse))) (Nat.le_refl _) (fill_nval f q) (by omega) (getL_set_same hn _)
        rw [List.set_set] at h
        cases N with
        | zero => simp [whN, M.no] at h
        | succ N =>
          refine ⟨N + 1, r', ?_⟩
          rw [← h]
          have hp' := fbody_pop (k := k) (n := n) (r2 := none) (r3 := none) q f hq hm2
          simp [whN, ev, den, M.bnd, M.ret, truthM, hp']
  have hw : (ex (k + 1) (run tb (k + 1)) (.whl (.cst (.bl true)) fbody)).x [some (enc q), some (.loc n), none, none] m = some ((.rt (enc (fnd q fs).1), r'), m.set n (.lst (encFs (fnd q fs).2.reverse))) := whC_of h
  have hs : ([enc q, D.loc n].map some ++ List.replicate (fn_found.N.length - [enc q, D.loc n].length) none : Rho) = [some (enc q), some (.loc n), none, none] := rfl
  rw [hs, hw]
  simp only [fini]
  rw [gc_set0 (lt_enc _ _) (lt_encFs _ _) hn]
/-! ### the frames about a piece -/
/-! ### stuck -/
theorem ev_anyR {r : Rho} {cf : Str → List D → M D} {fs : List Fr} {i n : Nat} (hr : r[i]? = some (some (.loc n))) (hm : getL m n = some (encFs fs.reverse)) : (ev k cf (.not (.anyR "round" (.var i))) r).v m = some (.bl (!fs.any Fr.isRd), m) := by
  simp [ev, den, M.bnd, M.ret, hr, hm, tagsD_enc, truthM, List.any_reverse, Function.comp_def, tagF_rd]
theorem ent_none {p : RP} (h : ent p = none) : (∀ a f g, p = .call a f g → f.isVal = true ∧ g.isVal = true) ∧ (∀ a f g, p = .plus a f g → f.isVal = true ∧ g.isVal = true) ∧ (∀ a c f g, p = .pick a c f g → c.isVal = true) ∧ ∀ b, p = .round b → b.isVal = true := by
  refine ⟨fun a f g e => ?_, fun a f g e => ?_, fun a c f g e => ?_, fun b e => ?_⟩ <;> subst e <;> simp only [ent] at h
  · by_cases h1 : f.isVal = true
    · by_cases h2 : g.isVal = true
      · exact ⟨h1, h2⟩
      · simp [h1, h2] at h
    · simp [h1] at h
  · by_cases h1 : f.isVal = true
    · by_cases h2 : g.isVal = true
      · exact ⟨h1, h2⟩
      · simp [h1, h2] at h
    · simp [h1] at h
  · by_cases h1 : c.isVal = true
    · exact h1
    · simp [h1] at h
  · by_cases h1 : b.isVal = true
    · exact h1
    · simp [h1] at h
theorem run_stuck (p : RP) (fs : List Fr) {n : Nat} (he : ent p = none) (hv : p.isVal = false) (hm : getL m n = some (encFs fs.reverse)) : run tb (k + 1) "is_stuck" [enc p, .loc n] m = some (.bl (stuckB p fs), m) := by
  obtain ⟨e1, e2, e3, e4⟩ := ent_none he
  rw [run_at tb_is_stuck k rfl]
  cases p with
  | call a f g =>
    obtain ⟨v1, v2⟩ := e1 _ _ _ rfl
    simp only [fn_is_stuck, enc]
    rw [ex_mtch rfl, case_hit rfl rfl]
    cases f <;> simp [RP.isVal] at v1 <;> simp [ex, ev, dst, den, denB, M.bnd, M.ret, M.no, newT, newL, fini, truthM, truth, Mi.isNon, bltD, tgt, setsR, wipeR, ptO, isiD, sizeLine, getL_app0, cmp_tag, wordP, stuckB, act, gc_same]
  | plus a f g =>
    obtain ⟨v1, v2⟩ := e2 _ _ _ rfl
    simp only [fn_is_stuck, enc]
    rw [ex_mtch rfl, case_ne rfl, case_hit rfl rfl]
    cases f <;> simp [RP.isVal] at v1 <;> cases g <;> simp [RP.isVal] at v2 <;> simp [ex, ev, dst, den, denB, M.bnd, M.ret, M.no, newT, newL, fini, truthM, truth, Mi.isNon, bltD, tgt, setsR, wipeR, ptO, isiD, sizeLine, getL_app0, cmp_tagN, wordP, stuckB, act, gc_same]
  | pick a c f g =>
    have v1 := e3 _ _ _ _ rfl
    simp only [fn_is_stuck, enc]
    rw [ex_mtch rfl, case_ne rfl, case_ne rfl, case_hit rfl rfl]
    cases c <;> simp [RP.isVal] at v1 <;> simp [ex, ev, dst, den, denB, M.bnd, M.ret, M.no, newT, newL, fini, truthM, truth, Mi.isNon, bltD, tgt, setsR, wipeR, ptO, isiD, sizeLine, getL_app0, cmp_tagN, wordP, stuckB, act, gc_same]
  | take a x b =>
    simp only [fn_is_stuck, enc]
    rw [ex_mtch rfl, case_ne rfl, case_ne rfl, case_ne rfl, case_hit rfl rfl]
    have hs : stuckB (.take a x b) fs = !fs.any Fr.isRd := by
      cases h : splitR fs with
      | none => simp only [stuckB, act, h]; simp [split_none.mp h]
      | some r =>
        have : fs.any Fr.isRd = true := by
          cases z : fs.any Fr.isRd with
          | true => rfl
          | false => rw [split_none.mpr z] at h; cases h
        simp only [stuckB, act, h]
        simp [this]
    have ha := ev_anyR (m := m) (k := k) (cf := run tb k) (r := [some (.tup [.str "take", .int a, .str x, enc b]), some (.loc n), none, none, none, none]) (i := 1) (fs := fs) rfl hm
    show fini m ((ex k (run tb k) (.ret (.not (.anyR "round" (.var 1))))).x [some (.tup [.str "take", .int a, .str x, enc b]), some (.loc n), none, none, none, none] m) = _
    simp [ex, dst, M.bnd, M.ret, ha, fini, gc_same, hs]
  | _ =>
    simp only [fn_is_stuck, enc]
    rw [ex_mtch rfl, case_ne rfl, case_ne rfl, case_ne rfl, case_ne rfl, case_any]
    simp [ex, ev, dst, den, denB, M.bnd, M.ret, M.no, newT, newL, fini, truthM, truth, Mi.isNon, bltD, tgt, setsR, wipeR, ptO, isiD, sizeLine, getL_app0, stuckB, act, gc_same]
end K13
namespace K13
open PySem PySem.Spec PyProof.Rows L2 Mi
variable {m : List SO} {k : Nat}

/-! ### a step at the place -/
theorem run_called_shut {b : Int} {x : Str} {c g : RP} {n : Nat} (hx : PyData.strOk x = true) (hs : c.sok = true) (hd : c.dp ≤ k) : run tb (k + 2) "called_putting" [enc (.shut b x c), enc g, .loc n] m = some (enc (RP.put x g c), m) := by
  rw [run_at tb_called_putting (k + 1) rfl]
  have hp : ∀ M, run tb (k + 1) "put_in" [enc c, .str x, enc g] M = some (enc (RP.put x g c), M) := fun M => run_put hx g c hs hd
  simp [fn_called_putting, ex, ev, dst, den, denB, M.bnd, M.ret, M.no, newT, newL, fini, truthM, truth, Mi.isNon, bltD, tgt, setsR, wipeR, ptO, isiD, sizeLine, getL_app0, enc, idx_hd, idx_t1, idx_t2, idx_t3, cmp_eqs, hp, gc_same, lt_enc]
theorem run_called_kept {b : Int} {ks fs : List Fr} {g : RP} {n : Nat} (hl : ks.length + fs.length < 16700000) (hm : getL m n = some (encFs fs.reverse)) :
    run tb (k + 2) "called_putting" [enc (.kept b ks), enc g, .loc n] m = some (enc g, m.set n (.lst (encFs (ks ++ .round :: fs).reverse))) := by
  have hn := getL_lt hm
  rw [run_at tb_called_putting (k + 1) rfl]
  have h1 : ∀ y, methD .append (.loc n) [y] m = some (.non, m.set n (.lst (encFs fs.reverse ++ [y]))) := fun y => meth_app hm (by rw [encFs_len, List.length_reverse]; unfold sizeLine; omega) y
  have h2 : ∀ y, methD .extend (.loc n) [.tup (encFs ks).reverse] (m.set n (.lst (encFs fs.reverse ++ [y]))) = some (.non, m.set n (.lst (encFs fs.reverse ++ [y] ++ (encFs ks).reverse))) := fun y => by
    rw [meth_extT (getL_set_same hn _) (by simp [encFs_len]; unfold sizeLine; omega), List.set_set]
  have e : encFs (ks ++ .round :: fs).reverse = encFs fs.reverse ++ [encF .round] ++ (encFs ks).reverse := by
    simp [encFs_map]
  rw [e]
  simp [fn_called_putting, ex, ev, dst, den, denB, M.bnd, M.ret, M.no, newT, newL, fini, truthM, truth, Mi.isNon, bltD, tgt, setsR, wipeR, ptO, isiD, sizeLine, getL_app0, enc, idx_hd, idx_t1, idx_t2, cmp_eqs, h1, h2]
  rw [show D.tup [D.str (Str.ofString "round")] = encF .round by simp [encF], gc_set0 (lt_enc _ _) ?_ hn]
  have hlt := lt_encFs m.length (ks ++ .round :: fs).reverse
  rw [e] at hlt
  simpa using hlt
def tbody : Sm := match fn_taken_putting.body with
  | .seq _ (.seq _ (.seq (.whl _ b) _)) => b
  | s => s
def tcond : Ex := match fn_taken_putting.body with
  | .seq _ (.seq _ (.seq (.whl c _) _)) => c
  | s => .nil
def tend : Sm := match fn_taken_putting.body with
  | .seq _ (.seq _ (.seq _ b)) => b
  | s => s
theorem taken_body : fn_taken_putting.body = .seq (.unp [2, 3, 4, 5] (.var 0)) (.seq (.set 6 (.lst .nil)) (.seq (.whl tcond tbody) tend)) := rfl
theorem idx_last {m : List SO} {n : Nat} {xs : List D} {y : D} (h : getL m n = some (xs ++ [y])) : idxD (.loc n) (.int (-1)) m = some (y, m) := by
  unfold idxD
  simp only [seqOf, h]
  have e : atI (xs ++ [y]) (-1) = some y := by
    unfold atI ixN
    have h1 : (1 : Int) ≤ (xs.length : Int) + 1 := by omega
    have h2 : (-1 + ((xs.length : Int) + 1)).toNat = xs.length := by omega
    simp [h1, h2]
  rw [e]
theorem taken_loop {n h : Nat} {d r2 r3 r4 r5 : Option D} : ∀ (hd tl : List Fr) (tl' : List Fr) (acc : List Fr) (m : List SO), tl = .round :: tl' → (∀ f ∈ hd, f.isRd = false) → n ≠ h → acc.length + hd.length < 16700000 → getL m n = some (encFs (hd ++ tl).reverse) → getL m h = some (encFs acc) →
    ∃ N, whN (fun r => (ev (k + 1) (run tb (k + 1)) tcond r).t) (ex (k + 1) (run tb (k + 1)) tbody).x N [d, some (.loc n), r2, r3, r4, r5, some (.loc h)] m
      = some ((.nx, [d, some (.loc n), r2, r3, r4, r5, some (.loc h)]), (m.set n (.lst (encFs tl.reverse))).set h (.lst (encFs (acc ++ hd))))
  | [], tl, tl', acc, m, e, hr, hnh, hl, hm, hh => by
    subst e
    refine ⟨1, ?_⟩
    have hm' : getL m n = some (encFs tl'.reverse ++ [encF .round]) := by rw [← encFs_snoc]; exact hm
    have hi := idx_last hm'
    have h0 : m.set n (.lst (encFs (Mi.Fr.round :: tl').reverse)) = m := set_getL (by simpa using hm)
    rw [h0, List.append_nil, set_getL hh]
    simp only [tcond, fn_taken_putting]
    simp [whN, ev, dst, den, denB, M.bnd, M.ret, hi, cmp_tagFN, wordF]
  | f :: hd, tl, tl', acc, m, e, hr, hnh, hl, hm, hh => by
    have hm' : getL m n = some (encFs (hd ++ tl).reverse ++ [encF f]) := by rw [← encFs_snoc]; exact hm
    have hi := idx_last hm'
    have hn := getL_lt hm
    have hh' := getL_lt hh
    have hpop := meth_pop hm'
    have happ : methD .append (.loc h) [encF f] (m.set n (.lst (encFs (hd ++ tl).reverse))) = some (.non, (m.set n (.lst (encFs (hd ++ tl).reverse))).set h (.lst (encFs acc ++ [encF f]))) :=
      meth_app (by rw [getL_set_ne hnh]; exact hh) (by rw [encFs_len]; unfold sizeLine; omega) _
    have hf : (wordF f != "round") = true := by
      have := hr f (by simp)
      cases f <;> simp [Fr.isRd] at this <;> rfl
    obtain ⟨N, ih⟩ := taken_loop hd tl tl' (acc ++ [f]) ((m.set n (.lst (encFs (hd ++ tl).reverse))).set h (.lst (encFs acc ++ [encF f]))) e (fun g hg => hr g (by simp [hg])) hnh (by simp at hl ⊢; omega)
      (by rw [getL_set_ne (Ne.symm hnh), getL_set_same hn]) (by rw [getL_set_same (by simpa using hh'), encFs_app, encFs_one])
    refine ⟨N + 1, ?_⟩
    have e2 : (((m.set n (.lst (encFs (hd ++ tl).reverse))).set h (.lst (encFs acc ++ [encF f]))).set n (.lst (encFs tl.reverse))).set h (.lst (encFs (acc ++ [f] ++ hd))) = (m.set n (.lst (encFs tl.reverse))).set h (.lst (encFs (acc ++ f :: hd))) := by
      rw [set2 hnh]
      simp
    rw [e2] at ih
    rw [← ih]
    have hc : (ev (k + 1) (run tb (k + 1)) tcond [d, some (.loc n), r2, r3, r4, r5, some (.loc h)]).t m = some (true, m) := by
      simp only [tcond, fn_taken_putting]
      simp [ev, dst, den, denB, M.bnd, M.ret, hi, cmp_tagFN, hf]
    have hb : (ex (k + 1) (run tb (k + 1)) tbody).x [d, some (.loc n), r2, r3, r4, r5, some (.loc h)] m = some ((.nx, [d, some (.loc n), r2, r3, r4, r5, some (.loc h)]), (m.set n (.lst (encFs (hd ++ tl).reverse))).set h (.lst (encFs acc ++ [encF f]))) := by
      simp only [tbody, fn_taken_putting]
      simp [-List.reverse_append, ex, ev, dst, den, denB, M.bnd, M.ret, hpop, happ]
    conv => lhs; unfold whN
    simp [M.bnd, hc, hb]
theorem run_taken {a : Int} {x : Str} {b : RP} {hd tl tl' : List Fr} {n : Nat} (hx : PyData.strOk x = true) (hs : b.sok = true) (hdp : b.dp ≤ k) (e : tl = .round :: tl') (hr : ∀ f ∈ hd, f.isRd = false) (hl : hd.length < 16700000) (hm : getL m n = some (encFs (hd ++ tl).reverse)) :
    run tb (k + 2) "taken_putting" [enc (.take a x b), .loc n] m = some (enc (RP.put x (.kept a hd) b), m.set n (.lst (encFs tl.reverse))) := by
  have hn := getL_lt hm
  rw [run_at tb_taken_putting (k + 1) rfl, taken_body]
  obtain ⟨N, h⟩ := taken_loop (k := k) (h := m.length) (d := some (enc (.take a x b))) (r2 := some (.str "take")) (r3 := some (.int a)) (r4 := some (.str x)) (r5 := some (enc b)) hd tl tl' [] (m ++ [.lst []]) e hr (Nat.ne_of_lt hn) (by simpa using hl) (by rw [getL_old hn]; exact hm) (by simp [encFs])
  have hw : (ex (k + 1) (run tb (k + 1)) (.whl tcond tbody)).x [some (enc (.take a x b)), some (.loc n), some (.str "take"), some (.int a), some (.str x), some (enc b), some (.loc m.length)] (m ++ [.lst []]) = _ := whC_of h
  have hp : ∀ M, run tb (k + 1) "put_in" [enc b, .str x, enc (.kept a hd)] M = some (enc (RP.put x (.kept a hd) b), M) := fun M => run_put hx (.kept a hd) b hs hdp
  have e3 : ((m ++ [SO.lst []]).set n (.lst (encFs tl.reverse))).set m.length (.lst (encFs ([] ++ hd))) = m.set n (.lst (encFs tl.reverse)) ++ [.lst (encFs hd)] := by
    rw [set_in hn]; simp
  rw [e3] at hw
  simp only [enc] at hw hp
  have hend : (ex (k + 1) (run tb (k + 1)) tend).x [some (.tup [.str "take", .int a, .str x, enc b]), some (.loc n), some (.str "take"), some (.int a), some (.str x), some (enc b), some (.loc m.length)] (m.set n (.lst (encFs tl.reverse)) ++ [.lst (encFs hd)]) = some ((.rt (enc (RP.put x (.kept a hd) b)), [some (.tup [.str "take", .int a, .str x, enc b]), some (.loc n), some (.str "take"), some (.int a), some (.str x), some (enc b), some (.loc m.length)]), m.set n (.lst (encFs tl.reverse)) ++ [.lst (encFs hd)]) := by
    simp only [tend, fn_taken_putting]
    have hbt : bltD .tuple [.loc m.length] (m.set n (.lst (encFs tl.reverse)) ++ [.lst (encFs hd)]) = some (.tup (encFs hd), m.set n (.lst (encFs tl.reverse)) ++ [.lst (encFs hd)]) := by
      unfold bltD
      simp [seqOf]
    simp [ex, ev, dst, den, denB, M.bnd, M.ret, newT, sizeLine, hbt, hp]
  have hgc := gc_set (d := enc (RP.put x (.kept a hd) b)) (l := [.lst (encFs hd)]) (lt_enc m.length _) (lt_encFs m.length tl.reverse) hn
  have h1 : (ex (k + 1) (run tb (k + 1)) (.unp [2, 3, 4, 5] (.var 0))).x [some (.tup [.str "take", .int a, .str x, enc b]), some (.loc n), none, none, none, none, none] m = some ((.nx, [some (.tup [.str "take", .int a, .str x, enc b]), some (.loc n), some (.str "take"), some (.int a), some (.str x), some (enc b), none]), m) := by
    simp [ex, ev, dst, den, M.bnd, M.ret, tgt, setsR]
  have h2 : (ex (k + 1) (run tb (k + 1)) (.set 6 (.lst .nil))).x [some (.tup [.str "take", .int a, .str x, enc b]), some (.loc n), some (.str "take"), some (.int a), some (.str x), some (enc b), none] m = some ((.nx, [some (.tup [.str "take", .int a, .str x, enc b]), some (.loc n), some (.str "take"), some (.int a), some (.str x), some (enc b), some (.loc m.length)]), m ++ [.lst []]) := by
    simp [ex, ev, dst, den, M.bnd, M.ret, newL]
  show fini m ((ex (k + 1) (run tb (k + 1)) (.seq (.unp [2, 3, 4, 5] (.var 0)) (.seq (.set 6 (.lst .nil)) (.seq (.whl tcond tbody) tend)))).x [some (enc (.take a x b)), some (.loc n), none, none, none, none, none] m) = _
  simp only [enc]
  rw [ex_seq h1, ex_seq h2, ex_seq hw, hend]
  simp only [fini]
  rw [hgc]
end K13
namespace K13
open PySem PySem.Spec PyProof.Rows L2 Mi
variable {m : List SO} {k : Nat}

theorem run_changed {T V E : Nat} {pl q : RP} {fs fs' : List Fr} {n : Nat} (z : ZI T V E pl fs) (hT : T < 30000) (hE : E < 16100000) (he : ent pl = none) (ha : act pl fs = .go q fs') (hk : 28 ≤ k) (hm : getL m n = some (encFs fs.reverse)) :
    run tb (k + 3) "changed" [enc pl, .loc n] m = some (enc q, m.set n (.lst (encFs fs'.reverse))) := by
  have hn := getL_lt hm
  have gg := z.g
  have hlen := fs_len_hgt (fs := fs) (d := pl.dp)
  have hze := z.e
  obtain ⟨e1, e2, e3, e4⟩ := ent_none he
  have same : ∀ p : RP, fini m (some ((Out.rt (enc p), ([] : Rho)), m)) = some (enc p, m.set n (.lst (encFs fs.reverse))) := fun p => by
    rw [set_getL hm]; simp only [fini]; rw [gc_same (lt_enc _ _)]
  rw [run_at tb_changed (k + 2) rfl]
  cases pl with
  | fun_ a x b =>
    simp only [act, Ac.go.injEq] at ha
    obtain ⟨rfl, rfl⟩ := ha
    simp only [fn_changed, enc]
    rw [ex_mtch rfl, case_hit rfl rfl, set_getL hm]
    simp [ex, ev, dst, den, denB, M.bnd, M.ret, M.no, newT, newL, fini, truthM, truth, Mi.isNon, bltD, tgt, setsR, wipeR, ptO, isiD, sizeLine, getL_app0, gc_same, lt_enc]
  | call a f g =>
    obtain ⟨v1, v2⟩ := e1 _ _ _ rfl
    simp only [fn_changed, enc]
    rw [ex_mtch rfl, case_ne rfl, case_hit rfl rfl]
    simp only [gd] at gg
    cases f with
    | shut b x c =>
      simp only [act, Ac.go.injEq] at ha
      obtain ⟨rfl, rfl⟩ := ha
      have gf := gg.1
      simp only [gd] at gf
      have h := fun M => run_called_shut (m := M) (k := k) (b := b) (n := n) (g := g) gf.1 (RP.all_sok _ gf.2.2.2.all) (by omega)
      rw [set_getL hm]
      simp [ex, ev, dst, den, M.bnd, M.ret, h, fini, gc_same, lt_enc]
    | kept b ks =>
      simp only [act, Ac.go.injEq] at ha
      obtain ⟨rfl, rfl⟩ := ha
      have gf := gg.1
      simp only [gd] at gf
      have hkl := fs_len_hgt (fs := ks) (d := 0)
      have h := run_called_kept (m := m) (k := k) (b := b) (g := g) (ks := ks) (n := n) (by omega) hm
      have hg := gc_set0 (m := m) (d := enc g) (lt_enc _ _) (lt_encFs m.length (ks ++ .round :: fs).reverse) hn
      simp [-List.reverse_append, -List.reverse_cons, ex, ev, dst, den, M.bnd, M.ret, h, fini, hg]
    | _ => simp [act] at ha
  | plus a f g =>
    have : ∃ i j, f = .num i ∧ g = .num j := by
      cases f <;> cases g <;> simp [act] at ha
      exact ⟨_, _, rfl, rfl⟩
    obtain ⟨i, j, rfl, rfl⟩ := this
    simp only [act, Ac.go.injEq] at ha
    obtain ⟨rfl, rfl⟩ := ha
    simp only [fn_changed, enc]
    rw [ex_mtch rfl, case_ne rfl, case_ne rfl, case_hit rfl rfl, set_getL hm]
    simp [ex, ev, dst, den, denB, M.bnd, M.ret, M.no, newT, newL, fini, truthM, truth, Mi.isNon, bltD, tgt, setsR, wipeR, ptO, isiD, sizeLine, getL_app0, idx_t1, gc_same]
  | pick a c f g =>
    have : ∃ i, c = .num i := by
      cases c <;> simp [act] at ha
      exact ⟨_, rfl⟩
    obtain ⟨i, rfl⟩ := this
    simp only [act, Ac.go.injEq] at ha
    obtain ⟨rfl, rfl⟩ := ha
    simp only [fn_changed, enc]
    rw [ex_mtch rfl, case_ne rfl, case_ne rfl, case_ne rfl, case_hit rfl rfl, set_getL hm]
    by_cases h0 : i = 0
    · subst h0
      simp [ex, ev, dst, den, denB, M.bnd, M.ret, M.no, newT, newL, fini, truthM, truth, Mi.isNon, bltD, tgt, setsR, wipeR, ptO, isiD, sizeLine, getL_app0, idx_t1, cmp_ints, gc_same, lt_enc]
    · simp [ex, ev, dst, den, denB, M.bnd, M.ret, M.no, newT, newL, fini, truthM, truth, Mi.isNon, bltD, tgt, setsR, wipeR, ptO, isiD, sizeLine, getL_app0, idx_t1, cmp_ints, gc_same, lt_enc, h0]
  | round b =>
    simp only [act, Ac.go.injEq] at ha
    obtain ⟨rfl, rfl⟩ := ha
    simp only [fn_changed, enc]
    rw [ex_mtch rfl, case_ne rfl, case_ne rfl, case_ne rfl, case_ne rfl, case_hit rfl rfl, set_getL hm]
    simp [ex, ev, dst, den, denB, M.bnd, M.ret, M.no, newT, newL, fini, truthM, truth, Mi.isNon, bltD, tgt, setsR, wipeR, ptO, isiD, sizeLine, getL_app0, gc_same, lt_enc]
  | take a x b =>
    simp only [act] at ha
    cases hs : splitR fs with
    | none => rw [hs] at ha; cases ha
    | some r =>
      obtain ⟨hd, tl⟩ := r
      rw [hs] at ha
      simp only [Ac.go.injEq] at ha
      obtain ⟨rfl, rfl⟩ := ha
      obtain ⟨h1, h2, ⟨tl', h3⟩, h4⟩ := split_ok hs
      simp only [gd] at gg
      have hlen2 : hd.length ≤ fs.length := by rw [h1]; simp
      have h := run_taken (m := m) (k := k) (a := a) (n := n) gg.1 (RP.all_sok _ gg.2.2.all) (by omega) h3 h2 (by omega) (by rw [← h1]; exact hm)
      have hg := gc_set0 (m := m) (d := enc (RP.put x (.kept a hd) b)) (lt_enc _ _) (lt_encFs m.length tl.reverse) hn
      simp only [enc] at h
      simp only [fn_changed, enc]
      rw [ex_mtch rfl, case_ne rfl, case_ne rfl, case_ne rfl, case_ne rfl, case_ne rfl, case_any]
      simp [ex, ev, dst, den, M.bnd, M.ret, h, fini, hg]
  | _ => simp [act] at ha
end K13
namespace K13
open PySem PySem.Spec PyProof.Rows L2 Mi
variable {m : List SO} {k : Nat}

/-! ### the frames about a piece -/
def sbody : Sm := match fn_surrounded.body with
  | .seq (.for_ _ _ _ b) _ => b
  | s => s
theorem surr_body : fn_surrounded.body = .seq (.for_ (.nm 2) .rev (.cons (.var 1) .nil) sbody) (.ret (.var 0)) := rfl
theorem surr_loop {n : Nat} {ys : List D} (hm : m[n]? = some (.lst ys)) : ∀ (fs : List Fr) (q : RP) (r2 : Option D), ∃ r2',
    forL (fun d r m => (ex (k + 1) (run tb (k + 1)) sbody).x (r.set 2 (some d)) m) (some (n, ys)) (encFs fs) [some (enc q), some (.loc n), r2] m = some ((.nx, [some (enc (plug q fs)), some (.loc n), r2']), m)
  | [], q, r2 => ⟨r2, by simp [encFs, forL, Still, hm]⟩
  | f :: fs, q, r2 => by
    obtain ⟨r2', h⟩ := surr_loop hm fs (Mi.fill f q) (some (encF f))
    refine ⟨r2', ?_⟩
    have hb : (ex (k + 1) (run tb (k + 1)) sbody).x [some (enc q), some (.loc n), some (encF f)] m = some ((.nx, [some (enc (Mi.fill f q)), some (.loc n), some (encF f)]), m) := by
      simp only [sbody, fn_surrounded]
      simp [ex, ev, dst, den, M.bnd, M.ret, run_fill]
    simp [encFs, forL, Still, hm, hb, h]
theorem run_surr (q : RP) (fs : List Fr) {n : Nat} (hm : getL m n = some (encFs fs.reverse)) : run tb (k + 2) "surrounded" [enc q, .loc n] m = some (enc (plug q fs), m) := by
  rw [run_at tb_surrounded (k + 1) rfl, surr_body]
  obtain ⟨r2', h⟩ := surr_loop (k := k) (getL_get hm) fs q none
  have hi : itemsD .rev [.loc n] m = some ((encFs fs, some (n, encFs fs.reverse)), m) := by
    simp [itemsD, hm, encFs_rev]
  simp [fn_surrounded, ex, ev, dst, den, M.bnd, M.ret, hi, tgt, h, fini, gc_same, lt_enc]
theorem run_stepped {T V E : Nat} {q : RP} {fs : List Fr} (z : ZI T V E q fs) (hT : T < 30000) (hE : E < 16100000) (hk : 28 ≤ k) (m : List SO) : run tb (k + 4) "stepped" [enc (plug q fs)] m = some (encSR (stepR (plug q fs)), m) := by
  have hpr : ∀ f ∈ fs, prF f = true := fun f hf => (gdFs_mem.mp z.f f hf).pr
  obtain ⟨p, hp⟩ : ∃ p, p = plug q fs := ⟨_, rfl⟩
  rw [← hp]
  have hpd : p.dp ≤ E := by rw [hp, plug_hgt z.f]; exact z.e
  rw [run_at tb_stepped (k + 3) rfl]
  have hfnd := run_found (k := k + 1) p [] (n := m.length) (m ++ [.lst []]) (by simp only [hgt]; omega) (by simp) (by simp [encFs])
  have hset : ∀ xs, (m ++ [SO.lst []]).set m.length (.lst xs) = m ++ [.lst xs] := fun xs => by simp
  rw [hset] at hfnd
  have hfe : fnd p [] = fnd q fs := by rw [hp]; exact (fnd_plug hpr).symm
  have hisv : ∀ r M, run tb (k + 3) "is_value_putting" [enc r] M = some (.bl r.isVal, M) := fun r M => run_isv r M
  cases hv : p.isVal with
  | true =>
    have h0 : fnd p [] = (p, []) := by unfold fnd; rw [hv]
    rw [h0] at hfnd
    simp [fn_stepped, ex, ev, dst, den, denB, M.bnd, M.ret, M.no, newT, newL, fini, truthM, truth, Mi.isNon, bltD, tgt, setsR, wipeR, ptO, isiD, sizeLine, getL_app0, hfnd, hisv, hv, stepR, encSR, gc_app, lt_enc]
  | false =>
    have h0 : fnd p [] = dec p [] := by unfold fnd; rw [hv]
    have z2 := z.fnd
    rw [← hfe, h0] at z2
    have he := dec_end p []
    have hnv := dec_nval [] hv
    rw [h0] at hfnd
    revert z2 he hnv hfnd
    unfold stepR
    rw [hv]
    generalize dec p [] = r
    obtain ⟨pl, gs⟩ := r
    intro hfnd z2 he hnv
    have hst := run_stuck (k := k + 2) pl gs (m := m ++ [.lst (encFs gs.reverse)]) (n := m.length) he hnv (by simp)
    cases ha : act pl gs with
    | go q' fs' =>
      have hch := run_changed (k := k) (m := m ++ [.lst (encFs gs.reverse)]) (n := m.length) z2 hT hE he ha hk (by simp)
      have hset2 : (m ++ [SO.lst (encFs gs.reverse)]).set m.length (.lst (encFs fs'.reverse)) = m ++ [.lst (encFs fs'.reverse)] := by simp
      rw [hset2] at hch
      have hsu := run_surr (k := k + 1) q' fs' (m := m ++ [.lst (encFs fs'.reverse)]) (n := m.length) (by simp)
      have hsb : stuckB pl gs = false := by unfold stuckB; rw [ha]
      rw [hsb] at hst
      simp [fn_stepped, ex, ev, dst, den, denB, M.bnd, M.ret, M.no, newT, newL, fini, truthM, truth, Mi.isNon, bltD, tgt, setsR, wipeR, ptO, isiD, sizeLine, getL_app0, hfnd, hisv, hnv, hst, hch, hsu, encSR, gc_app, lt_enc]
    | stuck a =>
      have hsb : stuckB pl gs = true := by unfold stuckB; rw [ha]
      rw [hsb] at hst
      have hmk : ∀ M, idxD (enc pl) (.int 1) M = some (.int a, M) := fun M => by
        cases pl with
        | call b f g => cases f <;> simp [act] at ha <;> subst ha <;> exact idx_t1 _ _ _ _
        | plus b f g => cases f <;> cases g <;> simp [act] at ha <;> subst ha <;> exact idx_t1 _ _ _ _
        | pick b c f g => cases c <;> simp [act] at ha <;> subst ha <;> exact idx_t1 _ _ _ _
        | take b x c =>
          simp only [act] at ha
          split at ha
          · cases ha
          · cases ha; exact idx_t1 _ _ _ _
        | _ => simp [act] at ha
      simp [fn_stepped, ex, ev, dst, den, denB, M.bnd, M.ret, M.no, newT, newL, fini, truthM, truth, Mi.isNon, bltD, tgt, setsR, wipeR, ptO, isiD, sizeLine, getL_app0, hfnd, hisv, hnv, hst, hmk, encSR, gc_app]
    | bad =>
      exfalso
      have gz := z2.g
      cases pl with
      | name x => simp [gd] at gz
      | num i => simp [RP.isVal] at hnv
      | shut a x b => simp [RP.isVal] at hnv
      | kept a ks => simp [RP.isVal] at hnv
      | call b f g => cases f <;> simp [act] at ha
      | plus b f g => cases f <;> cases g <;> simp [act] at ha
      | pick b c f g => cases c <;> simp [act] at ha
      | take b x c => simp only [act] at ha; split at ha <;> cases ha
      | _ => simp [act] at ha
end K13
namespace K13
open PySem PySem.Spec PyProof.Rows L2 Mi
variable {m : List SO} {k : Nat}

/-! ### the frames that are drawn -/
inductive Dfr : Fr → Prop where
  | adder (a i : Int) : Dfr (.adder a (.num i))
  | added (a i : Int) : Dfr (.added a (.num i))
  | given (a : Int) : Dfr (.given a (.shut a "x" (.name "x")))
  | picker (a i : Int) : Dfr (.picker a (.num 3) (.num i))
  | caller (a : Int) : Dfr (.caller a (.num 4))
  | round : Dfr .round
def frBy (x : Int) : Fr :=
  if x % 5 = 0 then .adder (x / 5 % 9990) (.num (x / 7 % 9)) else if x % 5 = 1 then .added (x / 5 % 9990) (.num (x / 7 % 9)) else
  if x % 5 = 2 then .given (x / 5 % 9990) (.shut (x / 5 % 9990) "x" (.name "x")) else if x % 5 = 3 then .picker (x / 5 % 9990) (.num 3) (.num (x / 7 % 9)) else .caller (x / 5 % 9990) (.num 4)
theorem frBy_ok (x : Int) : Dfr (frBy x) := by
  unfold frBy
  split
  · exact .adder _ _
  · split
    · exact .added _ _
    · split
      · exact .given _
      · split
        · exact .picker _ _
        · exact .caller _
theorem frBy_rd (x : Int) : (frBy x).isRd = false := by
  unfold frBy
  split
  · rfl
  · split
    · rfl
    · split
      · rfl
      · split <;> rfl
theorem run_frame_by (x : Int) (m : List SO) : run tb (k + 1) "_law_frame_by" [.int x] m = some (encF (frBy x), m) := by
  rw [run_at tb__law_frame_by k rfl]
  by_cases h0 : x % 5 = 0
  · simp [fn__law_frame_by, ex, ev, dst, den, denB, M.bnd, M.ret, M.no, newT, newL, fini, truthM, truth, Mi.isNon, bltD, tgt, setsR, wipeR, ptO, isiD, sizeLine, getL_app0, cmp_ints, frBy, h0, gc_same, encF, enc]
  · by_cases h1 : x % 5 = 1
    · simp [fn__law_frame_by, ex, ev, dst, den, denB, M.bnd, M.ret, M.no, newT, newL, fini, truthM, truth, Mi.isNon, bltD, tgt, setsR, wipeR, ptO, isiD, sizeLine, getL_app0, cmp_ints, frBy, h1, gc_same, encF, enc]
    · by_cases h2 : x % 5 = 2
      · simp [fn__law_frame_by, ex, ev, dst, den, denB, M.bnd, M.ret, M.no, newT, newL, fini, truthM, truth, Mi.isNon, bltD, tgt, setsR, wipeR, ptO, isiD, sizeLine, getL_app0, cmp_ints, frBy, h2, gc_same, encF, enc]
      · by_cases h3 : x % 5 = 3
        · simp [fn__law_frame_by, ex, ev, dst, den, denB, M.bnd, M.ret, M.no, newT, newL, fini, truthM, truth, Mi.isNon, bltD, tgt, setsR, wipeR, ptO, isiD, sizeLine, getL_app0, cmp_ints, frBy, h3, gc_same, encF, enc]
        · simp [fn__law_frame_by, ex, ev, dst, den, denB, M.bnd, M.ret, M.no, newT, newL, fini, truthM, truth, Mi.isNon, bltD, tgt, setsR, wipeR, ptO, isiD, sizeLine, getL_app0, cmp_ints, frBy, h0, h1, h2, h3, gc_same, encF, enc]
/-- a frame about something -/
def abT : Fr → D → List D
  | .caller a g, d => [.str "call", .int a, d, enc g]
  | .given a f, d => [.str "call", .int a, enc f, d]
  | .adder a g, d => [.str "plus", .int a, d, enc g]
  | .added a f, d => [.str "plus", .int a, enc f, d]
  | .picker a f g, d => [.str "pick", .int a, d, enc f, enc g]
  | .round, d => [.str "round", d]
theorem abT_fill (f : Fr) (q : RP) : D.tup (abT f (enc q)) = enc (Mi.fill f q) := by cases f <;> rfl
@[simp] theorem ltD_nd (n : Nat) (d : D) : ltD n (.nd d) = ltD n d := rfl
theorem run_about (f : Fr) {d : D} (hd : ∀ n, ltD n d = true) (m : List SO) : run tb (k + 1) "_law_about" [encF f, d] m = some (.nd (.tup (abT f d)), m) := by
  have i0 : ∀ Z : List SO, idxD (.loc Z.length) (.int 0) (Z ++ [.lst [.str "plus", .str "call"]]) = some (.str "plus", Z ++ [.lst [.str "plus", .str "call"]]) := fun Z => idx_loc (i := 0) (getL_app0 Z _ _) (by decide) rfl
  have i1 : ∀ Z : List SO, idxD (.loc Z.length) (.int 1) (Z ++ [.lst [.str "plus", .str "call"]]) = some (.str "call", Z ++ [.lst [.str "plus", .str "call"]]) := fun Z => idx_loc (i := 1) (getL_app0 Z _ _) (by decide) rfl
  rw [run_at tb__law_about k rfl]
  cases f <;> simp [fn__law_about, ex, ev, den, denB, dst, M.bnd, M.ret, newL, bltD, truthM, truth, fini, sizeLine, encF, abT, idx_hd, idx_t1, idx_t2, idx_t3, cmp_eqs, i0, i1, gc_same, gc_app, hd, lt_enc]
theorem encFs_get {c : Nat} {fs : List Fr} : ∀ {i : Nat} {f : Fr}, fs[i]? = some f → (encFs fs)[i]? = some (encF f) := fun {i f} h => by
  rw [encFs_map, List.getElem?_map, h]; rfl
def ibody : Sm := match sq1 fn__law_in.body with
  | .for_ _ _ _ b => b
  | s => s
theorem in_body : fn__law_in.body = .seq (.for_ (.nm 2) .one (.cons (.var 0) .nil) ibody) (.ret (.var 1)) := rfl
theorem in_loop {c : Nat} {ys : List D} (hc : getL m c = some ys) : ∀ (fs : List Fr) (q : RP) (x : Option D), ∃ x', forL (turnF (.nm 2) (ex (k + 1) (run tb (k + 1)) ibody).x) (some (c, ys)) (encFs fs) [some (.loc c), some (enc q), x] m = some ((.nx, [some (.loc c), some (enc (plug q fs)), x']), m)
  | [], q, x => ⟨x, by simp [encFs, forL, Still, getL_get hc]⟩
  | f :: fs, q, x => by
    obtain ⟨x', ih⟩ := in_loop hc fs (Mi.fill f q) (some (encF f))
    refine ⟨x', ?_⟩
    have hab := run_about (k := k) f (d := enc q) (fun n => lt_enc n q) m
    have ht : turnF (.nm 2) (ex (k + 1) (run tb (k + 1)) ibody).x (encF f) [some (.loc c), some (enc q), x] m = some ((.nx, [some (.loc c), some (enc (Mi.fill f q)), some (encF f)]), m) := by
      simp only [ibody, sq1, fn__law_in]
      simp [turnF, tgt, ex, dst, ev, den, M.bnd, M.ret, hab, abT_fill]
    simp [encFs, forL, Still, getL_get hc, ht, ih]
theorem run_in {c : Nat} {fs : List Fr} {q : RP} (hc : getL m c = some (encFs fs)) : run tb (k + 2) "_law_in" [.loc c, enc q] m = some (enc (plug q fs), m) := by
  rw [run_at tb__law_in (k + 1) rfl, in_body]
  show fini m ((ex (k + 1) (run tb (k + 1)) _).x [some (.loc c), some (enc q), none] m) = _
  obtain ⟨x', h⟩ := in_loop (k := k) hc fs q none
  have e1 : (ex (k + 1) (run tb (k + 1)) (.for_ (.nm 2) .one (.cons (.var 0) .nil) ibody)).x [some (.loc c), some (enc q), none] m = some ((.nx, [some (.loc c), some (enc (plug q fs)), x']), m) := by
    rw [ex_for (ds := [.loc c]) (m1 := m) (it := (encFs fs, some (c, encFs fs))) (m2 := m) (by simp [ev, den, M.bnd, M.ret]) (by simp [itemsD, hc])]
    exact h
  rw [ex_seq e1]
  simp [ex, dst, ev, den, M.bnd, M.ret, fini, gc_same, lt_enc]
/-! ### gone down one by one -/
theorem eq_tup {xs : List D} {ps : List PyData} (h : pds0 xs = some ps) (hl : PyData.canLayAll0 ps = true) (hd : PyData.depthAll ps ≤ 100) (m : List SO) : eqD k m (.tup xs) (.tup xs) = some true :=
  eqD_refl (a := .tuple ps) (by simp [pd, pd0, h]) (by simpa [PyData.canLay0] using hl) (by simp only [PyData.depth]; omega)
theorem ne_tup {xs : List D} (h : ∃ ps, pds0 xs = some ps ∧ PyData.canLayAll0 ps = true ∧ PyData.depthAll ps ≤ 100) (m : List SO) : cmpM k .ne (.tup xs) (.tup xs) m = some (false, m) := by
  obtain ⟨ps, h1, h2, h3⟩ := h
  simp [cmpM, cmpD, eq_tup h1 h2 h3]
def pos : Fr → Nat
  | .caller _ _ => 2
  | .given _ _ => 3
  | .adder _ _ => 2
  | .added _ _ => 3
  | .picker _ _ _ => 2
  | .round => 1
def pre (f : Fr) : List D := (abT f .non).take (pos f)
def post (f : Fr) : List D := (abT f .non).drop (pos f + 1)
theorem slc_pre (f : Fr) (d : D) (m : List SO) : slcD none (some ((pos f : Nat) : Int)) (.tup (abT f d)) m = some (.tup (pre f), m) := by
  cases f <;> simp [slcD, cut, pos, pre, abT, HT.sIx]
theorem slc_post (f : Fr) (d : D) (m : List SO) : slcD (some ((pos f : Nat) + 1 : Int)) none (.tup (abT f d)) m = some (.tup (post f), m) := by
  cases f <;> simp [slcD, cut, pos, post, abT, HT.sIx]
theorem idx_pos (f : Fr) (d : D) (m : List SO) : idxD (.tup (abT f d)) (.int (pos f)) m = some (d, m) := by
  cases f <;> simp [idxD, seqOf, atI, ixN, pos, abT]
theorem len_ab (f : Fr) (d d' : D) : (abT f d).length = (abT f d').length := by cases f <;> rfl
theorem pos_lt (f : Fr) (d : D) : pos f < (abT f d).length := by cases f <;> simp [pos, abT]
theorem ab_ok {f : Fr} (h : Dfr f) : ∃ ps, pds0 (abT f .non) = some ps ∧ PyData.canLayAll0 ps = true ∧ (abT f .non).findIdx? Mi.isNon = some (pos f) := by
  cases h <;> exact ⟨_, rfl, by simp [PyData.canLay0, PyData.canLayAll0], rfl⟩
theorem pre_ok {f : Fr} (h : Dfr f) : ∃ ps, pds0 (pre f) = some ps ∧ PyData.canLayAll0 ps = true ∧ PyData.depthAll ps ≤ 100 := by
  cases h <;> exact ⟨_, rfl, by simp [PyData.canLay0, PyData.canLayAll0], by simp [PyData.depth, PyData.depthAll]⟩
theorem post_ok {f : Fr} (h : Dfr f) : ∃ ps, pds0 (post f) = some ps ∧ PyData.canLayAll0 ps = true ∧ PyData.depthAll ps ≤ 100 := by
  cases h <;> exact ⟨_, rfl, by simp [PyData.canLay0, PyData.canLayAll0], by simp [PyData.depth, PyData.depthAll]⟩
def sbd : Sm := match sq1 fn__law_same.body with
  | .for_ _ _ _ b => b
  | s => s
theorem same_body : fn__law_same.body = .seq (.for_ (.nm 3) .one (.cons (.rvs (.var 1)) .nil) sbd) (.ret (.cmp .eq (.var 0) (.var 2))) := rfl
theorem same_turn {f : Fr} (hf : Dfr f) {q : RP} {C I x4 x5 : Option D} (m : List SO) : (ex (k + 1) (run tb (k + 1)) sbd).x [some (enc (Mi.fill f q)), C, I, some (encF f), x4, x5] m = some ((.nx, [some (enc q), C, I, some (encF f), some (.nd (.tup (abT f .non))), some (.int (pos f))]), m) := by
  have hab := run_about (k := k) f (d := .non) (fun _ => rfl) m
  have hix : methD .tindex (.nd (.tup (abT f .non))) [.non] m = some (.int (pos f), m) := by
    obtain ⟨ps, h1, h2, h3⟩ := ab_ok hf
    simp only [methD, h1, h2, h3, if_true]
  have hlen : ∀ d : D, bltD .len [.tup (abT f d)] m = some (.int (abT f d).length, m) := fun d => rfl
  have hl : (abT f (enc q)).length = (abT f .non).length := len_ab f _ _
  have hlt := pos_lt f .non
  have hn1 := ne_tup (k := k + 1) (pre_ok hf) m
  have hn2 := ne_tup (k := k + 1) (post_ok hf) m
  have hge : ¬ ((abT f .non).length : Int) ≤ (pos f : Int) := by omega
  have hne : ∀ a : Int, cmpM (k + 1) .ne (.int a) (.int a) m = some (false, m) := fun a => by simp [cmpM, cmpD, eqD_int]
  have hgc : cmpM (k + 1) .ge (.int (pos f)) (.int (abT f .non).length) m = some (false, m) := by simp [cmpM, cmpD, cmpI, hlt]
  have hisi : isiD (.tup (abT f (enc q))) "tuple" = some true := rfl
  have hp1 := slc_pre f (enc q) m
  have hp2 := slc_pre f .non m
  have hq1 := slc_post f (enc q) m
  have hq2 := slc_post f .non m
  have hi := idx_pos f (enc q) m
  rw [← abT_fill]
  simp only [sbd, sq1, fn__law_same]
  simp [ex, dst, ev, den, denB, M.bnd, M.ret, hab, hix, hlen, hl, hn1, hn2, hne, hgc, hisi, hp1, hp2, hq1, hq2, hi, ptO, truthM, truth]
theorem same_loop {C I : Option D} {c : Nat} {ys : List D} (hc : getL m c = some ys) : ∀ (fs : List Fr) (q : RP) (x3 x4 x5 : Option D), (∀ f ∈ fs, Dfr f) → ∃ y3 y4 y5, forL (turnF (.nm 3) (ex (k + 1) (run tb (k + 1)) sbd).x) (some (c, ys)) (encFs fs) [some (enc (plug q fs.reverse)), C, I, x3, x4, x5] m = some ((.nx, [some (enc q), C, I, y3, y4, y5]), m)
  | [], q, x3, x4, x5, _ => ⟨x3, x4, x5, by simp [encFs, forL, Still, getL_get hc]⟩
  | f :: fs, q, x3, x4, x5, h => by
    obtain ⟨y3, y4, y5, ih⟩ := same_loop (C := C) (I := I) hc fs q (some (encF f)) (some (.nd (.tup (abT f .non)))) (some (.int (pos f))) (fun g hg => h g (by simp [hg]))
    refine ⟨y3, y4, y5, ?_⟩
    have e : plug q (f :: fs).reverse = Mi.fill f (plug q fs.reverse) := by
      rw [List.reverse_cons, plug_app]; rfl
    have ht := same_turn (k := k) (h f (by simp)) (q := plug q fs.reverse) (C := C) (I := I) (x4 := x4) (x5 := x5) m
    rw [e]
    have ht' : turnF (.nm 3) (ex (k + 1) (run tb (k + 1)) sbd).x (encF f) [some (enc (Mi.fill f (plug q fs.reverse))), C, I, x3, x4, x5] m = some ((.nx, [some (enc (plug q fs.reverse)), C, I, some (encF f), some (.nd (.tup (abT f .non))), some (.int (pos f))]), m) := by
      simpa [turnF, tgt] using ht
    simp [encFs, forL, Still, getL_get hc, ht', ih]
theorem run_same {c : Nat} {fs : List Fr} {q : RP} (hc : getL m c = some (encFs fs)) (hf : ∀ f ∈ fs, Dfr f) (hq : q.all = true) (hd : q.dep ≤ 100) : run tb (k + 2) "_law_same" [enc (plug q fs), .loc c, enc q] m = some (.bl true, m) := by
  rw [run_at tb__law_same (k + 1) rfl, same_body]
  show fini m ((ex (k + 1) (run tb (k + 1)) _).x [some (enc (plug q fs)), some (.loc c), some (enc q), none, none, none] m) = _
  obtain ⟨M1, hM1⟩ : ∃ M1 : List SO, M1 = m ++ [.lst (encFs fs.reverse)] := ⟨_, rfl⟩
  have h1 : getL M1 m.length = some (encFs fs.reverse) := by rw [hM1]; exact getL_app0 m _ _
  obtain ⟨x3, x4, x5, h⟩ := same_loop (k := k) (m := M1) (C := some (.loc c)) (I := some (enc q)) h1 fs.reverse q none none none (fun f hm => hf f (List.mem_reverse.mp hm))
  rw [List.reverse_reverse] at h
  have e1 : (ex (k + 1) (run tb (k + 1)) (.for_ (.nm 3) .one (.cons (.rvs (.var 1)) .nil) sbd)).x [some (enc (plug q fs)), some (.loc c), some (enc q), none, none, none] m = some ((.nx, [some (enc q), some (.loc c), some (enc q), x3, x4, x5]), M1) := by
    rw [ex_for (ds := [.loc m.length]) (m1 := M1) (it := (encFs fs.reverse, some (m.length, encFs fs.reverse))) (m2 := M1) (by simp [ev, den, M.bnd, M.ret, hc, encFs_rev, hM1]) (by simp [itemsD, h1])]
    exact h
  have hE : eqD (k + 1) M1 (enc q) (enc q) = some true := eqD_enc hq (by omega)
  rw [ex_seq e1]
  simp [ex, dst, ev, den, denB, M.bnd, M.ret, cmpM, cmpD, hE, fini]
  rw [hM1]
  exact gc_app rfl
end K13
namespace Mi
open PySem PySem.Spec PyProof.Rows L2

/-! ### the way to the place, piece by piece -/
def inwI : RP → Int
  | .round b => if b.isVal then 0 else 1
  | .call _ f g => if f.isVal then (if g.isVal then 0 else 3) else 2
  | .plus _ f g => if f.isVal then (if g.isVal then 0 else 3) else 2
  | .pick _ c _ _ => if c.isVal then 0 else 2
  | _ => 0
def frOf (p : RP) : Fr := match ent p with
  | some r => r.2
  | none => .round
def upL : RP → List RP
  | .call a f g => if f.isVal then (if g.isVal then [] else .call a f g :: upL g) else .call a f g :: upL f
  | .plus a f g => if f.isVal then (if g.isVal then [] else .plus a f g :: upL g) else .plus a f g :: upL f
  | .pick a c f g => if c.isVal then [] else .pick a c f g :: upL c
  | .round b => if b.isVal then [] else .round b :: upL b
  | _ => []
theorem upL_some {p q : RP} {f : Fr} (h : ent p = some (q, f)) : upL p = p :: upL q ∧ frOf p = f ∧ 0 < inwI p ∧ ∀ m, idxD (enc p) (.int (inwI p)) m = some (enc q, m) := by
  have hf : frOf p = f := by unfold frOf; rw [h]
  refine ⟨?_, hf, ?_⟩
  · cases p with
    | call a x y =>
      simp only [ent] at h
      by_cases h1 : x.isVal = true
      · by_cases h2 : y.isVal = true
        · simp [h1, h2] at h
        · simp [h1, h2] at h; obtain ⟨rfl, rfl⟩ := h; simp [upL, h1, h2]
      · simp [h1] at h; obtain ⟨rfl, rfl⟩ := h; simp [upL, h1]
    | plus a x y =>
      simp only [ent] at h
      by_cases h1 : x.isVal = true
      · by_cases h2 : y.isVal = true
        · simp [h1, h2] at h
        · simp [h1, h2] at h; obtain ⟨rfl, rfl⟩ := h; simp [upL, h1, h2]
      · simp [h1] at h; obtain ⟨rfl, rfl⟩ := h; simp [upL, h1]
    | pick a c x y =>
      simp only [ent] at h
      by_cases h1 : c.isVal = true
      · simp [h1] at h
      · simp [h1] at h; obtain ⟨rfl, rfl⟩ := h; simp [upL, h1]
    | round b =>
      simp only [ent] at h
      by_cases h1 : b.isVal = true
      · simp [h1] at h
      · simp [h1] at h; obtain ⟨rfl, rfl⟩ := h; simp [upL, h1]
    | _ => simp [ent] at h
  · cases p with
    | call a x y =>
      simp only [ent] at h
      by_cases h1 : x.isVal = true
      · by_cases h2 : y.isVal = true
        · simp [h1, h2] at h
        · simp [h1, h2] at h; obtain ⟨rfl, rfl⟩ := h; simp [inwI, h1, h2, enc, idxD, seqOf, atI, ixN]
      · simp [h1] at h; obtain ⟨rfl, rfl⟩ := h; simp [inwI, h1, enc, idxD, seqOf, atI, ixN]
    | plus a x y =>
      simp only [ent] at h
      by_cases h1 : x.isVal = true
      · by_cases h2 : y.isVal = true
        · simp [h1, h2] at h
        · simp [h1, h2] at h; obtain ⟨rfl, rfl⟩ := h; simp [inwI, h1, h2, enc, idxD, seqOf, atI, ixN]
      · simp [h1] at h; obtain ⟨rfl, rfl⟩ := h; simp [inwI, h1, enc, idxD, seqOf, atI, ixN]
    | pick a c x y =>
      simp only [ent] at h
      by_cases h1 : c.isVal = true
      · simp [h1] at h
      · simp [h1] at h; obtain ⟨rfl, rfl⟩ := h; simp [inwI, h1, enc, idxD, seqOf, atI, ixN]
    | round b =>
      simp only [ent] at h
      by_cases h1 : b.isVal = true
      · simp [h1] at h
      · simp [h1] at h; obtain ⟨rfl, rfl⟩ := h; simp [inwI, h1, enc, idxD, seqOf, atI, ixN]
    | _ => simp [ent] at h
theorem upL_none {p : RP} (h : ent p = none) : upL p = [] ∧ inwI p = 0 := by
  cases p with
  | call a x y =>
    simp only [ent] at h
    by_cases h1 : x.isVal = true
    · by_cases h2 : y.isVal = true
      · simp [upL, inwI, h1, h2]
      · simp [h1, h2] at h
    · simp [h1] at h
  | plus a x y =>
    simp only [ent] at h
    by_cases h1 : x.isVal = true
    · by_cases h2 : y.isVal = true
      · simp [upL, inwI, h1, h2]
      · simp [h1, h2] at h
    · simp [h1] at h
  | pick a c x y =>
    simp only [ent] at h
    by_cases h1 : c.isVal = true
    · simp [upL, inwI, h1]
    · simp [h1] at h
  | round b =>
    simp only [ent] at h
    by_cases h1 : b.isVal = true
    · simp [upL, inwI, h1]
    · simp [h1] at h
  | _ => simp [upL, inwI]
theorem dec_up (p : RP) (fs : List Fr) : (dec p fs).2 = ((upL p).map frOf).reverse ++ fs ∧ (∀ q ∈ upL p, ∃ r, ent q = some r) ∧ ∀ gs, (dec p gs).1 = (dec p fs).1 :=
  dec_ind (P := fun p fs r => r.2 = ((upL p).map frOf).reverse ++ fs ∧ (∀ q ∈ upL p, ∃ r, ent q = some r) ∧ ∀ gs, (dec p gs).1 = r.1)
    (fun p fs h => by rw [(upL_none h).1]; exact ⟨rfl, by simp, fun gs => by rw [dec_none h]⟩)
    (fun p fs q f r h e ih => by
      obtain ⟨h1, h2, _⟩ := upL_some h
      rw [h1]
      refine ⟨?_, ?_, fun gs => ?_⟩
      · rw [ih.1]; simp [h2]
      · intro x hx
        rcases List.mem_cons.mp hx with rfl | hx
        · exact ⟨_, h⟩
        · exact ih.2.1 x hx
      · rw [dec_ent h]; exact ih.2.2 _) p fs
def encL (p : RP) : D := .tup [enc p, .int (inwI p)]
theorem lt_encL (n : Nat) (p : RP) : ltD n (encL p) = true := by simp [encL, lt_enc]
theorem lt_encLs (n : Nat) : ∀ L : List RP, ltDs n (L.map encL) = true
  | [] => by simp
  | p :: L => by simp [lt_encL, lt_encLs n L]
theorem word_round {p : RP} {r : RP × Fr} (h : ent p = some r) : (wordP p == "round") = (frOf p).isRd := by
  cases p with
  | call a x y =>
    unfold frOf; simp only [ent] at h ⊢
    by_cases h1 : x.isVal = true
    · by_cases h2 : y.isVal = true
      · simp [h1, h2] at h
      · simp [h1, h2, Fr.isRd, wordP]
    · simp [h1, Fr.isRd, wordP]
  | plus a x y =>
    unfold frOf; simp only [ent] at h ⊢
    by_cases h1 : x.isVal = true
    · by_cases h2 : y.isVal = true
      · simp [h1, h2] at h
      · simp [h1, h2, Fr.isRd, wordP]
    · simp [h1, Fr.isRd, wordP]
  | pick a c x y =>
    unfold frOf; simp only [ent] at h ⊢
    by_cases h1 : c.isVal = true
    · simp [h1] at h
    · simp [h1, Fr.isRd, wordP]
  | round b =>
    unfold frOf; simp only [ent] at h ⊢
    by_cases h1 : b.isVal = true
    · simp [h1] at h
    · simp [h1, Fr.isRd, wordP]
  | _ => simp [ent] at h
/-- a comprehension with a test, whose turns change nothing -/
theorem compL_filt {f : D → M (Option D)} {gg : Option (Nat × List D)} {m : List SO} (g : D → D) (c : D → Bool) (hs : ∀ acc, Still gg (m ++ [.lst acc])) : ∀ (xs : List D) {acc : List D}, (∀ x ∈ xs, ∀ acc, f x (m ++ [.lst acc]) = some (if c x = true then some (g x) else none, m ++ [.lst acc])) → acc.length + xs.length ≤ sizeLine →
    compL f gg m.length xs (m ++ [.lst acc]) = some ((), m ++ [.lst (acc ++ (xs.filter c).map g)])
  | [], acc, _, _ => by
    unfold compL
    rw [if_pos (hs _)]
    simp
  | x :: xs, acc, hf, hl => by
    unfold compL
    rw [if_pos (hs _), hf x (by simp) acc]
    have hl' : acc.length + (xs.length + 1) ≤ sizeLine := by simpa using hl
    cases hc : c x with
    | true =>
      simp only [if_true, getL_app0]
      rw [if_pos (by omega), set_app0]
      simp only [List.set_cons_zero]
      rw [compL_filt g c hs xs (fun y hy => hf y (by simp [hy])) (by simp; omega)]
      simp [hc]
    | false =>
      simp only [Bool.false_eq_true, if_false]
      rw [compL_filt g c hs xs (fun y hy => hf y (by simp [hy])) (by omega)]
      simp [hc]
/-- a comprehension's turn -/
noncomputable def turnC (k : Nat) (cf : Str → List D → M D) (own : List (Str × Nat)) (g : Tg) (cond elt : Ex) (r : Rho) : D → M (Option D) := fun x m => match tgt g x (wipeR r (own.map (·.2))) m with
  | none => none
  | some r1 => match cond with
    | .nil => ((ev k cf elt r1).v.bnd fun d => .ret (some d)) m
    | c => ((ev k cf c r1).t.bnd fun t => if t = true then (ev k cf elt r1).v.bnd fun d => .ret (some d) else .ret none) m
theorem evc_of {k : Nat} {cf : Str → List D → M D} {own : List (Str × Nat)} {g : Tg} {ik : Itk} {args cond elt : Ex} {r : Rho} {m m1 m2 m3 : List SO} {ds : List D} {it : List D × Option (Nat × List D)} (h1 : (ev k cf args r).l m = some (ds, m1)) (h2 : itemsD ik ds m1 = some (it, m2))
    (h3 : compL (turnC k cf own g cond elt r) it.2 m2.length it.1 (m2 ++ [.lst []]) = some ((), m3)) : (ev k cf (.comp own g ik args cond elt) r).v m = some (.loc m2.length, m3) := by
  have hcomp : ∀ (F : D → M (Option D)), F = turnC k cf own g cond elt r → compL F it.2 m2.length it.1 (m2 ++ [.lst []]) = some ((), m3) := fun F e => by rw [e]; exact h3
  simp only [ev, den, M.bnd, h1, h2]
  rw [hcomp _ ?_]
  funext x m
  unfold turnC
  cases tgt g x (wipeR r (own.map (·.2))) m with
  | none => rfl
  | some r1 => cases cond <;> rfl
theorem pds_ints {l : List Int} : pds0 (l.map D.int) = some (l.map PyData.int) := by
  induction l with
  | nil => rfl
  | cons a l ih => simp [pds0, pd0, ih]
theorem lay_ints {l : List Int} : PyData.canLayAll0 (l.map PyData.int) = true := by
  induction l with
  | nil => rfl
  | cons a l ih => simp [PyData.canLayAll0, PyData.canLay0, ih]
theorem pd_loc {m : List SO} {c : Nat} {xs : List D} (h : getL m c = some xs) : pd m (.loc c) = (pds0 xs).map .list := by
  have := getL_get h
  unfold pd
  simp [this]
theorem eqD_intl {k : Nat} {m : List SO} {c j : Nat} {l : List Int} (hc : getL m c = some (l.map .int)) (hj : getL m j = some []) : eqD k m (.loc c) (.loc j) = some l.isEmpty := by
  have p1 : pd m (.loc c) = some (.list (l.map PyData.int)) := by rw [pd_loc hc, pds_ints]; rfl
  have p2 : pd m (.loc j) = some (.list []) := by rw [pd_loc hj]; rfl
  unfold eqD
  rw [p1, p2]
  simp only
  rw [if_pos ⟨by simpa [PyData.canLay0] using lay_ints, by simp [PyData.canLay0, PyData.canLayAll0], by
    have : (PyData.list []).depth = 1 := by simp [PyData.depth, PyData.depthAll]
    omega⟩]
  cases l <;> simp [PyData.eqv, PyData.eqvAll]
/-- what becomes of a place but a take -/
def becR : RP → Option RP
  | .fun_ a x b => some (.shut a x b)
  | .round b => some b
  | .call _ (.shut _ x b) g => some (RP.put x g b)
  | .call _ (.kept _ ks) g => some (.round (plug g ks))
  | .plus _ (.num i) (.num j) => some (.num (i + j))
  | .pick _ (.num i) f g => some (if i = 0 then f else g)
  | _ => none
theorem cmp_in2 (k : Nat) (p : RP) (a b : String) (m : List SO) : cmpM k .in_ (.str (tagP p)) (.tup [.str (Str.ofString a), .str (Str.ofString b)]) m = some (a == wordP p || b == wordP p, m) := by
  simp [cmpM, cmpD, seqOf, flatD, inD, eqF, tagP]
theorem cmp_in3 (k : Nat) (p : RP) (a b c : String) (m : List SO) : cmpM k .in_ (.str (tagP p)) (.tup [.str (Str.ofString a), .str (Str.ofString b), .str (Str.ofString c)]) m = some (a == wordP p || (b == wordP p || c == wordP p), m) := by
  simp [cmpM, cmpD, seqOf, flatD, inD, eqF, tagP]
theorem cmp_gt (k : Nat) (a b : Int) (m : List SO) : cmpM k .gt (.int a) (.int b) m = some (decide (b < a), m) := by
  simp [cmpM, cmpD, cmpI]
/-- the last round's place -/
theorem last_rd {L : List RP} (hL : ∀ q ∈ L, ∃ r, ent q = some r) {hd tl : List Fr} (h : splitR ((L.map frOf).reverse) = some (hd, tl)) :
    ∃ A B, L = A ++ B ∧ (A.map frOf).reverse = tl ∧ (B.map frOf).reverse = hd ∧ 0 < A.length ∧ ∃ C, (List.range L.length).filter (fun i => wordP (L[i]?.getD (.num 0)) == "round") = C ++ [A.length - 1] := by
  obtain ⟨h1, h2, ⟨tl', h3⟩, _⟩ := split_ok h
  have e : L.map frOf = tl.reverse ++ hd.reverse := by
    rw [← List.reverse_reverse (L.map frOf), h1, List.reverse_append]
  obtain ⟨A, B, hAB, hA, hB⟩ := List.map_eq_append_iff.mp e
  subst hAB
  have hlen : A.length = tl.length := by have := congrArg List.length hA; simpa using this
  have hpos : 0 < A.length := by rw [hlen, h3]; simp
  refine ⟨A, B, rfl, by rw [hA]; simp, by rw [hB]; simp, hpos, ?_⟩
  obtain ⟨A', x, hA'⟩ : ∃ A' x, A = A' ++ [x] := ⟨A.dropLast, A.getLast (by intro z; simp [z] at hpos), (List.dropLast_concat_getLast _).symm⟩
  subst hA'
  have hx : frOf x = .round := by
    rw [h3, List.map_append, List.reverse_cons] at hA
    have := List.append_inj_right' hA rfl
    simpa using this
  have hxr := hL x (by simp)
  refine ⟨(List.range A'.length).filter (fun i => wordP ((A' ++ [x] ++ B)[i]?.getD (.num 0)) == "round"), ?_⟩
  have hl1 : (A' ++ [x] ++ B).length = A'.length + (1 + B.length) := by simp; omega
  rw [hl1, List.range_add, List.filter_append]
  congr 1
  rw [show 1 + B.length = B.length + 1 by omega, List.range_succ_eq_map]
  simp only [List.map_cons, List.filter_cons]
  have hw : (wordP ((A' ++ [x] ++ B)[A'.length + 0]?.getD (.num 0)) == "round") = true := by
    obtain ⟨r, hr⟩ := hxr
    have : (A' ++ [x] ++ B)[A'.length + 0]? = some x := by simp
    rw [this]
    show (wordP x == "round") = true
    rw [word_round hr, hx]; rfl
  rw [if_pos hw]
  simp only [Nat.add_zero, List.length_append, List.length_singleton, Nat.add_sub_cancel]
  congr 1
  rw [List.filter_eq_nil_iff]
  intro i hi
  simp only [List.map_map, List.mem_map, List.mem_range, Function.comp_apply] at hi
  obtain ⟨j, hj, rfl⟩ := hi
  have hb : (A' ++ [x] ++ B)[A'.length + (j + 1)]? = B[j]? := by
    rw [List.getElem?_append_right (by simp)]
    congr 1
    simp; omega
  simp only [Nat.succ_eq_add_one]
  rw [hb, List.getElem?_eq_getElem hj]
  obtain ⟨r, hr⟩ := hL B[j] (by simp)
  show ¬ (wordP B[j] == "round") = true
  rw [word_round hr]
  have : frOf B[j] ∈ hd := by
    have h5 : frOf B[j] ∈ B.map frOf := List.mem_map.mpr ⟨_, List.getElem_mem hj, rfl⟩
    rw [hB] at h5
    simpa using h5
  simp [h2 _ this]
theorem no_rd {L : List RP} (hL : ∀ q ∈ L, ∃ r, ent q = some r) (h : splitR ((L.map frOf).reverse) = none) : (List.range L.length).filter (fun i => wordP (L[i]?.getD (.num 0)) == "round") = [] := by
  rw [split_none] at h
  rw [List.filter_eq_nil_iff]
  intro i hi
  have hi := List.mem_range.mp hi
  rw [List.getElem?_eq_getElem hi]
  obtain ⟨r, hr⟩ := hL L[i] (List.getElem_mem hi)
  show ¬ (wordP L[i] == "round") = true
  rw [word_round hr]
  intro z
  have : ((L.map frOf).reverse).any Fr.isRd = true := by
    rw [List.any_eq_true]
    exact ⟨frOf L[i], by simp; exact ⟨_, List.getElem_mem hi, rfl⟩, z⟩
  rw [h] at this
  cases this

theorem act_bec {pl q : RP} {gs fs : List Fr} (ht : ∀ a x b, pl ≠ .take a x b) (h : act pl gs = .go q fs) : ∃ n, becR pl = some n ∧ plug q fs = plug n gs := by
  cases pl with
  | take a x b => exact absurd rfl (ht a x b)
  | call a f g =>
    cases f <;> simp [act] at h
    · obtain ⟨rfl, rfl⟩ := h; exact ⟨_, rfl, rfl⟩
    · obtain ⟨rfl, rfl⟩ := h; exact ⟨_, rfl, by rw [plug_app]; rfl⟩
  | plus a f g =>
    cases f <;> cases g <;> simp [act] at h
    obtain ⟨rfl, rfl⟩ := h; exact ⟨_, rfl, rfl⟩
  | pick a c f g =>
    cases c <;> simp [act] at h
    obtain ⟨rfl, rfl⟩ := h; exact ⟨_, rfl, rfl⟩
  | fun_ a x b => simp [act] at h; obtain ⟨rfl, rfl⟩ := h; exact ⟨_, rfl, rfl⟩
  | round b => simp [act] at h; obtain ⟨rfl, rfl⟩ := h; exact ⟨_, rfl, rfl⟩
  | _ => simp [act] at h
theorem act_stuck {pl : RP} {gs : List Fr} {a : Int} (h : act pl gs = .stuck a) : (∀ m, idxD (enc pl) (.int 1) m = some (.int a, m)) ∧ ((∀ a x b, pl ≠ .take a x b) → becR pl = none) := by
  have i1 : ∀ (w x : D) (xs : List D) m, idxD (.tup (w :: x :: xs)) (.int 1) m = some (x, m) := fun w x xs m => by
    unfold idxD; simp [seqOf, atI, ixN]
    have : (1 : Int) < (xs.length : Int) + 1 + 1 := by omega
    simp [this]
  cases pl with
  | take b x c =>
    simp only [act] at h
    split at h
    · cases h
    · cases h
      exact ⟨fun m => by simp only [enc]; exact i1 _ _ _ _, fun z => absurd rfl (z _ _ _)⟩
  | call b f g => cases f <;> simp [act] at h <;> subst h <;> exact ⟨fun m => by simp only [enc]; exact i1 _ _ _ _, fun _ => rfl⟩
  | plus b f g => cases f <;> cases g <;> simp [act] at h <;> subst h <;> exact ⟨fun m => by simp only [enc]; exact i1 _ _ _ _, fun _ => rfl⟩
  | pick b c f g => cases c <;> simp [act] at h <;> subst h <;> exact ⟨fun m => by simp only [enc]; exact i1 _ _ _ _, fun _ => rfl⟩
  | _ => simp [act] at h
theorem act_bad {S V : Nat} {pl : RP} {gs : List Fr} (g : gd S V pl []) (hv : pl.isVal = false) : act pl gs ≠ .bad := by
  intro h
  cases pl with
  | name x => simp [gd] at g
  | num i => simp [RP.isVal] at hv
  | shut a x b => simp [RP.isVal] at hv
  | kept a ks => simp [RP.isVal] at hv
  | call b f y => cases f <;> simp [act] at h
  | plus b f y => cases f <;> cases y <;> simp [act] at h
  | pick b c f y => cases c <;> simp [act] at h
  | take b x c => simp only [act] at h; split at h <;> cases h
  | _ => simp [act] at h
end Mi
namespace Mi
open PySem PySem.Spec PyProof.Rows L2

/-! ### a piece held against the rules -/
def kids : RP → List RP
  | .fun_ _ _ b => [b]
  | .take _ _ b => [b]
  | .call _ f g => [f, g]
  | .plus _ f g => [f, g]
  | .pick _ c f g => [c, f, g]
  | .round b => [b]
  | _ => []
def knotsL (l : List RP) : Nat := (l.map RP.knots).sum
theorem knots_kids (p : RP) : p.knots = knotsL (kids p) + 1 := by
  cases p <;> simp [kids, RP.knots, knotsL] <;> omega
theorem knots_pos (p : RP) : 0 < p.knots := by rw [knots_kids]; omega
theorem dp_kids {p q : RP} (h : q ∈ kids p) : q.dp + 1 ≤ p.dp := by
  cases p <;> simp [kids] at h
  all_goals (first | (subst h; simp [RP.dp]) | (rcases h with rfl | rfl | rfl <;> simp [RP.dp] <;> omega) | (rcases h with rfl | rfl <;> simp [RP.dp] <;> omega))
/-- a part of a piece -/
def pcs (p : RP) (sc : List Str) : Prop := pc p sc ∧ ∀ x ∈ sc, Nm x
def kidsSc (p : RP) (sc : List Str) : List Str := match p with
  | .fun_ _ x _ => x :: sc
  | .take _ x _ => x :: sc
  | _ => sc
theorem pcs_kids {p q : RP} {sc : List Str} (h : pcs p sc) (hq : q ∈ kids p) : pcs q (kidsSc p sc) := by
  obtain ⟨h, hs⟩ := h
  cases p <;> simp [kids] at hq <;> simp only [pc] at h
  case fun_ a x b => subst hq; exact ⟨h.2.2, nm_cons h.2.1 hs⟩
  case take a x b => subst hq; exact ⟨h.2.2, nm_cons h.2.1 hs⟩
  case round b => subst hq; exact ⟨h, hs⟩
  case call a f g => rcases hq with rfl | rfl; exact ⟨h.2.1, hs⟩; exact ⟨h.2.2, hs⟩
  case plus a f g => rcases hq with rfl | rfl; exact ⟨h.2.1, hs⟩; exact ⟨h.2.2, hs⟩
  case pick a c f g => rcases hq with rfl | rfl | rfl; exact ⟨h.2.1, hs⟩; exact ⟨h.2.2.1, hs⟩; exact ⟨h.2.2.2, hs⟩
theorem allL_true {f : D → M D} {m : List SO} : ∀ {xs : List D}, (∀ x ∈ xs, f x m = some (.bl true, m)) → allL f none xs m = some (.bl true, m)
  | [], _ => by unfold allL; rw [if_pos (by trivial)]
  | x :: xs, h => by
    unfold allL
    rw [if_pos (by trivial), h x (by simp)]
    exact allL_true fun y hy => h y (by simp [hy])
theorem low_sign {x : Str} (h : Nm x) {c : Nat} (hc : c ∈ x.cps.toList) : 97 ≤ c ∧ c ≤ 122 := h.1 c hc
theorem in_strs {x : Str} {l : List Str} : inD (.str x) (l.map D.str) = decide (x ∈ l) := by
  unfold inD
  rw [Bool.eq_iff_iff, List.any_eq_true, decide_eq_true_eq]
  constructor
  · rintro ⟨y, hy, e⟩
    obtain ⟨z, hz, rfl⟩ := List.mem_map.mp hy
    have : z = x := eq_of_beq e
    exact this ▸ hz
  · intro hx
    exact ⟨.str x, List.mem_map.mpr ⟨x, hx, rfl⟩, by simp [eqF]⟩
theorem flat_strs (l : List Str) : (l.map D.str).all flatD = true := by
  rw [List.all_eq_true]
  intro y hy
  obtain ⟨z, _, rfl⟩ := List.mem_map.mp hy
  rfl
theorem evG_of {k : Nat} {cf : Str → List D → M D} {own : List Str} {g : Tg} {ik : Itk} {args elt : Ex} {r : Rho} {m m1 m2 m3 : List SO} {ds : List D} {it : List D × Option (Nat × List D)} {d : D} (h1 : (ev k cf args r).l m = some (ds, m1)) (h2 : itemsD ik ds m1 = some (it, m2))
    (h3 : allL (aturn g own fun r1 => (ev k cf elt r1).v) it.2 it.1 m2 = some (d, m3)) : (ev k cf (.allG own g ik args elt) r).v m = some (d, m3) := by
  simp only [ev, den, M.bnd, h1, h2]
  exact h3
theorem slc_t1 (m : List SO) (a : D) (xs : List D) : slcD (some 1) none (.tup (a :: xs)) m = some (.tup xs, m) := by
  unfold slcD
  simp only
  have e : cut (a :: xs) (some 1) none = xs := by
    unfold cut HT.sIx
    simp
    try omega
  rw [e]
theorem gc_new {m l : List SO} {xs : List D} (h : ltDs m.length xs = true) : gc m (.loc m.length) (m ++ .lst xs :: l) = (.loc m.length, m ++ [.lst xs]) := by
  have hk : Kept m (m ++ .lst xs :: l) := ⟨by simp, fun i hi => .inl (by rw [List.getElem?_append_left hi])⟩
  have hn : ltD m.length (.loc m.length) ≠ true := by simp [ltD]
  unfold gc
  rw [if_pos hk, if_neg hn]
  simp [SO.vals, h]
theorem lt_encs (n : Nat) (l : List RP) : ltDs n (l.map enc) = true := by
  induction l with
  | nil => simp
  | cons a l ih => simp [lt_enc, ih]
/-- a for that appends to another list -/
theorem for_app {f : D → MS} {j n : Nat} {ys : List D} {E : Option D → Rho} (g : D → D) (hjn : n ≠ j)
    (hf : ∀ y ∈ ys, ∀ r5 M xs, getL M n = some xs → xs.length < sizeLine → f y (E r5) M = some ((.nx, E (some y)), M.set n (.lst (xs ++ [g y])))) :
    ∀ (zs : List D) (r5 : Option D) (M : List SO) (xs : List D), (∀ z ∈ zs, z ∈ ys) → M[j]? = some (.lst ys) → getL M n = some xs → xs.length + zs.length ≤ sizeLine →
      ∃ r5', forL f (some (j, ys)) zs (E r5) M = some ((.nx, E r5'), M.set n (.lst (xs ++ zs.map g)))
  | [], r5, M, xs, _, hj, hn, _ => ⟨r5, by
      unfold forL
      rw [if_pos (show Still (some (j, ys)) M from hj)]
      have := getL_get hn
      rw [List.map_nil, List.append_nil, set_getL hn]⟩
  | z :: zs, r5, M, xs, hz, hj, hn, hl => by
    have hl' : xs.length + (zs.length + 1) ≤ sizeLine := by simpa using hl
    have hj2 : (M.set n (.lst (xs ++ [g z])))[j]? = some (.lst ys) := by rw [List.getElem?_set_ne hjn]; exact hj
    obtain ⟨r5', h⟩ := for_app g hjn hf zs (some z) (M.set n (.lst (xs ++ [g z]))) (xs ++ [g z]) (fun w hw => hz w (by simp [hw])) hj2 (getL_set_same (getL_lt hn) _) (by simp; omega)
    refine ⟨r5', ?_⟩
    unfold forL
    rw [if_pos (show Still (some (j, ys)) M from hj), hf z (hz z (by simp)) r5 M xs hn (by omega)]
    simp only
    rw [h, List.set_set]
    simp
theorem wh_step {c : Rho → M Bool} {f : MS} {n : Nat} {r r' : Rho} {m m1 m' : List SO} {x} (hc : c r m = some (true, m1)) (hf : f r m1 = some ((.nx, r'), m')) (h : whN c f n r' m' = some x) : whN c f (n + 1) r m = some x := by
  simp only [whN, M.bnd, hc, if_true, hf, h]
theorem wh_end {c : Rho → M Bool} {f : MS} {n : Nat} {r : Rho} {m m1 : List SO} (hc : c r m = some (false, m1)) : whN c f (n + 1) r m = some ((.nx, r), m1) := by
  simp [whN, M.bnd, M.ret, hc]
theorem wh_rt {c : Rho → M Bool} {f : MS} {n : Nat} {r r' : Rho} {m m1 m' : List SO} {d : D} (hc : c r m = some (true, m1)) (hf : f r m1 = some ((.rt d, r'), m')) : whN c f (n + 1) r m = some ((.rt d, r'), m') := by
  simp [whN, M.bnd, hc, hf]
theorem var_t {k : Nat} {cf : Str → List D → M D} {i : Nat} {r : Rho} {m : List SO} {d : D} {b : Bool} (h : r[i]? = some (some d)) (ht : truth m d = some b) : (ev k cf (.var i) r).t m = some (b, m) := by
  simp [ev, den, M.bnd, truthM, h, ht]
theorem gc_newat {m l : List SO} {xs : List D} (h : ltDs m.length xs = true) : gc m (.loc (m ++ l).length) (m ++ l ++ [.lst xs]) = (.loc m.length, m ++ [.lst xs]) := by
  have hk : Kept m (m ++ l ++ [.lst xs]) := ⟨by simp, fun i hi => .inl (by rw [List.append_assoc, List.getElem?_append_left hi])⟩
  have hn : ltD m.length (.loc (m ++ l).length) ≠ true := by simp [ltD]
  have hg : (m ++ l ++ [SO.lst xs])[(m ++ l).length]? = some (.lst xs) := by simp
  unfold gc
  rw [if_pos hk, if_neg hn]
  simp only
  rw [hg]
  simp only
  rw [if_pos (show ltDs m.length (SO.lst xs).vals = true from h)]
  simp
/-- what is bound within -/
def bndIn (p : RP) (b : List Str) : List Str := match p with
  | .fun_ _ x _ => b ++ [x]
  | .take _ x _ => b ++ [x]
  | _ => b
def bndOk (p : RP) (b : List Str) : Prop := ∃ sc, pcs p sc ∧ ∀ x ∈ sc, x ∈ b
theorem bndOk_kids {p q : RP} {b : List Str} (h : bndOk p b) (hq : q ∈ kids p) : bndOk q (bndIn p b) := by
  obtain ⟨sc, h1, h2⟩ := h
  refine ⟨kidsSc p sc, pcs_kids h1 hq, ?_⟩
  cases p <;> simp [kids] at hq <;> simp [kidsSc, bndIn] <;> (try exact h2)
  all_goals exact fun a ha => .inl (h2 a ha)
theorem bndIn_len {p q : RP} {b : List Str} (hq : q ∈ kids p) : (bndIn p b).length + q.dp ≤ b.length + p.dp := by
  have := dp_kids hq
  cases p <;> simp [bndIn] <;> omega
theorem cmp_binds (k : Nat) (p : RP) (m : List SO) : cmpM k .in_ (.str (tagP p)) (.tup [.str "fun", .str "take"]) m = some ((match p with | .fun_ _ _ _ => true | .take _ _ _ => true | _ => false), m) := by
  cases p <;> simp [cmpM, cmpD, seqOf, flatD, inD, eqF, tagP, wordP]
theorem ex_whl {k : Nat} {cf : Str → List D → M D} {c : Ex} {a : Sm} {n : Nat} {r : Rho} {m : List SO} {x} (h : whN (fun r => (ev k cf c r).t) (ex k cf a).x n r m = some x) : (ex k cf (.whl c a)).x r m = some x := whC_of h
theorem ex_ret {k : Nat} {cf : Str → List D → M D} {e : Ex} {r : Rho} {m m' : List SO} {d : D} (h : (ev k cf e r).v m = some (d, m')) : (ex k cf (.ret e)).x r m = some ((.rt d, r), m') := by
  simp [ex, dst, M.bnd, M.ret, h]
end Mi
namespace Mi
open PySem PySem.Spec PyProof.Rows L2

/-! ### step by step -/
def LInv (j : Nat) (p : RP) : Prop := ∃ q fs a c, p = plug q fs ∧ a + c ≤ j ∧ ZI (28 + 28 * a) (32 + 31 * j) (28 + 28 * a + c * (28 + 28 * a)) q fs
theorem LInv.mono {j : Nat} {p : RP} (h : LInv j p) : LInv (j + 1) p := by
  obtain ⟨q, fs, a, c, h1, h2, z⟩ := h
  exact ⟨q, fs, a, c, h1, by omega, z.up (Nat.le_refl _) (by omega) (Nat.le_refl _)⟩
theorem LInv.step {j : Nat} {p p' : RP} (h : LInv j p) (hs : stepR p = .step p') : LInv (j + 1) p' := by
  obtain ⟨q, fs, a, c, h1, h2, z⟩ := h
  have hpr : ∀ f ∈ fs, prF f = true := fun f hf => (gdFs_mem.mp z.f f hf).pr
  unfold stepR at hs
  cases hv : p.isVal with
  | true => rw [hv] at hs; cases hs
  | false =>
    rw [hv] at hs
    have hfe : fnd q fs = dec p [] := by
      rw [fnd_plug hpr, ← h1]; unfold fnd; rw [hv]
    have z2 := z.fnd
    rw [hfe] at z2
    have he := dec_end p []
    simp only [Bool.false_eq_true, if_false] at hs
    cases ha : act (dec p []).1 (dec p []).2 with
    | go q' fs' =>
      rw [ha] at hs
      cases hs
      obtain ⟨T', E', hte, z3⟩ := z2.act he ha
      have hV : 32 + 31 * j + 31 = 32 + 31 * (j + 1) := by omega
      rw [hV] at z3
      rcases hte with ⟨rfl, rfl⟩ | ⟨rfl, rfl⟩
      · refine ⟨q', fs', a + 1, c, rfl, by omega, z3.up (by omega) (Nat.le_refl _) ?_⟩
        have : c * (28 + 28 * a) ≤ c * (28 + 28 * (a + 1)) := Nat.mul_le_mul_left _ (by omega)
        omega
      · refine ⟨q', fs', a, c + 1, rfl, by omega, z3.up (Nat.le_refl _) (Nat.le_refl _) ?_⟩
        rw [Nat.add_mul, Nat.one_mul]; omega
    | stuck a => rw [ha] at hs; cases hs
    | bad => rw [ha] at hs; cases hs
theorem LInv.first {p : RP} (g : gd 0 1 p []) (hd : p.dep ≤ 28) (hd2 : p.dp ≤ 27) : LInv 0 p :=
  ⟨p, [], 0, 0, rfl, Nat.le_refl _, ⟨g.mono (by omega) (by omega) (fun _ h => h), by omega, by simp [gdFs], by simp only [msg]; omega, by simp only [hgt]; omega, by omega⟩⟩
theorem bound24 : ∀ a, a ≤ 24 → ∀ c, c ≤ 24 - a → 28 + 28 * a + c * (28 + 28 * a) ≤ 4800 := by decide
theorem LInv.bounds {j : Nat} {p : RP} (hj : j ≤ 24) (h : LInv j p) : p.all = true ∧ p.dep ≤ 4800 + 776 := by
  obtain ⟨q, fs, a, c, h1, h2, z⟩ := h
  obtain ⟨g, hd⟩ := z.whole
  have := bound24 a (by omega) c (by omega)
  rw [h1]
  exact ⟨g.all, by omega⟩
/-- the place, and the frames about it -/
theorem LInv.at_ {j : Nat} {p : RP} (h : LInv j p) (hj : j ≤ 130) : ∃ T V E, ZI T V E (fnd p []).1 (fnd p []).2 ∧ T < 500000 ∧ E < 500000 := by
  obtain ⟨q, fs, a, c, h1, h2, z⟩ := h
  have hpr : ∀ f ∈ fs, prF f = true := fun f hf => (gdFs_mem.mp z.f f hf).pr
  have z2 := z.fnd
  rw [fnd_plug hpr, ← h1] at z2
  have : c * (28 + 28 * a) ≤ 130 * (28 + 28 * 130) := Nat.mul_le_mul (by omega) (by omega)
  exact ⟨_, _, _, z2, by omega, by omega⟩
theorem LInv.here {j : Nat} {p : RP} (h : LInv j p) (hj : j ≤ 130) : ∃ q fs T V E, p = plug q fs ∧ ZI T V E q fs ∧ T < 500000 ∧ E < 500000 := by
  obtain ⟨q, fs, a, c, h1, h2, z⟩ := h
  have : c * (28 + 28 * a) ≤ 130 * (28 + 28 * 130) := Nat.mul_le_mul (by omega) (by omega)
  exact ⟨q, fs, _, _, _, h1, z, by omega, by omega⟩
def doneR : SR → Bool
  | .step _ => false
  | _ => true
theorem step_cases {j : Nat} {p : RP} (h : LInv j p) (hj : j ≤ 130) : (p.isVal = true ∧ fnd p [] = (p, []) ∧ stepR p = .val p) ∨
    (p.isVal = false ∧ ent (fnd p []).1 = none ∧ (fnd p []).1.isVal = false ∧ ((∃ a, act (fnd p []).1 (fnd p []).2 = .stuck a ∧ stepR p = .stuck a) ∨ ∃ q fs, act (fnd p []).1 (fnd p []).2 = .go q fs ∧ stepR p = .step (plug q fs))) := by
  cases hv : p.isVal with
  | true => exact .inl ⟨rfl, by unfold fnd; rw [hv], by unfold stepR; rw [hv]; rfl⟩
  | false =>
    right
    have h0 : fnd p [] = dec p [] := by unfold fnd; rw [hv]
    obtain ⟨T, V, E, z, _, _⟩ := h.at_ hj
    rw [h0] at z ⊢
    refine ⟨rfl, dec_end p [], dec_nval [] hv, ?_⟩
    have hs : stepR p = match act (dec p []).1 (dec p []).2 with
      | .go q fs => .step (plug q fs)
      | .stuck a => .stuck a
      | .bad => .stuck 0 := by unfold stepR; rw [hv]; rfl
    have hnv := dec_nval [] hv
    have he := dec_end p []
    cases ha : act (dec p []).1 (dec p []).2 with
    | go q fs => right; exact ⟨q, fs, rfl, by rw [hs, ha]⟩
    | stuck a => left; exact ⟨a, rfl, by rw [hs, ha]⟩
    | bad =>
      exfalso
      have gz := z.g
      revert ha gz hnv he
      generalize (dec p []).1 = pl
      generalize (dec p []).2 = gs
      intro hnv he ha gz
      cases pl with
      | name x => simp [gd] at gz
      | num i => simp [RP.isVal] at hnv
      | shut a x b => simp [RP.isVal] at hnv
      | kept a ks => simp [RP.isVal] at hnv
      | call b f g => cases f <;> simp [act] at ha
      | plus b f g => cases f <;> cases g <;> simp [act] at ha
      | pick b c f g => cases c <;> simp [act] at ha
      | take b x c => simp only [act] at ha; split at ha <;> cases ha
      | _ => simp [act] at ha
theorem stuck_mark {pl : RP} {gs : List Fr} {a : Int} (ha : act pl gs = .stuck a) (M : List SO) : idxD (enc pl) (.int 1) M = some (.int a, M) := by
  have e1 : ∀ (a b : D) (xs : List D), idxD (.tup (a :: b :: xs)) (.int 1) M = some (b, M) := fun a b xs => by
    unfold idxD
    simp [seqOf, atI, ixN]
    rw [if_pos (by omega)]
    rfl
  cases pl with
  | call b f g => cases f <;> simp [act] at ha <;> subst ha <;> exact e1 _ _ _
  | plus b f g => cases f <;> cases g <;> simp [act] at ha <;> subst ha <;> exact e1 _ _ _
  | pick b c f g => cases c <;> simp [act] at ha <;> subst ha <;> exact e1 _ _ _
  | take b x c =>
    simp only [act] at ha
    split at ha
    · cases ha
    · cases ha; exact e1 _ _ _
  | _ => simp [act] at ha
theorem stuck_word {pl : RP} {gs : List Fr} {a : Int} (ha : act pl gs = .stuck a) : ∃ w xs, enc pl = .tup (.str (Str.ofString w) :: xs) ∧ w ≠ "num" ∧ w ≠ "shut" ∧ w ≠ "kept" := by
  cases pl with
  | call b f g => exact ⟨"call", _, by rw [enc], by decide, by decide, by decide⟩
  | plus b f g => exact ⟨"plus", _, by rw [enc], by decide, by decide, by decide⟩
  | pick b c f g => exact ⟨"pick", _, by rw [enc], by decide, by decide, by decide⟩
  | take b x c => exact ⟨"take", _, by rw [enc], by decide, by decide, by decide⟩
  | _ => simp [act] at ha
/-- what is told -/
def tellR : SR → D
  | .val (.num i) => .tup [.str "number", .int i]
  | .val (.shut a _ _) => .tup [.str "function", .int a]
  | .val (.kept a _) => .tup [.str "kept", .int a]
  | .val _ => .non
  | .stuck a => .tup [.str "stuck", .int a]
  | .step _ => .tup [.str "dry"]
def pathR : Nat → RP → List RP
  | 0, p => [p]
  | f + 1, p => match stepR p with
    | .step q => p :: pathR f q
    | _ => [p]
def lastS : Nat → RP → SR
  | 0, p => stepR p
  | f + 1, p => match stepR p with
    | .step q => lastS f q
    | s => s
def wdS : SR → Str
  | .val _ => "value" | .step _ => "step" | .stuck _ => "stuck"
def thS : SR → D
  | .val p => enc p | .step p => enc p | .stuck a => .int a
theorem encSR_eq (s : SR) : encSR s = .tup [.str (wdS s), thS s] := by cases s <;> simp [encSR, wdS, thS]
theorem lay_list {B : Nat} : ∀ {l : List RP}, (∀ p ∈ l, p.all = true ∧ p.dep ≤ B) → ∃ as, pds0 (l.map enc) = some as ∧ PyData.canLayAll0 as = true ∧ PyData.depthAll as ≤ B
  | [], _ => by simp [pds0, PyData.canLayAll0, PyData.depthAll]
  | p :: l, h => by
    obtain ⟨u, h1, h2, h3⟩ := lay_enc p (h p (by simp)).1
    obtain ⟨as, g1, g2, g3⟩ := lay_list fun q hq => h q (List.mem_cons_of_mem _ hq)
    have := (h p (by simp)).2
    refine ⟨u :: as, by simp [pds0, h1, g1], by simp [PyData.canLayAll0, h2, g2], ?_⟩
    simp [PyData.depthAll]
    omega
theorem eqD_rows {k a b : Nat} {m : List SO} {l : List RP} {B : Nat} (h : ∀ p ∈ l, p.all = true ∧ p.dep ≤ B) (hB : B + 1 ≤ 32 * k + 200) (ha : getL m a = some (l.map enc)) (hb : getL m b = some (l.map enc)) : eqD k m (.loc a) (.loc b) = some true := by
  obtain ⟨as, g1, g2, g3⟩ := lay_list h
  have e : ∀ n, getL m n = some (l.map enc) → pd m (.loc n) = some (.list as) := fun n hn => by
    have := getL_get hn
    simp only [pd, this, g1]
    rfl
  have hl : (PyData.list as).canLay0 = true := by simpa [PyData.canLay0] using g2
  have hd : (PyData.list as).depth ≤ 32 * k + 200 := by
    simp [PyData.depth]
    omega
  unfold eqD
  rw [e a ha, e b hb]
  simp only
  rw [if_pos ⟨hl, hl, by simpa using hd⟩, SeqAt.eqv_refl _ hl]
theorem path_inv : ∀ {e j : Nat} {p : RP}, LInv j p → ∀ q ∈ pathR e p, ∃ i, i ≤ j + e ∧ LInv i q
  | 0, j, p, h, q, hq => by
    simp [pathR] at hq
    subst hq
    exact ⟨j, by omega, h⟩
  | e + 1, j, p, h, q, hq => by
    unfold pathR at hq
    cases hs : stepR p with
    | step p' =>
      rw [hs] at hq
      rcases List.mem_cons.mp hq with rfl | hq
      · exact ⟨j, by omega, h⟩
      · obtain ⟨i, h1, h2⟩ := path_inv (h.step hs) q hq
        exact ⟨i, by omega, h2⟩
    | val v =>
      rw [hs] at hq
      simp at hq
      subst hq
      exact ⟨j, by omega, h⟩
    | stuck v =>
      rw [hs] at hq
      simp at hq
      subst hq
      exact ⟨j, by omega, h⟩
theorem path_hd (e : Nat) (p : RP) : p :: (pathR e p).tail = pathR e p := by
  cases e with
  | zero => rfl
  | succ e =>
    unfold pathR
    cases stepR p <;> rfl
theorem stepR_val {p v : RP} (h : stepR p = .val v) : v.isVal = true := by
  unfold stepR at h
  cases hv : p.isVal with
  | true => rw [hv] at h; cases h; exact hv
  | false =>
    rw [hv] at h
    simp only [Bool.false_eq_true, if_false] at h
    split at h <;> cases h
theorem lastS_val : ∀ {e : Nat} {p v : RP}, lastS e p = .val v → v.isVal = true
  | 0, p, v, h => stepR_val h
  | e + 1, p, v, h => by
    unfold lastS at h
    cases hs : stepR p with
    | step q => rw [hs] at h; exact lastS_val h
    | val q => rw [hs] at h; cases h; exact stepR_val hs
    | stuck q => rw [hs] at h; cases h
theorem told_cases {s : SR} (h : ∀ v, s = .val v → v.isVal = true) : (∃ i, s = .val (.num i)) ∨ (∃ a x b, s = .val (.shut a x b)) ∨ (∃ a fs, s = .val (.kept a fs)) ∨ (∃ a, s = .stuck a) ∨ ∃ q, s = .step q := by
  cases s with
  | val v =>
    have := h v rfl
    cases v <;> simp [RP.isVal] at this
    · exact .inl ⟨_, rfl⟩
    · exact .inr (.inl ⟨_, _, _, rfl⟩)
    · exact .inr (.inr (.inl ⟨_, _, rfl⟩))
  | stuck a => exact .inr (.inr (.inr (.inl ⟨a, rfl⟩)))
  | step q => exact .inr (.inr (.inr (.inr ⟨q, rfl⟩)))
theorem eqD_tell {k : Nat} {m : List SO} (s : SR) : eqD k m (tellR s) (tellR s) = some true := by
  have one : ∀ (w : String) (i : Int), eqD k m (.tup [.str (Str.ofString w), .int i]) (.tup [.str (Str.ofString w), .int i]) = some true := fun w i => by
    refine eqD_refl (a := .tuple [.str (Str.ofString w), .int i]) (by simp [pd, pd0, pds0]) (by simp [PyData.canLay0, PyData.canLayAll0]) (by simp [PyData.depth, PyData.depthAll])
  cases s with
  | val v =>
    cases v <;> first | exact one _ _ | exact eqD_refl (a := .none) (by simp [tellR, pd, pd0]) (by simp [PyData.canLay0]) (by simp [PyData.depth])
  | stuck a => exact one _ _
  | step q => exact eqD_refl (a := .tuple [.str "dry"]) (by simp [tellR, pd, pd0, pds0]) (by simp [PyData.canLay0, PyData.canLayAll0]) (by simp [PyData.depth, PyData.depthAll])
end Mi
namespace Mi
open PySem PySem.Spec PyProof.Rows L2

/-! ### values put in all at once -/
abbrev Sb := List (Str × RP)
def rmv (x : Str) (l : Sb) : Sb := l.filter fun p => !(p.1 == x)
def psub : RP → Sb → RP
  | .name y, l => match l.lookup y with
    | some v => v
    | none => .name y
  | .fun_ a y b, l => .fun_ a y (psub b (rmv y l))
  | .take a y b, l => .take a y (psub b (rmv y l))
  | .call a f g, l => .call a (psub f l) (psub g l)
  | .plus a f g, l => .plus a (psub f l) (psub g l)
  | .pick a c f g, l => .pick a (psub c l) (psub f l) (psub g l)
  | .round b, l => .round (psub b l)
  | p, _ => p
theorem psub_nil : ∀ p : RP, psub p [] = p
  | .num _ => rfl
  | .name _ => rfl
  | .fun_ _ _ b => by simp [psub, rmv, psub_nil b]
  | .take _ _ b => by simp [psub, rmv, psub_nil b]
  | .call _ f g => by simp [psub, psub_nil f, psub_nil g]
  | .plus _ f g => by simp [psub, psub_nil f, psub_nil g]
  | .pick _ c f g => by simp [psub, psub_nil c, psub_nil f, psub_nil g]
  | .round b => by simp [psub, psub_nil b]
  | .shut _ _ _ => rfl
  | .kept _ _ => rfl
theorem rmv_comm (x y : Str) (l : Sb) : rmv x (rmv y l) = rmv y (rmv x l) := by
  unfold rmv
  rw [List.filter_filter, List.filter_filter]
  congr 1
  funext p
  exact Bool.and_comm _ _
theorem rmv_same (x : Str) (l : Sb) : rmv x (rmv x l) = rmv x l := by
  unfold rmv
  rw [List.filter_filter]
  congr 1
  funext p
  exact Bool.and_self _
theorem lookup_rmv {x y : Str} (h : (y == x) = false) : ∀ l : Sb, (rmv x l).lookup y = l.lookup y
  | [] => rfl
  | (z, v) :: l => by
    unfold rmv
    rw [List.filter_cons]
    by_cases hz : (z == x) = true
    · have e : z = x := eq_of_beq hz
      simp only [hz, Bool.not_true, Bool.false_eq_true, if_false]
      rw [List.lookup_cons, e, h]
      exact lookup_rmv h l
    · have hz' : (z == x) = false := by simpa using hz
      simp only [hz', Bool.not_false, if_true]
      rw [List.lookup_cons, List.lookup_cons]
      cases y == z with
      | true => rfl
      | false => exact lookup_rmv h l
theorem lookup_rmv_same {x : Str} : ∀ l : Sb, (rmv x l).lookup x = none
  | [] => rfl
  | (z, v) :: l => by
    unfold rmv
    rw [List.filter_cons]
    by_cases hz : (z == x) = true
    · simp only [hz, Bool.not_true, Bool.false_eq_true, if_false]
      exact lookup_rmv_same l
    · have hz' : (z == x) = false := by simpa using hz
      have hz2 : (x == z) = false := by
        rw [beq_eq_false_iff_ne] at hz' ⊢
        exact Ne.symm hz'
      simp only [hz', Bool.not_false, if_true]
      rw [List.lookup_cons, hz2]
      exact lookup_rmv_same l
theorem lookup_memS {x : Str} {v : RP} : ∀ {l : Sb}, l.lookup x = some v → (x, v) ∈ l
  | (z, w) :: l, h => by
    rw [List.lookup_cons] at h
    cases hz : x == z with
    | true =>
      rw [hz] at h
      cases h
      rw [eq_of_beq hz]
      exact List.mem_cons_self
    | false =>
      rw [hz] at h
      exact List.mem_cons_of_mem _ (lookup_memS h)
theorem put_val {x : Str} {v w : RP} (h : w.isVal = true) : RP.put x v w = w := by
  cases w <;> first | rfl | (exact absurd h Bool.false_ne_true)
/-- one more name -/
theorem psub_cons {x : Str} {v : RP} : ∀ {b : RP} {l : Sb}, (∀ p ∈ l, p.2.isVal = true) → psub b ((x, v) :: l) = RP.put x v (psub b (rmv x l))
  | .num _, _, _ => rfl
  | .shut _ _ _, _, _ => rfl
  | .kept _ _, _, _ => rfl
  | .name y, l, hl => by
    simp only [psub, List.lookup_cons]
    cases hy : y == x with
    | true =>
      have e : y = x := eq_of_beq hy
      subst e
      simp [lookup_rmv_same, RP.put]
    | false =>
      simp only [lookup_rmv hy]
      cases hw : l.lookup y with
      | some w => rw [put_val (hl _ (lookup_memS hw))]
      | none => simp [RP.put, hy]
  | .fun_ a y b, l, hl => by
    have hr : ∀ z, ∀ p ∈ rmv z l, p.2.isVal = true := fun z p hp => hl p (List.mem_filter.mp hp).1
    cases hy : y == x with
    | true =>
      have e : y = x := eq_of_beq hy
      subst e
      simp only [psub, RP.put, hy, if_true]
      congr 1
      rw [rmv_same]
      congr 1
      simp [rmv]
    | false =>
      have hx : (x == y) = false := by
        rw [beq_eq_false_iff_ne] at hy ⊢
        exact Ne.symm hy
      simp only [psub, RP.put, hy, Bool.false_eq_true, if_false]
      congr 1
      have : rmv y ((x, v) :: l) = (x, v) :: rmv y l := by simp [rmv, hx]
      rw [this, psub_cons (hr y), rmv_comm]
  | .take a y b, l, hl => by
    have hr : ∀ z, ∀ p ∈ rmv z l, p.2.isVal = true := fun z p hp => hl p (List.mem_filter.mp hp).1
    cases hy : y == x with
    | true =>
      have e : y = x := eq_of_beq hy
      subst e
      simp only [psub, RP.put, hy, if_true]
      congr 1
      rw [rmv_same]
      congr 1
      simp [rmv]
    | false =>
      have hx : (x == y) = false := by
        rw [beq_eq_false_iff_ne] at hy ⊢
        exact Ne.symm hy
      simp only [psub, RP.put, hy, Bool.false_eq_true, if_false]
      congr 1
      have : rmv y ((x, v) :: l) = (x, v) :: rmv y l := by simp [rmv, hx]
      rw [this, psub_cons (hr y), rmv_comm]
  | .call _ f g, l, hl => by simp only [psub, RP.put]; rw [psub_cons hl, psub_cons hl]
  | .plus _ f g, l, hl => by simp only [psub, RP.put]; rw [psub_cons hl, psub_cons hl]
  | .pick _ c f g, l, hl => by simp only [psub, RP.put]; rw [psub_cons hl, psub_cons hl, psub_cons hl]
  | .round b, l, hl => by simp only [psub, RP.put]; rw [psub_cons hl]
end Mi
namespace Mi
open PySem PySem.Spec PyProof.Rows L2

/-! ### the machine's states -/
mutual
inductive HD where
  | pc (p : RP) (e : EN) | num (i : Int) | clo (a : Int) (x : Str) (b : RP) (e : EN) (n : Nat) | kep (a : Int) (r : NR) (n : Nat)
inductive EN where
  | nil | cons (x : Str) (h : HD) (e : EN)
inductive MF where
  | caller (a : Int) (h : HD) | given (a : Int) (h : HD) | adder (a : Int) (h : HD) | added (a : Int) (h : HD) | picker (a : Int) (h g : HD)
inductive NR where
  | nil | cons (f : MF) (r : NR)
end
mutual
def encH : HD → D
  | .pc p e => .tup [enc p, encE e, .int 0]
  | .num i => .tup [.tup [.str "num", .int i], .non, .int 0]
  | .clo a x b e n => .tup [.tup [.str "shut", .int a, .str x, enc b], encE e, .int n]
  | .kep a r n => .tup [.tup [.str "kept", .int a, encN r], .non, .int n]
def encE : EN → D
  | .nil => .non
  | .cons x h e => .tup [.str x, encH h, encE e]
def encM : MF → D
  | .caller a h => .tup [.str "caller", .int a, encH h]
  | .given a h => .tup [.str "given", .int a, encH h]
  | .adder a h => .tup [.str "adder", .int a, encH h]
  | .added a h => .tup [.str "added", .int a, encH h]
  | .picker a h g => .tup [.str "picker", .int a, encH h, encH g]
def encN : NR → D
  | .nil => .non
  | .cons f r => .tup [encM f, encN r]
end
def encBy : List NR → D
  | [] => .non
  | r :: b => .tup [encN r, encBy b]
structure MS1 where
  h : HD
  r : NR
  b : List NR
  s : Nat
def encS (s : MS1) : D := .tup [encH s.h, encN s.r, encBy s.b, .int s.s]
mutual
theorem lt_encH (n : Nat) : ∀ h : HD, ltD n (encH h) = true
  | .pc p e => by simp [encH, lt_enc, lt_encE n e]
  | .num i => by simp [encH]
  | .clo a x b e _ => by simp [encH, lt_enc, lt_encE n e]
  | .kep a r _ => by simp [encH, lt_encN n r]
theorem lt_encE (n : Nat) : ∀ e : EN, ltD n (encE e) = true
  | .nil => by simp [encE]
  | .cons x h e => by simp [encE, lt_encH n h, lt_encE n e]
theorem lt_encM (n : Nat) : ∀ f : MF, ltD n (encM f) = true
  | .caller a h => by simp [encM, lt_encH n h]
  | .given a h => by simp [encM, lt_encH n h]
  | .adder a h => by simp [encM, lt_encH n h]
  | .added a h => by simp [encM, lt_encH n h]
  | .picker a h g => by simp [encM, lt_encH n h, lt_encH n g]
theorem lt_encN (n : Nat) : ∀ r : NR, ltD n (encN r) = true
  | .nil => by simp [encN]
  | .cons f r => by simp [encN, lt_encM n f, lt_encN n r]
end
theorem lt_encBy (n : Nat) : ∀ b : List NR, ltD n (encBy b) = true
  | [] => by simp [encBy]
  | r :: b => by simp [encBy, lt_encN n r, lt_encBy n b]
theorem lt_encS (n : Nat) (s : MS1) : ltD n (encS s) = true := by simp [encS, lt_encH, lt_encN, lt_encBy]
/-! ### the running piece for which it stands -/
mutual
def uH : HD → RP
  | .pc p e => psub p (uE e)
  | .num i => .num i
  | .clo a x b e _ => .shut a x (psub b (rmv x (uE e)))
  | .kep a r _ => .kept a (uN r)
def uE : EN → Sb
  | .nil => []
  | .cons x h e => (x, uH h) :: uE e
def uM : MF → Fr
  | .caller a h => .caller a (uH h)
  | .given a h => .given a (uH h)
  | .adder a h => .adder a (uH h)
  | .added a h => .added a (uH h)
  | .picker a h g => .picker a (uH h) (uH g)
def uN : NR → List Fr
  | .nil => []
  | .cons f r => uM f :: uN r
end
def uB : List NR → List Fr
  | [] => []
  | r :: b => .round :: (uN r ++ uB b)
def uS (s : MS1) : RP × List Fr := (uH s.h, uN s.r ++ uB s.b)
def HD.isVal : HD → Bool
  | .pc _ _ => false
  | _ => true
theorem uM_nrd : ∀ f : MF, (uM f).isRd = false := fun f => by cases f <;> simp [uM, Fr.isRd]
theorem splitR_near {r : NR} {fs : List Fr} : splitR (uN r ++ .round :: fs) = some (uN r, .round :: fs) := by
  have key : ∀ (gs : List Fr), (∀ f ∈ gs, f.isRd = false) → splitR (gs ++ .round :: fs) = some (gs, .round :: fs) := by
    intro gs
    induction gs with
    | nil => intro _; simp [splitR, Fr.isRd]
    | cons f gs ih =>
      intro h
      have h1 := h f (by simp)
      simp only [List.cons_append, splitR, h1, Bool.false_eq_true, if_false]
      rw [ih fun g hg => h g (by simp [hg])]
      rfl
  exact key _ (all_nrd r)
where
  all_nrd : ∀ r : NR, ∀ f ∈ uN r, f.isRd = false
    | .nil, f, hf => by simp [uN] at hf
    | .cons g r, f, hf => by
      simp only [uN, List.mem_cons] at hf
      rcases hf with rfl | hf
      · exact uM_nrd g
      · exact all_nrd r f hf
/-! ### one move -/
/-- what a name means -/
def EN.get : EN → Str → Option HD
  | .nil, _ => none
  | .cons x h e, y => if x == y then some h else e.get y
/-- what is held of a piece -/
def hold : RP → EN → Option HD
  | .name y, e => e.get y
  | .num i, _ => some (.num i)
  | p, e => some (.pc p e)
inductive Mv where
  | to (s : MS1) | stop | bad
def hold1 (o : Option HD) (f : HD → MS1) : Mv := match o with
  | some h => .to (f h)
  | none => .bad
def callM (f v : HD) (r : NR) (b : List NR) (s : Nat) : Mv := match f with
  | .clo _ x c e _ => hold1 (hold c (.cons x v e)) fun h => ⟨h, r, b, s + 1⟩
  | .kep _ k _ => .to ⟨v, k, r :: b, s + 1⟩
  | _ => .stop
def entM (p : RP) (e : EN) (r : NR) (b : List NR) (s : Nat) : Mv := match p with
  | .fun_ a x c => .to ⟨.clo a x c e (s + 1), r, b, s + 1⟩
  | .call a f g => match hold f e, hold g e with
    | some f, some g => .to ⟨f, .cons (.caller a g) r, b, s⟩
    | _, _ => .bad
  | .plus a f g => match hold f e, hold g e with
    | some f, some g => .to ⟨f, .cons (.adder a g) r, b, s⟩
    | _, _ => .bad
  | .pick a c f g => match hold c e, hold f e, hold g e with
    | some c, some f, some g => .to ⟨c, .cons (.picker a f g) r, b, s⟩
    | _, _, _ => .bad
  | .round c => hold1 (hold c e) fun h => ⟨h, .nil, r :: b, s⟩
  | .take a x c => match b with
    | [] => .stop
    | b => hold1 (hold c (.cons x (.kep a r (s + 1)) e)) fun h => ⟨h, .nil, b, s + 1⟩
  | _ => .bad
def retM (v : HD) (f : MF) (r : NR) (b : List NR) (s : Nat) : Mv := match f with
  | .caller a h => .to ⟨h, .cons (.given a v) r, b, s⟩
  | .given _ h => callM h v r b s
  | .adder a h => .to ⟨h, .cons (.added a v) r, b, s⟩
  | .added _ h => match h, v with
    | .num i, .num j => .to ⟨.num (i + j), r, b, s + 1⟩
    | _, _ => .stop
  | .picker _ h g => match v with
    | .num i => .to ⟨if i = 0 then h else g, r, b, s + 1⟩
    | _ => .stop
def move (s : MS1) : Mv := match s.h with
  | .pc p e => entM p e s.r s.b s.s
  | v => match s.r with
    | .cons f r => retM v f r s.b s.s
    | .nil => match s.b with
      | r :: b => .to ⟨v, r, b, s.s + 1⟩
      | [] => .stop
end Mi
namespace Mi
open PySem PySem.Spec PyProof.Rows L2

def EN.dom : EN → List Str
  | .nil => []
  | .cons x _ e => x :: e.dom
def notLeaf : RP → Bool
  | .name _ => false
  | .num _ => false
  | _ => true
/-- a piece whose names are bound -/
def bndE (p : RP) (e : EN) : Prop := ∃ sc, pcs p sc ∧ ∀ x ∈ sc, x ∈ e.dom
mutual
def wH : HD → Prop
  | .pc p e => notLeaf p = true ∧ bndE p e ∧ wE e
  | .num _ => True
  | .clo _ x b e _ => Nm x ∧ (∃ sc, pcs b sc ∧ ∀ y ∈ sc, y = x ∨ y ∈ e.dom) ∧ wE e
  | .kep _ r _ => wN r
def wE : EN → Prop
  | .nil => True
  | .cons x h e => h.isVal = true ∧ wH h ∧ wE e ∧ Nm x
def wM : MF → Prop
  | .caller _ h => wH h
  | .given _ h => h.isVal = true ∧ wH h
  | .adder _ h => wH h
  | .added _ h => h.isVal = true ∧ wH h
  | .picker _ h g => wH h ∧ wH g
def wN : NR → Prop
  | .nil => True
  | .cons f r => wM f ∧ wN r
end
def wS (s : MS1) : Prop := wH s.h ∧ wN s.r ∧ ∀ r ∈ s.b, wN r
theorem uH_val : ∀ {h : HD}, wH h → (uH h).isVal = h.isVal
  | .pc p e, w => by
    simp only [wH] at w
    obtain ⟨w1, ⟨sc, w2, _⟩, _⟩ := w
    cases p <;> first | (exact absurd w1 Bool.false_ne_true) | (simp [uH, psub, RP.isVal, HD.isVal]; done) | (exact absurd w2.1 (by simp [pc]))
  | .num _, _ => by simp [uH, RP.isVal, HD.isVal]
  | .clo _ _ _ _ _, _ => by simp [uH, RP.isVal, HD.isVal]
  | .kep _ _ _, _ => by simp [uH, RP.isVal, HD.isVal]
theorem uE_vals : ∀ {e : EN}, wE e → ∀ p ∈ uE e, p.2.isVal = true
  | .nil, _, p, hp => by simp [uE] at hp
  | .cons x h e, w, p, hp => by
    simp only [wE] at w
    simp only [uE, List.mem_cons] at hp
    rcases hp with rfl | hp
    · rw [uH_val w.2.1]; exact w.1
    · exact uE_vals w.2.2.1 p hp
theorem get_ok : ∀ {e : EN} {y : Str}, wE e → y ∈ e.dom → ∃ h, e.get y = some h ∧ h.isVal = true ∧ wH h ∧ (uE e).lookup y = some (uH h)
  | .nil, y, _, hy => by simp [EN.dom] at hy
  | .cons x h e, y, w, hy => by
    simp only [wE] at w
    simp only [EN.get, uE, List.lookup_cons]
    by_cases hx : x = y
    · subst hx
      exact ⟨h, by simp, w.1, w.2.1, by simp⟩
    · have h1 : (x == y) = false := beq_eq_false_iff_ne.mpr hx
      have h2 : (y == x) = false := beq_eq_false_iff_ne.mpr (Ne.symm hx)
      simp only [EN.dom, List.mem_cons] at hy
      rw [h1, h2]
      rcases hy with hy | hy
      · exact absurd hy.symm hx
      · exact get_ok w.2.2.1 hy
/-- what is held of a piece -/
theorem hold_ok {p : RP} {e : EN} (hb : bndE p e) (w : wE e) : ∃ h, hold p e = some h ∧ wH h ∧ uH h = psub p (uE e) := by
  obtain ⟨sc, h1, h2⟩ := hb
  cases p with
  | name y =>
    have hy : y ∈ sc := by simpa [pc] using h1.1
    obtain ⟨h, k1, _, k3, k4⟩ := get_ok w (h2 y hy)
    exact ⟨h, by simpa [hold] using k1, k3, by simp [psub, k4]⟩
  | num i => exact ⟨.num i, rfl, by simp [wH], by simp [uH, psub]⟩
  | shut _ _ _ => exact absurd h1.1 (by simp [pc])
  | kept _ _ => exact absurd h1.1 (by simp [pc])
  | _ => exact ⟨_, rfl, by simp only [wH]; exact ⟨rfl, ⟨sc, h1, h2⟩, w⟩, by simp [uH]⟩
end Mi
namespace Mi
open PySem PySem.Spec PyProof.Rows L2
theorem bndE_kid {p q : RP} {e : EN} (h : bndE p e) (hq : q ∈ kids p) (hk : ∀ sc, kidsSc p sc = sc) : bndE q e := by
  obtain ⟨sc, h1, h2⟩ := h
  have := pcs_kids h1 hq
  rw [hk] at this
  exact ⟨sc, this, h2⟩
/-- what admin moves use up -/
def wt : HD → Nat
  | .pc p _ => 2 * p.knots
  | _ => 0
def wtM : MF → Nat
  | .caller _ h => 1 + wt h
  | .adder _ h => 1 + wt h
  | _ => 0
def wtN : NR → Nat
  | .nil => 0
  | .cons f r => wtM f + wtN r
def wtB : List NR → Nat
  | [] => 0
  | r :: b => wtN r + wtB b
def mu (s : MS1) : Nat := wt s.h + wtN s.r + wtB s.b
theorem get_wt : ∀ {e : EN} {y : Str} {h : HD}, wE e → e.get y = some h → wt h = 0
  | .nil, y, h, _, hg => by simp [EN.get] at hg
  | .cons x g e, y, h, w, hg => by
    simp only [wE] at w
    simp only [EN.get] at hg
    split at hg
    · cases hg
      have := w.1
      cases g <;> first | rfl | (exact absurd this Bool.false_ne_true)
    · exact get_wt w.2.2.1 hg
theorem wt_hold {p : RP} {e : EN} {h : HD} (hh : hold p e = some h) (w : wE e) : wt h ≤ 2 * p.knots := by
  cases p with
  | name y => rw [get_wt w (by simpa [hold] using hh)]; omega
  | num i => cases hh; simp [wt]
  | _ => cases hh; simp [wt]
def markM : MF → Int
  | .caller a _ => a | .given a _ => a | .adder a _ => a | .added a _ => a | .picker a _ _ => a
def SimTo (S S' : MS1) : Prop := wS S' ∧ ((S'.s = S.s ∧ plug (uS S').1 (uS S').2 = plug (uS S).1 (uS S).2 ∧ mu S' < mu S) ∨
  (S'.s = S.s + 1 ∧ act (fnd (uS S).1 (uS S).2).1 (fnd (uS S).1 (uS S).2).2 = .go (uS S').1 (uS S').2))
def SimStop (S : MS1) : Prop := (S.h.isVal = true ∧ S.r = .nil ∧ S.b = []) ∨ ∃ a, act (fnd (uS S).1 (uS S).2).1 (fnd (uS S).1 (uS S).2).2 = .stuck a ∧
  ((S.h.isVal = true ∧ ∃ f r, S.r = .cons f r ∧ markM f = a) ∨ ∃ x c e, S.h = .pc (.take a x c) e)
def SimMv (S : MS1) : Mv → Prop
  | .to S' => SimTo S S'
  | .stop => SimStop S
  | .bad => False
theorem fnd_nv {q : RP} {fs : List Fr} (h : q.isVal = false) : fnd q fs = dec q fs := by unfold fnd; rw [h]
theorem fnd_v {q : RP} {f : Fr} {fs : List Fr} (h : q.isVal = true) : fnd q (f :: fs) = dec (fill f q) fs := by unfold fnd; rw [h]
end Mi
namespace Mi
open PySem PySem.Spec PyProof.Rows L2

theorem wt_pc (p : RP) (e : EN) : wt (.pc p e) = 2 * p.knots := rfl
theorem ent_ok {p : RP} {e : EN} {r : NR} {b : List NR} {s : Nat} (w : wS ⟨.pc p e, r, b, s⟩) : SimMv ⟨.pc p e, r, b, s⟩ (entM p e r b s) := by
  obtain ⟨w1, w2, w3⟩ := w
  simp only [wH] at w1
  obtain ⟨n1, n2, n3⟩ := w1
  cases p with
  | name y => exact absurd n1 Bool.false_ne_true
  | num i => exact absurd n1 Bool.false_ne_true
  | shut a x c => obtain ⟨sc, h1, _⟩ := n2; exact absurd h1.1 (by simp [pc])
  | kept a fs => obtain ⟨sc, h1, _⟩ := n2; exact absurd h1.1 (by simp [pc])
  | fun_ a x c =>
    obtain ⟨sc, h1, h2⟩ := n2
    have hc := pcs_kids (q := c) h1 (by simp [kids])
    have hx : Nm x := by have := h1.1; simp only [pc] at this; exact this.2.1
    refine ⟨⟨?_, w2, w3⟩, .inr ⟨rfl, ?_⟩⟩
    · simp only [wH]
      refine ⟨hx, ⟨x :: sc, hc, fun y hy => ?_⟩, n3⟩
      rcases List.mem_cons.mp hy with h | h
      · exact .inl h
      · exact .inr (h2 y h)
    · simp only [uS, uH, psub]
      rw [fnd_nv rfl]
      simp [dec, act]
  | call a f g =>
    obtain ⟨f', hf1, hf2, hf3⟩ := hold_ok (bndE_kid (q := f) n2 (by simp [kids]) fun _ => rfl) n3
    obtain ⟨g', hg1, hg2, hg3⟩ := hold_ok (bndE_kid (q := g) n2 (by simp [kids]) fun _ => rfl) n3
    have k1 := wt_hold hf1 n3
    have k2 := wt_hold hg1 n3
    simp only [entM, hf1, hg1]
    refine ⟨⟨hf2, ?_, w3⟩, .inl ⟨rfl, ?_, ?_⟩⟩
    · simp only [wN, wM]; exact ⟨hg2, w2⟩
    · simp [uS, uH, uN, uM, psub, hf3, hg3, fill]
    · simp [mu, wt_pc, wtN, wtM, RP.knots]; omega
  | plus a f g =>
    obtain ⟨f', hf1, hf2, hf3⟩ := hold_ok (bndE_kid (q := f) n2 (by simp [kids]) fun _ => rfl) n3
    obtain ⟨g', hg1, hg2, hg3⟩ := hold_ok (bndE_kid (q := g) n2 (by simp [kids]) fun _ => rfl) n3
    have k1 := wt_hold hf1 n3
    have k2 := wt_hold hg1 n3
    simp only [entM, hf1, hg1]
    refine ⟨⟨hf2, ?_, w3⟩, .inl ⟨rfl, ?_, ?_⟩⟩
    · simp only [wN, wM]; exact ⟨hg2, w2⟩
    · simp [uS, uH, uN, uM, psub, hf3, hg3, fill]
    · simp [mu, wt_pc, wtN, wtM, RP.knots]; omega
  | pick a c f g =>
    obtain ⟨c', hc1, hc2, hc3⟩ := hold_ok (bndE_kid (q := c) n2 (by simp [kids]) fun _ => rfl) n3
    obtain ⟨f', hf1, hf2, hf3⟩ := hold_ok (bndE_kid (q := f) n2 (by simp [kids]) fun _ => rfl) n3
    obtain ⟨g', hg1, hg2, hg3⟩ := hold_ok (bndE_kid (q := g) n2 (by simp [kids]) fun _ => rfl) n3
    have k1 := wt_hold hc1 n3
    simp only [entM, hc1, hf1, hg1]
    refine ⟨⟨hc2, ?_, w3⟩, .inl ⟨rfl, ?_, ?_⟩⟩
    · simp only [wN, wM]; exact ⟨⟨hf2, hg2⟩, w2⟩
    · simp [uS, uH, uN, uM, psub, hc3, hf3, hg3, fill]
    · simp [mu, wt_pc, wtN, wtM, RP.knots]; omega
  | round c =>
    obtain ⟨c', hc1, hc2, hc3⟩ := hold_ok (bndE_kid (q := c) n2 (by simp [kids]) fun _ => rfl) n3
    have k1 := wt_hold hc1 n3
    simp only [entM, hc1, hold1]
    refine ⟨⟨hc2, ?_, ?_⟩, .inl ⟨rfl, ?_, ?_⟩⟩
    · simp [wN]
    · intro r' hr'
      rcases List.mem_cons.mp hr' with h | h
      · exact h ▸ w2
      · exact w3 r' h
    · simp [uS, uH, uN, uB, psub, hc3, fill]
    · simp [mu, wt_pc, wtN, wtB, RP.knots]; omega
  | take a x c =>
    obtain ⟨sc, h1, h2⟩ := n2
    have hc := pcs_kids (q := c) h1 (by simp [kids])
    have hx : Nm x := by have := h1.1; simp only [pc] at this; exact this.2.1
    cases b with
    | nil =>
      refine .inr ⟨a, ?_, .inr ⟨x, c, e, rfl⟩⟩
      simp only [uS, uH, psub, uB, List.append_nil]
      rw [fnd_nv rfl]
      have : ∀ r : NR, splitR (uN r) = none := by
        have key : ∀ gs : List Fr, (∀ f ∈ gs, f.isRd = false) → splitR gs = none := by
          intro gs
          induction gs with
          | nil => intro _; rfl
          | cons f gs ih =>
            intro h
            simp only [splitR, h f (by simp), Bool.false_eq_true, if_false]
            rw [ih fun g hg => h g (by simp [hg])]
            rfl
        exact fun r => key _ (splitR_near.all_nrd r)
      simp [dec, act, this]
    | cons r1 b =>
      have wk : wE (.cons x (.kep a r (s + 1)) e) := by
        simp only [wE, wH]
        exact ⟨rfl, w2, n3, hx⟩
      have hb : bndE c (.cons x (.kep a r (s + 1)) e) := ⟨x :: sc, hc, fun y hy => by
        simp only [EN.dom, List.mem_cons]
        rcases List.mem_cons.mp hy with h | h
        · exact .inl h
        · exact .inr (h2 y h)⟩
      obtain ⟨c', hc1, hc2, hc3⟩ := hold_ok hb wk
      simp only [entM, hc1, hold1]
      refine ⟨⟨hc2, by simp [wN], w3⟩, .inr ⟨rfl, ?_⟩⟩
      simp only [uS, uH, psub, uB, uN, List.nil_append]
      rw [fnd_nv rfl]
      simp only [dec, act]
      rw [splitR_near]
      simp only [hc3, uE, uH]
      rw [psub_cons (uE_vals n3)]
end Mi
namespace Mi
open PySem PySem.Spec PyProof.Rows L2

theorem dec_call {a : Int} {f g : RP} {fs : List Fr} (hf : f.isVal = true) (hg : g.isVal = true) : dec (.call a f g) fs = (.call a f g, fs) := by simp [dec, hf, hg]
theorem dec_plus {a : Int} {f g : RP} {fs : List Fr} (hf : f.isVal = true) (hg : g.isVal = true) : dec (.plus a f g) fs = (.plus a f g, fs) := by simp [dec, hf, hg]
theorem dec_pick {a : Int} {c f g : RP} {fs : List Fr} (hc : c.isVal = true) : dec (.pick a c f g) fs = (.pick a c f g, fs) := by simp [dec, hc]
theorem dec_round {b : RP} {fs : List Fr} (hb : b.isVal = true) : dec (.round b) fs = (.round b, fs) := by simp [dec, hb]
theorem ret_ok {v : HD} {f : MF} {r : NR} {b : List NR} {s : Nat} (hv : v.isVal = true) (w : wS ⟨v, .cons f r, b, s⟩) : SimMv ⟨v, .cons f r, b, s⟩ (retM v f r b s) := by
  obtain ⟨w1, w2, w3⟩ := w
  simp only [wN] at w2
  obtain ⟨wf, wr⟩ := w2
  have huv : (uH v).isVal = true := by rw [uH_val w1]; exact hv
  have hwv : wt v = 0 := by cases v <;> first | rfl | (exact absurd hv Bool.false_ne_true)
  cases f with
  | caller a h =>
    simp only [wM] at wf
    refine ⟨⟨wf, ?_, w3⟩, .inl ⟨rfl, ?_, ?_⟩⟩
    · simp only [wN, wM]; exact ⟨⟨hv, w1⟩, wr⟩
    · simp [uS, uN, uM, fill]
    · simp [mu, wtN, wtM]; omega
  | adder a h =>
    simp only [wM] at wf
    refine ⟨⟨wf, ?_, w3⟩, .inl ⟨rfl, ?_, ?_⟩⟩
    · simp only [wN, wM]; exact ⟨⟨hv, w1⟩, wr⟩
    · simp [uS, uN, uM, fill]
    · simp [mu, wtN, wtM]; omega
  | given a h =>
    simp only [wM] at wf
    have huh : (uH h).isVal = true := by rw [uH_val wf.2]; exact wf.1
    have hfn : fnd (uS ⟨v, .cons (.given a h) r, b, s⟩).1 (uS ⟨v, .cons (.given a h) r, b, s⟩).2 = (.call a (uH h) (uH v), uN r ++ uB b) := by
      simp only [uS, uN, uM, List.cons_append]
      rw [fnd_v huv]
      exact dec_call huh huv
    cases h with
    | pc p e => exact absurd wf.1 Bool.false_ne_true
    | num i =>
      refine .inr ⟨a, ?_, .inl ⟨hv, _, _, rfl, rfl⟩⟩
      rw [hfn]; simp [uH, act]
    | clo a' x c e n =>
      have wc := wf.2
      simp only [wH] at wc
      obtain ⟨hx, ⟨sc, hc1, hc2⟩, we⟩ := wc
      have wk : wE (.cons x v e) := by simp only [wE]; exact ⟨hv, w1, we, hx⟩
      obtain ⟨c', h1, h2, h3⟩ := hold_ok (p := c) (e := .cons x v e) ⟨sc, hc1, fun y hy => by
        simp only [EN.dom, List.mem_cons]; exact hc2 y hy⟩ wk
      simp only [retM, callM, h1, hold1]
      refine ⟨⟨h2, wr, w3⟩, .inr ⟨rfl, ?_⟩⟩
      rw [hfn]
      simp only [uH, act, uS, h3, uE]
      rw [psub_cons (uE_vals we)]
    | kep a' q n =>
      have wc := wf.2
      simp only [wH] at wc
      simp only [retM, callM]
      refine ⟨⟨w1, wc, fun r' hr' => ?_⟩, .inr ⟨rfl, ?_⟩⟩
      · rcases List.mem_cons.mp hr' with h | h
        · exact h ▸ wr
        · exact w3 r' h
      · rw [hfn]
        simp [uH, act, uS, uB]
  | added a h =>
    simp only [wM] at wf
    have huh : (uH h).isVal = true := by rw [uH_val wf.2]; exact wf.1
    have hfn : fnd (uS ⟨v, .cons (.added a h) r, b, s⟩).1 (uS ⟨v, .cons (.added a h) r, b, s⟩).2 = (.plus a (uH h) (uH v), uN r ++ uB b) := by
      simp only [uS, uN, uM, List.cons_append]
      rw [fnd_v huv]
      exact dec_plus huh huv
    have hst : (∀ i j, ¬ (h = .num i ∧ v = .num j)) → SimStop ⟨v, .cons (.added a h) r, b, s⟩ := fun hn => by
      refine .inr ⟨a, ?_, .inl ⟨hv, _, _, rfl, rfl⟩⟩
      rw [hfn]
      cases h <;> cases v <;> first | (exact absurd wf.1 Bool.false_ne_true) | (exact absurd hv Bool.false_ne_true) | (exact absurd ⟨rfl, rfl⟩ (hn _ _)) | simp [uH, act]
    cases h with
    | num i =>
      cases v with
      | num j =>
        refine ⟨⟨by simp [wH], wr, w3⟩, .inr ⟨rfl, ?_⟩⟩
        rw [hfn]; simp [uH, act, uS]
      | pc p e => exact absurd hv Bool.false_ne_true
      | clo _ _ _ _ _ => exact hst fun i j h => by cases h.2
      | kep _ _ _ => exact hst fun i j h => by cases h.2
    | pc p e => exact absurd wf.1 Bool.false_ne_true
    | clo _ _ _ _ _ => exact hst fun i j h => by cases h.1
    | kep _ _ _ => exact hst fun i j h => by cases h.1
  | picker a h g =>
    simp only [wM] at wf
    have hfn : fnd (uS ⟨v, .cons (.picker a h g) r, b, s⟩).1 (uS ⟨v, .cons (.picker a h g) r, b, s⟩).2 = (.pick a (uH v) (uH h) (uH g), uN r ++ uB b) := by
      simp only [uS, uN, uM, List.cons_append]
      rw [fnd_v huv]
      exact dec_pick huv
    cases v with
    | num i =>
      refine ⟨⟨?_, wr, w3⟩, .inr ⟨rfl, ?_⟩⟩
      · show wH (if i = 0 then h else g)
        split
        · exact wf.1
        · exact wf.2
      · rw [hfn]
        simp only [uH, act, uS]
        congr 1
        split <;> rfl
    | pc p e => exact absurd hv Bool.false_ne_true
    | clo _ _ _ _ _ =>
      refine .inr ⟨a, ?_, .inl ⟨hv, _, _, rfl, rfl⟩⟩
      rw [hfn]; simp [uH, act]
    | kep _ _ _ =>
      refine .inr ⟨a, ?_, .inl ⟨hv, _, _, rfl, rfl⟩⟩
      rw [hfn]; simp [uH, act]
theorem move_ok {S : MS1} (w : wS S) : SimMv S (move S) := by
  obtain ⟨h, r, b, s⟩ := S
  cases h with
  | pc p e => exact ent_ok w
  | _ =>
    cases r with
    | cons f r => exact ret_ok rfl w
    | nil =>
      cases b with
      | nil => exact .inl ⟨rfl, rfl, rfl⟩
      | cons r' b =>
        obtain ⟨w1, w2, w3⟩ := w
        refine ⟨⟨w1, w3 r' (by simp), fun q hq => w3 q (by simp [hq])⟩, .inr ⟨rfl, ?_⟩⟩
        simp only [uS, uN, uB, List.nil_append]
        rw [fnd_v (by simp [uH, RP.isVal])]
        simp only [fill]
        rw [dec_round (by simp [uH, RP.isVal])]
        simp [act]
/-- the whole for which it stands -/
def whole (S : MS1) : RP := plug (uS S).1 (uS S).2
theorem prN : ∀ {r : NR}, wN r → ∀ f ∈ uN r, prF f = true
  | .nil, _, f, hf => by simp [uN] at hf
  | .cons g r, w, f, hf => by
    simp only [wN] at w
    simp only [uN, List.mem_cons] at hf
    rcases hf with rfl | hf
    · cases g <;> simp only [uM, prF] <;> simp only [wM] at w
      · rw [uH_val w.1.2]; exact w.1.1
      · rw [uH_val w.1.2]; exact w.1.1
    · exact prN w.2 f hf
theorem prB : ∀ {b : List NR}, (∀ r ∈ b, wN r) → ∀ f ∈ uB b, prF f = true
  | [], _, f, hf => by simp [uB] at hf
  | r :: b, w, f, hf => by
    simp only [uB, List.mem_cons, List.mem_append] at hf
    rcases hf with rfl | hf | hf
    · rfl
    · exact prN (w r (by simp)) f hf
    · exact prB (fun q hq => w q (by simp [hq])) f hf
theorem prS {S : MS1} (w : wS S) : ∀ f ∈ (uS S).2, prF f = true := fun f hf => by
  simp only [uS, List.mem_append] at hf
  rcases hf with hf | hf
  · exact prN w.2.1 f hf
  · exact prB w.2.2 f hf
theorem stepR_act {q : RP} {fs : List Fr} (hf : ∀ f ∈ fs, prF f = true) : 
    (∀ q' fs', act (fnd q fs).1 (fnd q fs).2 = .go q' fs' → stepR (plug q fs) = .step (plug q' fs')) ∧ (∀ a, act (fnd q fs).1 (fnd q fs).2 = .stuck a → stepR (plug q fs) = .stuck a) := by
  have key : ∀ ac, act (fnd q fs).1 (fnd q fs).2 = ac → ac ≠ .bad → (plug q fs).isVal = false ∧ act (dec (plug q fs) []).1 (dec (plug q fs) []).2 = ac := fun ac h hb => by
    rw [fnd_plug hf] at h
    cases hv : (plug q fs).isVal with
    | true =>
      have e : fnd (plug q fs) [] = (plug q fs, []) := by unfold fnd; rw [hv]
      rw [e] at h
      revert h hv
      generalize plug q fs = p
      intro h hv
      cases p <;> first | (exact absurd hv Bool.false_ne_true) | (exact absurd h.symm hb)
    | false =>
      have e : fnd (plug q fs) [] = dec (plug q fs) [] := by unfold fnd; rw [hv]
      rw [e] at h
      exact ⟨rfl, h⟩
  refine ⟨fun q' fs' h => ?_, fun a h => ?_⟩
  · obtain ⟨h1, h2⟩ := key _ h (by intro z; cases z)
    unfold stepR
    rw [h1, h2]
    rfl
  · obtain ⟨h1, h2⟩ := key _ h (by intro z; cases z)
    unfold stepR
    rw [h1, h2]
    rfl
/-- what a move is, told of the whole -/
theorem move_whole {S : MS1} (w : wS S) : match move S with
    | .to S' => wS S' ∧ ((S'.s = S.s ∧ whole S' = whole S ∧ mu S' < mu S) ∨ (S'.s = S.s + 1 ∧ stepR (whole S) = .step (whole S')))
    | .stop => (S.h.isVal = true ∧ S.r = .nil ∧ S.b = [] ∧ stepR (whole S) = .val (uH S.h)) ∨ ∃ a, stepR (whole S) = .stuck a ∧ ((S.h.isVal = true ∧ ∃ f r, S.r = .cons f r ∧ markM f = a) ∨ ∃ x c e, S.h = .pc (.take a x c) e)
    | .bad => False := by
  have h := move_ok w
  have hp := prS w
  have hs := stepR_act (q := (uS S).1) hp
  cases hm : move S with
  | to S' =>
    rw [hm] at h
    obtain ⟨w', h⟩ := h
    refine ⟨w', ?_⟩
    rcases h with ⟨h1, h2, h3⟩ | ⟨h1, h2⟩
    · exact .inl ⟨h1, h2, h3⟩
    · exact .inr ⟨h1, hs.1 _ _ h2⟩
  | stop =>
    rw [hm] at h
    rcases h with ⟨h1, h2, h3⟩ | ⟨a, h1, h2⟩
    · left
      refine ⟨h1, h2, h3, ?_⟩
      have e : whole S = uH S.h := by simp [whole, uS, h2, h3, uN, uB]
      rw [e]
      unfold stepR
      rw [uH_val w.1, h1]
      rfl
    · exact .inr ⟨a, hs.2 _ h1, h2⟩
  | bad => rw [hm] at h; exact h.elim
def firstS (p : RP) (h : HD) : MS1 := ⟨h, .nil, [], 0⟩
theorem first_ok {p : RP} (hp : pcs p []) : ∃ h, hold p .nil = some h ∧ wS (firstS p h) ∧ whole (firstS p h) = p := by
  obtain ⟨h, h1, h2, h3⟩ := hold_ok (p := p) (e := .nil) ⟨[], hp, by simp⟩ (by simp [wE])
  refine ⟨h, h1, ⟨h2, by simp [firstS, wN], by simp [firstS]⟩, ?_⟩
  simp [whole, firstS, uS, uN, uB, h3, uE, psub_nil]
end Mi
namespace Mi
open PySem PySem.Spec PyProof.Rows L2

/-! ### so many steps, in any frames -/
def Goes (j : Nat) (q : RP) (r : RP ⊕ Int) : Prop := ∀ fs, (∀ f ∈ fs, prF f = true) → ∀ t, lastS (t + j) (plug q fs) = match r with
  | .inl v => lastS t (plug v fs)
  | .inr a => .stuck a
theorem Goes.refl (v : RP) : Goes 0 v (.inl v) := fun fs _ t => rfl
theorem Goes.trans {i j : Nat} {q v : RP} {r : RP ⊕ Int} (h1 : Goes i q (.inl v)) (h2 : Goes j v r) : Goes (j + i) q r := fun fs hf t => by
  rw [← Nat.add_assoc, h1 fs hf (t + j)]
  exact h2 fs hf t
theorem Goes.fr {j : Nat} {q v : RP} {f : Fr} (hf : prF f = true) (h : Goes j q (.inl v)) : Goes j (fill f q) (.inl (fill f v)) := fun fs hfs t =>
  h (f :: fs) (fun g hg => by
    rcases List.mem_cons.mp hg with rfl | hg
    · exact hf
    · exact hfs g hg) t
theorem Goes.frS {j : Nat} {q : RP} {a : Int} {f : Fr} (hf : prF f = true) (h : Goes j q (.inr a)) : Goes j (fill f q) (.inr a) := fun fs hfs t =>
  h (f :: fs) (fun g hg => by
    rcases List.mem_cons.mp hg with rfl | hg
    · exact hf
    · exact hfs g hg) t
theorem Goes.step {q q' : RP} (hv : q.isVal = false) (he : ent q = none) (h : ∀ fs, act q fs = .go q' fs) : Goes 1 q (.inl q') := fun fs hf t => by
  have e : fnd q fs = (q, fs) := by
    unfold fnd
    rw [hv]
    exact dec_none he
  have := (stepR_act (q := q) hf).1 q' fs (by rw [e]; exact h fs)
  show lastS (t + 1) _ = lastS t (plug q' fs)
  rw [lastS, this]
theorem Goes.stop {q : RP} {a : Int} (hv : q.isVal = false) (he : ent q = none) (h : ∀ fs, act q fs = .stuck a) : Goes 0 q (.inr a) := fun fs hf t => by
  have e : fnd q fs = (q, fs) := by
    unfold fnd
    rw [hv]
    exact dec_none he
  have := (stepR_act (q := q) hf).2 a (by rw [e]; exact h fs)
  show lastS t _ = .stuck a
  cases t with
  | zero => exact this
  | succ t => rw [lastS, this]
theorem last_val {v : RP} (h : v.isVal = true) (t : Nat) : lastS t v = .val v := by
  have : stepR v = .val v := by unfold stepR; rw [if_pos h]
  cases t with
  | zero => exact this
  | succ t => rw [lastS, this]
/-- told of the whole -/
theorem Goes.told {j : Nat} {q : RP} {r : RP ⊕ Int} (h : Goes j q r) (hv : ∀ v, r = .inl v → v.isVal = true) {n : Nat} (hn : j ≤ n) : lastS n q = match r with
    | .inl v => .val v
    | .inr a => .stuck a := by
  have := h [] (by simp) (n - j)
  rw [Nat.sub_add_cancel hn] at this
  rw [plug_nil] at this
  rw [this]
  cases r with
  | inl v => exact last_val (hv v rfl) _
  | inr a => rfl

/-! ### values that keep the names about them -/
mutual
inductive VD where
  | num (i : Int) | clo (a : Int) (x : Str) (b : RP) (e : EV)
inductive EV where
  | nil | cons (x : Str) (v : VD) (e : EV)
end
def EV.get : EV → Str → Option VD
  | .nil, _ => none
  | .cons x v e, y => if y == x then some v else e.get y
def EV.len : EV → Nat
  | .nil => 0
  | .cons _ _ e => e.len + 1
mutual
def toR : VD → RP
  | .num i => .num i
  | .clo a x b e => .shut a x (psub b (rmv x (toSb e)))
def toSb : EV → Sb
  | .nil => []
  | .cons x v e => (x, toR v) :: toSb e
end
theorem toR_val (v : VD) : (toR v).isVal = true := by cases v <;> rfl
theorem toSb_val : ∀ (e : EV), ∀ p ∈ toSb e, p.2.isVal = true
  | .nil, p, h => by simp [toSb] at h
  | .cons x v e, p, h => by
    simp only [toSb, List.mem_cons] at h
    rcases h with rfl | h
    · exact toR_val v
    · exact toSb_val e p h
theorem toSb_get : ∀ (e : EV) (y : Str), (toSb e).lookup y = (e.get y).map toR
  | .nil, y => rfl
  | .cons x v e, y => by
    simp only [toSb, EV.get, List.lookup_cons]
    cases y == x with
    | true => rfl
    | false => exact toSb_get e y
def noTk : RP → Bool
  | .fun_ _ _ b => noTk b
  | .call _ f g => noTk f && noTk g
  | .plus _ f g => noTk f && noTk g
  | .pick _ c f g => noTk c && noTk f && noTk g
  | .round b => noTk b
  | .take _ _ _ => false
  | _ => true
/-! functions of so many calls and levels -/
mutual
def okV (c B : Nat) : VD → Prop
  | .num _ => True
  | .clo _ x b e => (∃ sc, pc b sc ∧ ∀ y ∈ sc, y = x ∨ ∃ v, e.get y = some v) ∧ noTk b = true ∧ b.dp ≤ B ∧ e.len ≤ c ∧ okE c B e
def okE (c B : Nat) : EV → Prop
  | .nil => True
  | .cons _ v e => okV c B v ∧ okE c B e
end
mutual
theorem okV.mono {c c' B : Nat} (h : c ≤ c') : ∀ {v : VD}, okV c B v → okV c' B v
  | .num _, _ => trivial
  | .clo a x b e, q => by
    simp only [okV] at q ⊢
    exact ⟨q.1, q.2.1, q.2.2.1, by omega, okE.mono h q.2.2.2.2⟩
theorem okE.mono {c c' B : Nat} (h : c ≤ c') : ∀ {e : EV}, okE c B e → okE c' B e
  | .nil, _ => trivial
  | .cons x v e, q => by
    simp only [okE] at q ⊢
    exact ⟨okV.mono h q.1, okE.mono h q.2⟩
end
theorem okE.get {c B : Nat} {x : Str} {v : VD} : ∀ {e : EV}, okE c B e → e.get x = some v → okV c B v
  | .cons y w e, q, h => by
    simp only [okE] at q
    simp only [EV.get] at h
    split at h
    · cases h; exact q.1
    · exact okE.get q.2 h
end Mi
namespace Mi
open PySem PySem.Spec PyProof.Rows L2

/-! ### what is kept, and called again and again -/
theorem Goes.plug {j : Nat} {q v : RP} : ∀ {fs : List Fr}, (∀ f ∈ fs, prF f = true) → Goes j q (.inl v) → Goes j (plug q fs) (.inl (plug v fs))
  | [], _, h => h
  | f :: fs, hf, h => Goes.plug (fs := fs) (fun g hg => hf g (by simp [hg])) (h.fr (hf f (by simp)))
theorem split_as : ∀ {as : List Fr} {fs : List Fr}, (∀ f ∈ as, f.isRd = false) → splitR (as ++ .round :: fs) = some (as, .round :: fs)
  | [], fs, _ => by simp [splitR, Fr.isRd]
  | f :: as, fs, h => by
    have h1 := h f (by simp)
    have ih := split_as (as := as) (fs := fs) (fun g hg => h g (by simp [hg]))
    cases f <;> simp_all [splitR, Fr.isRd]
theorem plug_rd (q : RP) (as fs : List Fr) : Mi.plug (.round (Mi.plug q as)) fs = Mi.plug q (as ++ .round :: fs) := by
  rw [plug_app]; rfl
theorem Goes.take {a : Int} {x : Str} {b : RP} {as : List Fr} (h : ∀ f ∈ as, f.isRd = false) (hp : ∀ f ∈ as, prF f = true) : Goes 1 (.round (Mi.plug (.take a x b) as)) (.inl (.round (RP.put x (.kept a as) b))) := fun fs hf t => by
  have hf' : ∀ f ∈ as ++ .round :: fs, prF f = true := fun f hm => by
    rcases List.mem_append.mp hm with hm | hm
    · exact hp f hm
    · rcases List.mem_cons.mp hm with rfl | hm
      · rfl
      · exact hf f hm
  have e : fnd (.take a x b) (as ++ .round :: fs) = (.take a x b, as ++ .round :: fs) := rfl
  have := (stepR_act (q := .take a x b) hf').1 (RP.put x (.kept a as) b) (.round :: fs) (by
    rw [e]
    show (match splitR (as ++ .round :: fs) with
      | some r => Ac.go (RP.put x (.kept a r.1) b) r.2
      | none => .stuck a) = _
    rw [split_as h])
  rw [plug_rd]
  show lastS (t + 1) _ = lastS t (Mi.plug (.round (RP.put x (.kept a as) b)) fs)
  rw [lastS, this]
  rfl
theorem Goes.kept {a a' : Int} {v : RP} {as : List Fr} (hv : v.isVal = true) : Goes 1 (.call a (.kept a' as) v) (.inl (.round (Mi.plug v as))) := fun fs hf t => by
  have e : fnd (.call a (.kept a' as) v) fs = (.call a (.kept a' as) v, fs) := by
    unfold fnd
    exact dec_none (by simp [ent, hv, show (RP.kept a' as).isVal = true from rfl])
  have := (stepR_act (q := .call a (.kept a' as) v) hf).1 v (as ++ .round :: fs) (by rw [e]; rfl)
  show lastS (t + 1) _ = lastS t (Mi.plug (.round (Mi.plug v as)) fs)
  rw [lastS, this, plug_rd]
/-! rows of sums -/
def abFr (mark : Int) (k : Nat) (r : Int) : Fr := if (r + k) % 2 = 0 then .added (mark + k) (.num r) else .adder (mark + k) (.num r)
def abFs (mark : Int) : Nat → List Int → List Fr
  | _, [] => []
  | k, r :: rs => abFr mark k r :: abFs mark (k + 1) rs
theorem abFr_ok (mark : Int) (k : Nat) (r : Int) : prF (abFr mark k r) = true ∧ (abFr mark k r).isRd = false := by
  unfold abFr; split <;> exact ⟨rfl, rfl⟩
theorem abFs_ok {mark : Int} : ∀ {rs : List Int} {k : Nat}, ∀ f ∈ abFs mark k rs, prF f = true ∧ f.isRd = false
  | [], k, f, h => by simp [abFs] at h
  | r :: rs, k, f, h => by
    simp only [abFs, List.mem_cons] at h
    rcases h with rfl | h
    · exact abFr_ok mark k r
    · exact abFs_ok f h
theorem abFr_go (mark : Int) (k : Nat) (r i : Int) : Goes 1 (fill (abFr mark k r) (.num i)) (.inl (.num (i + r))) := by
  unfold abFr
  split
  · rw [Int.add_comm i r]
    exact Goes.step rfl (by simp [fill, ent, RP.isVal]) (fun fs => rfl)
  · exact Goes.step rfl (by simp [fill, ent, RP.isVal]) (fun fs => rfl)
theorem abFs_go {mark : Int} : ∀ {rs : List Int} {k : Nat} {i : Int}, Goes rs.length (plug (.num i) (abFs mark k rs)) (.inl (.num (i + rs.sum)))
  | [], k, i => by simpa [abFs] using Goes.refl (.num i)
  | r :: rs, k, i => by
    have h1 := (abFr_go mark k r i).plug (fs := abFs mark (k + 1) rs) (fun f hf => (abFs_ok f hf).1)
    have h2 := abFs_go (mark := mark) (rs := rs) (k := k + 1) (i := i + r)
    have := h1.trans h2
    rw [List.sum_cons, ← Int.add_assoc]
    exact this
/-- a call of what is kept comes to the sum -/
theorem Goes.sum {a a' mark i : Int} {rs : List Int} : Goes (rs.length + 2) (.call a (.kept a' (abFs mark 0 rs)) (.num i)) (.inl (.num (i + rs.sum))) := by
  have h1 := Goes.kept (a := a) (a' := a') (v := .num i) (as := abFs mark 0 rs) rfl
  have h2 := (abFs_go (mark := mark) (rs := rs) (k := 0) (i := i)).fr (f := .round) rfl
  have h3 : Goes 1 (.round (.num (i + rs.sum))) (.inl (.num (i + rs.sum))) := Goes.step rfl (by simp [ent, RP.isVal]) (fun fs => rfl)
  have := (h1.trans h2).trans h3
  rw [show rs.length + 2 = 1 + (rs.length + 1) by omega]
  exact this
/-! ### from which fuel on -/
theorem last_cut : ∀ (j : Nat) (p : RP) (s : SR), lastS j p = s → (∀ q, s ≠ .step q) → ∃ N, N ≤ j ∧ (∀ e, e < N → ∃ q, lastS e p = .step q) ∧ ∀ e, N ≤ e → lastS e p = s
  | j, p, s, h, hs => by
    have stop : (∀ q, stepR p ≠ .step q) → ∀ e, lastS e p = stepR p := fun hq e => by
      cases e with
      | zero => rfl
      | succ e =>
        rw [lastS]
        cases hp : stepR p with
        | step q => exact absurd hp (hq q)
        | val v => rfl
        | stuck a => rfl
    cases hp : stepR p with
    | step q =>
      cases j with
      | zero => exact absurd (h.symm.trans hp) (hs q)
      | succ j =>
        have h' : lastS j q = s := by rw [lastS, hp] at h; exact h
        obtain ⟨N, h1, h2, h3⟩ := last_cut j q s h' hs
        refine ⟨N + 1, by omega, fun e he => ?_, fun e he => ?_⟩
        · cases e with
          | zero => exact ⟨q, hp⟩
          | succ e =>
            obtain ⟨q', hq'⟩ := h2 e (by omega)
            exact ⟨q', by rw [lastS, hp]; exact hq'⟩
        · obtain ⟨e, rfl⟩ : ∃ e', e = e' + 1 := ⟨e - 1, by omega⟩
          rw [lastS, hp]
          exact h3 e (by omega)
    | val v =>
      have hq : ∀ q, stepR p ≠ .step q := fun q z => by rw [hp] at z; cases z
      have := stop hq
      exact ⟨0, by omega, fun e he => by omega, fun e _ => by rw [this e, ← this j, h]⟩
    | stuck a =>
      have hq : ∀ q, stepR p ≠ .step q := fun q z => by rw [hp] at z; cases z
      have := stop hq
      exact ⟨0, by omega, fun e he => by omega, fun e _ => by rw [this e, ← this j, h]⟩
  termination_by j => j
/-- dry with less fuel, alike with more -/
theorem Goes.cut {j : Nat} {p : RP} {r : RP ⊕ Int} (h : Goes j p r) (hv : ∀ v, r = .inl v → v.isVal = true) : ∃ N, N ≤ j ∧ (∀ e, e < N → tellR (lastS e p) = .tup [.str "dry"]) ∧ ∀ e, N ≤ e → tellR (lastS e p) = tellR (match r with
    | .inl v => .val v
    | .inr a => .stuck a) := by
  have h0 := h.told hv (Nat.le_refl j)
  obtain ⟨N, h1, h2, h3⟩ := last_cut j p _ h0 (fun q z => by cases r <;> cases z)
  exact ⟨N, h1, fun e he => by obtain ⟨q, hq⟩ := h2 e he; rw [hq]; rfl, fun e he => congrArg tellR ((h3 e he).trans (by cases r <;> rfl))⟩
end Mi
namespace K13
open PySem PySem.Spec PyProof.Rows L2 Mi
variable {m : List SO} {k : Nat}

theorem sok_x : PyData.strOk "x" = true := Nm.sok ⟨by unfold Low; decide, by decide, by decide⟩
theorem dfr_ok {f : Fr} (h : Dfr f) : gdF 2000 10 f ∧ sdF f = 0 ∧ prF f = true ∧ RP.depF f ≤ 5 := by
  cases h <;> refine ⟨?_, ?_, ?_, ?_⟩ <;> simp [gdF, gd, sdF, prF, RP.depF, RP.dep, RP.dp, RP.isVal, sok_x]
theorem dfrs_gd {fs : List Fr} (h : ∀ f ∈ fs, Dfr f) : gdFs 2000 10 fs := gdFs_mem.mpr fun f hf => (dfr_ok (h f hf)).1
theorem dfrs_hgt : ∀ {fs : List Fr} {d : Nat}, (∀ f ∈ fs, Dfr f) → hgt d fs ≤ d + fs.length
  | [], d, _ => by simp [hgt]
  | f :: fs, d, h => by
    have h1 := (dfr_ok (h f (by simp))).2.1
    have h2 := dfrs_hgt (fs := fs) (d := max d (sdF f) + 1) (fun g hg => h g (by simp [hg]))
    simp only [hgt, List.length_cons]; omega
theorem dfrs_dep : ∀ {fs : List Fr}, (∀ f ∈ fs, Dfr f) → RP.depFs fs ≤ 5
  | [], _ => by simp [RP.depFs]
  | f :: fs, h => by
    have h1 := (dfr_ok (h f (by simp))).2.2.2
    have h2 := dfrs_dep (fs := fs) (fun g hg => h g (by simp [hg]))
    simp only [RP.depFs]; omega
theorem dfrs_zi {fs : List Fr} {q : RP} (h : ∀ f ∈ fs, Dfr f) (hl : fs.length ≤ 1900) (hq : q.dp ≤ 5) (hg : gd 2000 10 q []) : ZI 2000 10 2000 q fs := by
  have h1 := dfrs_hgt (d := q.dp) h
  have h2 := msg_le_hgt (fs := fs) (d := q.dp)
  exact ⟨hg, by omega, dfrs_gd h, by omega, by omega, by omega⟩
/-- a step of a place in such frames -/
theorem step_in {fs : List Fr} {q : RP} (h : ∀ f ∈ fs, Dfr f) (hv : q.isVal = false) (he : ent q = none) :
    (∀ q' fs', act q fs = .go q' fs' → stepR (plug q fs) = .step (plug q' fs')) ∧ (∀ a, act q fs = .stuck a → stepR (plug q fs) = .stuck a) := by
  have e : fnd q fs = (q, fs) := by
    unfold fnd
    rw [hv]
    exact dec_none he
  have := stepR_act (q := q) (fs := fs) (fun f hf => (dfr_ok (h f hf)).2.2.1)
  rw [e] at this
  exact this
def g1 : Sm := sq1 (sq2 fn__law_goes.body)
def g2 : Sm := sq1 (sq2 (sq2 fn__law_goes.body))
theorem goes_body : fn__law_goes.body = .seq (.set 3 (.call "stepped" (.cons (.var 0) .nil))) (.seq g1 (.seq g2 (.ret (.idx (.var 3) (.cst (.int 1)))))) := rfl
theorem run_goes {c : Nat} {fs fs' : List Fr} {q q' : RP} (hk : 28 ≤ k) (hz : ZI 2000 10 2000 q fs) (hs : stepR (plug q fs) = .step (plug q' fs')) (hc : getL m c = some (encFs fs')) (hf : ∀ f ∈ fs', Dfr f) (hq : q'.all = true) (hd : q'.dep ≤ 100) :
    run tb (k + 5) "_law_goes" [enc (plug q fs), .loc c, enc q'] m = some (enc (plug q' fs'), m) := by
  have h1 := run_stepped (k := k) hz (by omega) (by omega) hk m
  rw [hs] at h1
  have h2 := run_same (k := k + 2) hc hf hq hd
  rw [run_at tb__law_goes (k + 4) rfl, goes_body]
  show fini m ((ex (k + 4) (run tb (k + 4)) _).x [some (enc (plug q fs)), some (.loc c), some (enc q'), none] m) = _
  obtain ⟨r, hr⟩ : ∃ r : D, r = .tup [.str "step", enc (plug q' fs')] := ⟨_, rfl⟩
  have h1' : run tb (k + 4) "stepped" [enc (plug q fs)] m = some (r, m) := by rw [h1, hr]; rfl
  have e1 : (ex (k + 4) (run tb (k + 4)) (.set 3 (.call "stepped" (.cons (.var 0) .nil)))).x [some (enc (plug q fs)), some (.loc c), some (enc q'), none] m = some ((.nx, [some (enc (plug q fs)), some (.loc c), some (enc q'), some r]), m) := by
    simp [ex, dst, ev, den, M.bnd, M.ret, h1']
  have hne : ∀ a : Int, cmpM (k + 4) .ne (.int a) (.int a) m = some (false, m) := fun a => by simp [cmpM, cmpD, eqD_int]
  have hisi : isiD (.tup [.str "step", enc (plug q' fs')]) "tuple" = some true := rfl
  have hlen : bltD .len [.tup [.str "step", enc (plug q' fs')]] m = some (.int 2, m) := rfl
  have e2 : (ex (k + 4) (run tb (k + 4)) g1).x [some (enc (plug q fs)), some (.loc c), some (enc q'), some r] m = some ((.nx, [some (enc (plug q fs)), some (.loc c), some (enc q'), some r]), m) := by
    subst hr
    simp only [g1, sq1, sq2, fn__law_goes]
    simp [ex, dst, ev, den, denB, M.bnd, M.ret, hisi, hlen, hne, idx_hd, cmp_nes, truthM, truth]
  have e3 : (ex (k + 4) (run tb (k + 4)) g2).x [some (enc (plug q fs)), some (.loc c), some (enc q'), some r] m = some ((.nx, [some (enc (plug q fs)), some (.loc c), some (enc q'), some r]), m) := by
    subst hr
    simp only [g2, sq1, sq2, fn__law_goes]
    simp [ex, dst, ev, den, denB, M.bnd, M.ret, idx_t1, h2, truthM, truth]
  have e4 : (ev (k + 4) (run tb (k + 4)) (.idx (.var 3) (.cst (.int 1))) [some (enc (plug q fs)), some (.loc c), some (enc q'), some r]).v m = some (enc (plug q' fs'), m) := by
    subst hr
    simp [ev, den, M.bnd, M.ret, idx_t1]
  rw [ex_seq e1, ex_seq e2, ex_seq e3, ex_ret e4]
  simp [fini, gc_same, lt_enc]
/-! ### whether a round is there -/
theorem dfr_data {f : Fr} (h : Dfr f) : ∃ z, pd0 (encF f) = some z ∧ z.canLay0 = true ∧ z.depth ≤ 5 ∧ PyData.eqv z (.tuple [.str "round"]) = f.isRd := by
  cases h <;> exact ⟨_, rfl, by simp [PyData.canLay0, PyData.canLayAll0], by simp [PyData.depth, PyData.depthAll], by simp [PyData.eqv, PyData.eqvAll, Fr.isRd]⟩
theorem dfrs_data : ∀ {fs : List Fr}, (∀ f ∈ fs, Dfr f) → ∃ ds, pds0 (encFs fs) = some ds ∧ PyData.canLayAll0 ds = true ∧ PyData.depthAll ds ≤ 5 ∧ (ds.any fun z => PyData.eqv z (.tuple [.str "round"])) = fs.any Fr.isRd
  | [], _ => ⟨[], rfl, rfl, by simp [PyData.depthAll], rfl⟩
  | f :: fs, h => by
    obtain ⟨z, a1, a2, a3, a4⟩ := dfr_data (h f (by simp))
    obtain ⟨ds, b1, b2, b3, b4⟩ := dfrs_data (fs := fs) (fun g hg => h g (by simp [hg]))
    refine ⟨z :: ds, by simp [encFs, pds0, a1, b1], by simp [PyData.canLayAll0, a2, b2], by simp only [PyData.depthAll]; omega, ?_⟩
    rw [List.any_cons, List.any_cons, a4, b4]
theorem not_in {c : Nat} {fs : List Fr} (hc : getL m c = some (encFs fs)) (h : ∀ f ∈ fs, Dfr f) : cmpM k .notIn (.tup [.str "round"]) (.loc c) m = some (!fs.any Fr.isRd, m) := by
  obtain ⟨ds, b1, b2, b3, b4⟩ := dfrs_data h
  have e1 : pd m (.loc c) = some (.list ds) := by rw [pd_loc hc, b1]; rfl
  have e2 : pd m (.tup [.str "round"]) = some (.tuple [.str "round"]) := by simp [pd, pd0, pds0]
  have hs : seqOf m (.loc c) = some (encFs fs) := hc
  have hD : inDd k m (.tup [.str "round"]) (.loc c) = some (fs.any Fr.isRd) := by
    unfold inDd
    rw [e1, e2]
    simp only
    rw [if_pos ⟨by simp [PyData.canLay0, PyData.canLayAll0], b2, by omega⟩, b4]
  unfold cmpM cmpD
  simp only [hs]
  rw [if_neg (by simp [flatD]), hD]
  rfl
theorem cut_to {xs : List D} {i : Nat} : cut xs none (some (i : Int)) = xs.take i := by
  unfold cut
  rw [HT.sIx_none, HT.sIx_nat]
  simp
theorem cut_from {xs : List D} {i : Nat} (h : i ≤ xs.length) : cut xs (some (i : Int)) none = xs.drop i := by
  unfold cut
  rw [HT.sIx_none, HT.sIx_nat, Nat.min_eq_left h]
  exact List.take_of_length_le (by simp)
/-- the row of drawn frames -/
def drawn (x : Int) : List Fr := (List.range (900 + x % 900).toNat).map fun (i : Nat) => frBy (mixed (x + i))
theorem drawn_len (x : Int) : ((drawn x).length : Int) = 900 + x % 900 := by
  unfold drawn; simp; omega
theorem drawn_ok (x : Int) : ∀ f ∈ drawn x, Dfr f ∧ f.isRd = false := by
  intro f hf
  unfold drawn at hf
  obtain ⟨i, _, rfl⟩ := List.mem_map.mp hf
  exact ⟨frBy_ok _, frBy_rd _⟩
theorem set_split {α : Type} {a : α} : ∀ {l : List α} {i : Nat}, i < l.length → l.set i a = l.take i ++ a :: l.drop (i + 1)
  | [], i, h => absurd h (Nat.not_lt_zero _)
  | x :: l, 0, _ => by simp
  | x :: l, i + 1, h => by
    have := set_split (a := a) (l := l) (i := i) (by simpa using h)
    simp [this]
end K13
namespace Mi
open PySem PySem.Spec PyProof.Rows L2

/-! ### up to two thousand steps -/
theorem bound1000 {a c j : Nat} (h : a + c ≤ j) (hj : j ≤ 1000) : 28 + 28 * a + c * (28 + 28 * a) < 16100000 := by
  by_cases ha : a ≤ 500
  · have : c * (28 + 28 * a) ≤ 1000 * (28 + 28 * 500) := Nat.mul_le_mul (by omega) (by omega)
    omega
  · have : c * (28 + 28 * a) ≤ 500 * (28 + 28 * 1000) := Nat.mul_le_mul (by omega) (by omega)
    omega
theorem LInv.at2 {j : Nat} {p : RP} (h : LInv j p) (hj : j ≤ 1000) : ∃ T V E, ZI T V E (fnd p []).1 (fnd p []).2 ∧ T < 30000 ∧ E < 16100000 := by
  obtain ⟨q, fs, a, c, h1, h2, z⟩ := h
  have hpr : ∀ f ∈ fs, prF f = true := fun f hf => (gdFs_mem.mp z.f f hf).pr
  have z2 := z.fnd
  rw [fnd_plug hpr, ← h1] at z2
  exact ⟨_, _, _, z2, by omega, bound1000 h2 hj⟩
theorem LInv.here2 {j : Nat} {p : RP} (h : LInv j p) (hj : j ≤ 1000) : ∃ q fs T V E, p = plug q fs ∧ ZI T V E q fs ∧ T < 30000 ∧ E < 16100000 := by
  obtain ⟨q, fs, a, c, h1, h2, z⟩ := h
  exact ⟨q, fs, _, _, _, h1, z, by omega, bound1000 h2 hj⟩
theorem LInv.first2 {p : RP} (g : gd 0 1 p []) (hd2 : p.dp ≤ 28) : LInv 0 p :=
  ⟨p, [], 0, 0, rfl, Nat.le_refl _, ⟨g.mono (by omega) (by omega) (fun _ h => h), by omega, by simp [gdFs], by simp only [msg]; omega, by simp only [hgt]; omega, by omega⟩⟩
theorem step_cases2 {j : Nat} {p : RP} (h : LInv j p) (hj : j ≤ 1000) : (p.isVal = true ∧ fnd p [] = (p, []) ∧ stepR p = .val p) ∨
    (p.isVal = false ∧ ent (fnd p []).1 = none ∧ (fnd p []).1.isVal = false ∧ ((∃ a, act (fnd p []).1 (fnd p []).2 = .stuck a ∧ stepR p = .stuck a) ∨ ∃ q fs, act (fnd p []).1 (fnd p []).2 = .go q fs ∧ stepR p = .step (plug q fs))) := by
  cases hv : p.isVal with
  | true => exact .inl ⟨rfl, by unfold fnd; rw [hv], by unfold stepR; rw [hv]; rfl⟩
  | false =>
    right
    have h0 : fnd p [] = dec p [] := by unfold fnd; rw [hv]
    obtain ⟨T, V, E, z, _, _⟩ := h.at2 hj
    rw [h0] at z ⊢
    refine ⟨rfl, dec_end p [], dec_nval [] hv, ?_⟩
    have hs : stepR p = match act (dec p []).1 (dec p []).2 with
      | .go q fs => .step (plug q fs)
      | .stuck a => .stuck a
      | .bad => .stuck 0 := by unfold stepR; rw [hv]; rfl
    have hnv := dec_nval [] hv
    have he := dec_end p []
    cases ha : act (dec p []).1 (dec p []).2 with
    | go q fs => right; exact ⟨q, fs, rfl, by rw [hs, ha]⟩
    | stuck a => left; exact ⟨a, rfl, by rw [hs, ha]⟩
    | bad =>
      exfalso
      have gz := z.g
      revert ha gz hnv he
      generalize (dec p []).1 = pl
      generalize (dec p []).2 = gs
      intro hnv he ha gz
      cases pl with
      | name x => simp [gd] at gz
      | num i => simp [RP.isVal] at hnv
      | shut a x b => simp [RP.isVal] at hnv
      | kept a ks => simp [RP.isVal] at hnv
      | call b f g => cases f <;> simp [act] at ha
      | plus b f g => cases f <;> cases g <;> simp [act] at ha
      | pick b c f g => cases c <;> simp [act] at ha
      | take b x c => simp only [act] at ha; split at ha <;> cases ha
      | _ => simp [act] at ha
theorem pc.mono : ∀ {p : RP} {s1 s2 : List Str}, (∀ z ∈ s1, z ∈ s2) → pc p s1 → pc p s2
  | .num _, _, _, _, h => h
  | .name x, _, _, hs, h => by simp only [pc] at h ⊢; exact hs _ h
  | .fun_ _ x b, s1, s2, hs, h => by
    simp only [pc] at h ⊢
    exact ⟨h.1, h.2.1, h.2.2.mono fun z hz => by
      rcases List.mem_cons.mp hz with h | h
      · exact h ▸ List.mem_cons_self
      · exact List.mem_cons_of_mem _ (hs z h)⟩
  | .take _ x b, s1, s2, hs, h => by
    simp only [pc] at h ⊢
    exact ⟨h.1, h.2.1, h.2.2.mono fun z hz => by
      rcases List.mem_cons.mp hz with h | h
      · exact h ▸ List.mem_cons_self
      · exact List.mem_cons_of_mem _ (hs z h)⟩
  | .call _ f g, _, _, hs, h => by simp only [pc] at h ⊢; exact ⟨h.1, h.2.1.mono hs, h.2.2.mono hs⟩
  | .plus _ f g, _, _, hs, h => by simp only [pc] at h ⊢; exact ⟨h.1, h.2.1.mono hs, h.2.2.mono hs⟩
  | .pick _ c f g, _, _, hs, h => by simp only [pc] at h ⊢; exact ⟨h.1, h.2.1.mono hs, h.2.2.1.mono hs, h.2.2.2.mono hs⟩
  | .round b, _, _, hs, h => by simp only [pc] at h ⊢; exact h.mono hs
  | .shut _ _ _, _, _, _, h => h
  | .kept _ _, _, _, _, h => h
end Mi
namespace Mi
open PySem PySem.Spec PyProof.Rows L2

/-! ### plain terms -/
mutual
inductive Si where
  | num (i : Int) | name (w : Str) | code (fn : Bool) (a : Int) (w k g : Str) (t : Tm) | thn (w g : Str) (t : Tm) | last (w : Str) (t : Tm) | halt | fin
inductive Tm where
  | pass (k p g : Si) | leave (g p : Si) | shut (p k g : Si) | both (c : Bool) (a : Int) (p q k g : Si) | pick (a : Int) (p : Si) (t u : Tm) | ask (a : Int) (g : Si) (t : Tm) | let_ (w : Str) (p : Si) (t : Tm)
end
def wdC (fn : Bool) : String := if fn then "function" else "kept"
def wdB (c : Bool) : String := if c then "call" else "plus"
mutual
def encSi : Si → D
  | .num i => .tup [.str "num", .int i]
  | .name w => .tup [.str "name", .str w]
  | .code fn a w k g t => .tup [.str "code", .str (Str.ofString (wdC fn)), .int a, .str w, .str k, .str g, encT t]
  | .thn w g t => .tup [.str "then", .str w, .str g, encT t]
  | .last w t => .tup [.str "last", .str w, encT t]
  | .halt => .tup [.str "halt"]
  | .fin => .tup [.str "end"]
def encT : Tm → D
  | .pass k p g => .tup [.str "pass", encSi k, encSi p, encSi g]
  | .leave g p => .tup [.str "leave", encSi g, encSi p]
  | .shut p k g => .tup [.str "shut", encSi p, encSi k, encSi g]
  | .both c a p q k g => .tup [.str (Str.ofString (wdB c)), .int a, encSi p, encSi q, encSi k, encSi g]
  | .pick a p t u => .tup [.str "pick", .int a, encSi p, encT t, encT u]
  | .ask a g t => .tup [.str "ask", .int a, encSi g, encT t]
  | .let_ w p t => .tup [.str "let", .str w, encSi p, encT t]
end
/-! what a simple term means, and the names that are there -/
mutual
inductive PV where
  | mk (f : Si) (ns : PN)
inductive PN where
  | nil | cons (w : Str) (v : PV) (ns : PN)
end
mutual
def encPV : PV → D
  | .mk f ns => .tup [encSi f, encPN ns]
def encPN : PN → D
  | .nil => .non
  | .cons w v ns => .tup [.str w, encPV v, encPN ns]
end
mutual
theorem lt_encSi (n : Nat) : ∀ s : Si, ltD n (encSi s) = true
  | .num i => by simp [encSi]
  | .name w => by simp [encSi]
  | .code fn a w k g t => by simp [encSi, lt_encT n t]
  | .thn w g t => by simp [encSi, lt_encT n t]
  | .last w t => by simp [encSi, lt_encT n t]
  | .halt => by simp [encSi]
  | .fin => by simp [encSi]
theorem lt_encT (n : Nat) : ∀ t : Tm, ltD n (encT t) = true
  | .pass k p g => by simp [encT, lt_encSi n k, lt_encSi n p, lt_encSi n g]
  | .leave g p => by simp [encT, lt_encSi n p, lt_encSi n g]
  | .shut p k g => by simp [encT, lt_encSi n k, lt_encSi n p, lt_encSi n g]
  | .both c a p q k g => by simp [encT, lt_encSi n k, lt_encSi n p, lt_encSi n q, lt_encSi n g]
  | .pick a p t u => by simp [encT, lt_encSi n p, lt_encT n t, lt_encT n u]
  | .ask a g t => by simp [encT, lt_encSi n g, lt_encT n t]
  | .let_ w p t => by simp [encT, lt_encSi n p, lt_encT n t]
end
mutual
theorem lt_encPV (n : Nat) : ∀ v : PV, ltD n (encPV v) = true
  | .mk f ns => by simp [encPV, lt_encSi, lt_encPN n ns]
theorem lt_encPN (n : Nat) : ∀ v : PN, ltD n (encPN v) = true
  | .nil => by simp [encPN]
  | .cons w v ns => by simp [encPN, lt_encPV n v, lt_encPN n ns]
end
def PN.get : PN → Str → Option PV
  | .nil, _ => none
  | .cons w v ns, y => if w == y then some v else ns.get y
def meant : Si → PN → Option PV
  | .name w, ns => ns.get w
  | .num i, _ => some (.mk (.num i) .nil)
  | .halt, _ => some (.mk .halt .nil)
  | .fin, _ => some (.mk .fin .nil)
  | s, ns => some (.mk s ns)
/-! ### going on from term to term -/
inductive Fo where
  | to (t : Tm) (ns : PN) | stop | bad
def givingT : Tm := .pass (.name "k") (.name "p") (.name "g")
def passedF (k p g : PV) : Fo := match k with
  | .mk .halt _ => .stop
  | .mk (.thn w x t) ns => .to t (.cons x g (.cons w p ns))
  | _ => .bad
def leftF (g p : PV) : Fo := match g with
  | .mk (.last w t) ns => .to t (.cons w p ns)
  | _ => .bad
def givenF (k p g : PV) : Fo := .to givingT (.cons "k" k (.cons "p" p (.cons "g" g .nil)))
def bothF (c : Bool) (p q k g : PV) : Fo := match c with
  | true => (match p with
    | .mk (.code _ _ w x y t) ns => .to t (.cons y g (.cons x k (.cons w q ns)))
    | _ => .stop)
  | false => match p, q with
    | .mk (.num i) _, .mk (.num j) _ => givenF k (.mk (.num (i + j)) .nil) g
    | _, _ => .stop
def pickF (p : PV) (t u : Tm) (ns : PN) : Fo := match p with
  | .mk (.num i) _ => .to (if i = 0 then t else u) ns
  | _ => .stop
def askF (g : PV) (t : Tm) (ns : PN) : Fo := match g with
  | .mk .fin _ => .stop
  | _ => .to t ns
def fol (t : Tm) (ns : PN) : Fo := match t with
  | .let_ w p t => match meant p ns with
    | some v => .to t (.cons w v ns)
    | none => .bad
  | .pass k p g => match meant k ns, meant p ns, meant g ns with
    | some k, some p, some g => passedF k p g
    | _, _, _ => .bad
  | .leave g p => match meant g ns, meant p ns with
    | some g, some p => leftF g p
    | _, _ => .bad
  | .shut p k g => match meant k ns, meant p ns, meant g ns with
    | some k, some p, some g => givenF k p g
    | _, _, _ => .bad
  | .both c _ p q k g => match meant p ns, meant q ns, meant k ns, meant g ns with
    | some p, some q, some k, some g => bothF c p q k g
    | _, _, _, _ => .bad
  | .pick _ p t u => match meant p ns with
    | some p => pickF p t u ns
    | none => .bad
  | .ask _ g t => match meant g ns with
    | some g => askF g t ns
    | none => .bad
def isStp : Tm → Bool
  | .pass _ _ _ => false
  | .let_ _ _ _ => false
  | _ => true
def markT : Tm → Int
  | .both _ a _ _ _ _ => a
  | .pick a _ _ _ => a
  | .ask a _ _ => a
  | _ => 0
def tellV : PV → Option D
  | .mk (.num i) _ => some (.tup [.str "number", .int i])
  | .mk (.code fn a _ _ _ _) _ => some (.tup [.str (Str.ofString (wdC fn)), .int a])
  | _ => none
def isMk : Tm → Bool
  | .both _ _ _ _ _ _ => true
  | .pick _ _ _ _ => true
  | .ask _ _ _ => true
  | _ => false
def tellT (t : Tm) (ns : PN) : Option D := match t with
  | .pass _ p _ => match meant p ns with
    | some v => tellV v
    | none => none
  | t => if isMk t = true then some (.tup [.str "stuck", .int (markT t)]) else none
/-- what running with so much fuel ends in -/
inductive PEnds : Nat → Tm → PN → D → Prop where
  | stop {e t ns d} : fol t ns = .stop → tellT t ns = some d → PEnds e t ns d
  | adm {e t ns t' ns' d} : isStp t = false → fol t ns = .to t' ns' → PEnds e t' ns' d → PEnds e t ns d
  | dry {t ns t' ns'} : isStp t = true → fol t ns = .to t' ns' → PEnds 0 t ns (.tup [.str "dry"])
  | step {e t ns t' ns' d} : isStp t = true → fol t ns = .to t' ns' → PEnds e t' ns' d → PEnds (e + 1) t ns d
/-! ### names that are made up -/
def nmL (c : Char) (l : Nat) : Str := Str.ofString (String.ofList [c]) ++ Str.ofString (toString (l : Int))
theorem ofs_list (s : String) : (Str.ofString s).cps.toList = s.toList.map Char.toNat := by
  rw [Str.ofString_eq_toList]
theorem int_digits (l : Nat) : (toString (l : Int)).toList = Nat.toDigits 10 l := by
  rw [Int.toString_eq_repr, Int.repr_eq_if, if_pos (by omega)]
  simp
theorem nmL_list (c : Char) (l : Nat) : (nmL c l).cps.toList = c.toNat :: (Nat.toDigits 10 l).map Char.toNat := by
  unfold nmL
  rw [app_cps, ofs_list, ofs_list, int_digits]
  simp
theorem nmL_head {a b : Char} {l j : Nat} (h : nmL a l = nmL b j) : a = b := by
  have := congrArg (fun x : Str => x.cps.toList) h
  simp only [nmL_list, List.cons.injEq] at this
  exact toNat_inj this.1
theorem nmL_inj {a b : Char} {l j : Nat} (h : nmL a l = nmL b j) : l = j := by
  have := congrArg (fun x : Str => x.cps.toList) h
  simp only [nmL_list, List.cons.injEq] at this
  have h2 := map_toNat_inj this.2
  have h3 := congrArg (fun x => Nat.ofDigitChars 10 x 0) h2
  simpa [Nat.ofDigitChars_toDigits] using h3
theorem nmL_beq (a b : Char) (l j : Nat) : (nmL a l == nmL b j) = (a == b && l == j) := by
  rw [Bool.eq_iff_iff, beq_iff_eq, Bool.and_eq_true, beq_iff_eq, beq_iff_eq]
  exact ⟨fun h => ⟨nmL_head h, nmL_inj h⟩, fun h => by rw [h.1, h.2]⟩
theorem nmL_low {c : Char} {l : Nat} : ¬ Low (nmL c l) := fun h => by
  obtain ⟨x, hx⟩ : ∃ x, x ∈ Nat.toDigits 10 l := by
    cases e : Nat.toDigits 10 l with
    | nil => exact absurd e Nat.toDigits_ne_nil
    | cons x xs => exact ⟨x, by simp⟩
  have hd := Nat.isDigit_of_mem_toDigits (by decide) (by decide) hx
  have := h x.toNat (by rw [nmL_list]; exact List.mem_cons_of_mem _ (List.mem_map.mpr ⟨x, hx, rfl⟩))
  unfold Char.isDigit at hd
  simp only [Bool.and_eq_true, decide_eq_true_eq] at hd
  have h2 : x.val.toNat ≤ 57 := by
    have := UInt32.le_iff_toNat_le.mp hd.2
    exact this
  have h3 : x.toNat = x.val.toNat := rfl
  omega
theorem nmL_nm {c : Char} {l : Nat} {y : Str} (h : Nm y) : (nmL c l == y) = false := by
  rw [beq_eq_false_iff_ne]
  intro e
  exact nmL_low (c := c) (l := l) (e ▸ h.1)
theorem nm_nmL {c : Char} {l : Nat} {y : Str} (h : Nm y) : (y == nmL c l) = false := by
  rw [beq_eq_false_iff_ne]
  intro e
  exact nmL_low (c := c) (l := l) (e ▸ h.1)
/-- the term of a piece -/
def leaverS : Si := .thn "v0" "g0" (.leave (.name "g0") (.name "v0"))
def nm (c : Char) (l : Nat) : Si := .name (nmL c l)
def tmOf : RP → Si → Si → Nat → Tm
  | .fun_ a x b, k, g, l => .shut (.code true a x (nmL 'k' l) (nmL 'g' l) (tmOf b (nm 'k' l) (nm 'g' l) (l + 1))) k g
  | .call a f c, k, g, l => .let_ (nmL 'k' l) (.thn (nmL 'a' l) (nmL 'g' l) (.let_ (nmL 'l' l) (.thn (nmL 'b' l) (nmL 'h' l) (.both true a (nm 'a' l) (nm 'b' l) k (nm 'h' l))) (tmOf c (nm 'l' l) (nm 'g' l) (l + 1)))) (tmOf f (nm 'k' l) g (l + 1))
  | .plus a f c, k, g, l => .let_ (nmL 'k' l) (.thn (nmL 'a' l) (nmL 'g' l) (.let_ (nmL 'l' l) (.thn (nmL 'b' l) (nmL 'h' l) (.both false a (nm 'a' l) (nm 'b' l) k (nm 'h' l))) (tmOf c (nm 'l' l) (nm 'g' l) (l + 1)))) (tmOf f (nm 'k' l) g (l + 1))
  | .pick a c x y, k, g, l => .let_ (nmL 'k' l) (.thn (nmL 'c' l) (nmL 'g' l) (.pick a (nm 'c' l) (tmOf x k (nm 'g' l) (l + 1)) (tmOf y k (nm 'g' l) (l + 1)))) (tmOf c (nm 'k' l) g (l + 1))
  | .round b, k, g, l => .let_ (nmL 'g' l) (.last (nmL 'r' l) (.pass k (nm 'r' l) g)) (tmOf b leaverS (nm 'g' l) (l + 1))
  | .take a x b, k, g, l => .ask a g (.let_ x (.code false a (nmL 'v' l) (nmL 'k' l) (nmL 'g' l) (.pass k (nm 'v' l) (.last (nmL 'r' l) (.pass (nm 'k' l) (nm 'r' l) (nm 'g' l))))) (tmOf b leaverS g (l + 1)))
  | .num i, k, g, _ => .pass k (.num i) g
  | .name x, k, g, _ => .pass k (.name x) g
  | _, k, g, _ => .pass k .halt g
end Mi
namespace Mi
open PySem PySem.Spec PyProof.Rows L2

/-! ### the machine, with counts -/
def markP : RP → Int
  | .take a _ _ => a
  | _ => 0
def tellM (S : MS1) : D := match S.h, S.r with
  | .pc p _, _ => .tup [.str "stuck", .int (markP p)]
  | _, .cons f _ => .tup [.str "stuck", .int (markM f)]
  | .num i, .nil => .tup [.str "number", .int i]
  | .clo a _ _ _ _, .nil => .tup [.str "function", .int a]
  | .kep a _ _, .nil => .tup [.str "kept", .int a]
inductive MEnds : Nat → MS1 → D → Prop where
  | stop {e S} : move S = .stop → MEnds e S (tellM S)
  | adm {e S S' d} : move S = .to S' → S'.s = S.s → MEnds e S' d → MEnds e S d
  | dry {S S'} : move S = .to S' → S'.s = S.s + 1 → MEnds 0 S (.tup [.str "dry"])
  | step {e S S' d} : move S = .to S' → S'.s = S.s + 1 → MEnds e S' d → MEnds (e + 1) S d
theorem ends_at : ∀ (n e : Nat) {S : MS1}, mu S ≤ n → wS S → MEnds e S (tellR (lastS e (whole S)))
  | n, e, S, hn, w => by
    have h := move_whole w
    cases hm : move S with
    | bad => rw [hm] at h; exact h.elim
    | stop =>
      rw [hm] at h
      have ht : tellM S = tellR (stepR (whole S)) := by
        rcases h with ⟨h1, h2, h3, h4⟩ | ⟨a, h1, h2⟩
        · rw [h4]
          obtain ⟨hh, r, b, s⟩ := S
          simp only at h2
          subst h2
          cases hh <;> first | (exact absurd h1 Bool.false_ne_true) | rfl
        · rw [h1]
          rcases h2 with ⟨h2, f, r, h3, h4⟩ | ⟨x, c, e', h2⟩
          · obtain ⟨hh, r, b, s⟩ := S
            simp only at h3
            subst h3
            cases hh <;> first | (exact absurd h2 Bool.false_ne_true) | (simp [tellM, tellR, h4])
          · obtain ⟨hh, r, b, s⟩ := S
            simp only at h2
            subst h2
            simp [tellM, tellR, markP]
      have hl : lastS e (whole S) = stepR (whole S) := by
        cases e with
        | zero => rfl
        | succ e =>
          unfold lastS
          rcases h with ⟨_, _, _, h4⟩ | ⟨a, h1, _⟩
          · rw [h4]
          · rw [h1]
      rw [hl, ← ht]
      exact .stop hm
    | to S' =>
      rw [hm] at h
      obtain ⟨w', ⟨h1, h2, h3⟩ | ⟨h1, h2⟩⟩ := h
      · rw [← h2]
        exact .adm hm h1 (ends_at (mu S') e (Nat.le_refl _) w')
      · cases e with
        | zero =>
          have : lastS 0 (whole S) = .step (whole S') := h2
          rw [this]
          exact .dry hm h1
        | succ e =>
          have : lastS (e + 1) (whole S) = lastS e (whole S') := by rw [lastS, h2]
          rw [this]
          exact .step hm h1 (ends_at (mu S') e (Nat.le_refl _) w')
termination_by n e S => (e, mu S)
decreasing_by
  all_goals simp_wf
  · exact Prod.Lex.right _ h3
  · exact Prod.Lex.left _ _ (by omega)
theorem m_ends {S : MS1} (e : Nat) (w : wS S) : MEnds e S (tellR (lastS e (whole S))) := ends_at _ e (Nat.le_refl _) w

/-! ### the plain term and the machine -/
def kOk (k : Si) (l : Nat) : Prop := k = .halt ∨ k = leaverS ∨ ∃ j, j < l ∧ (k = nm 'k' j ∨ k = nm 'l' j)
def gOk (g : Si) (l : Nat) : Prop := g = .fin ∨ ∃ j, j < l ∧ g = nm 'g' j
mutual
inductive VR : PV → HD → Prop where
  | num (i : Int) : VR (.mk (.num i) .nil) (.num i)
  | clo {a x b e n l ns sc} {H : Str → HD} {V : Str → PV} : pcs b (x :: sc) → (∀ y ∈ sc, e.get y = some (H y)) → (∀ y ∈ sc, ns.get y = some (V y)) → (∀ y ∈ sc, VR (V y) (H y)) →
      VR (.mk (.code true a x (nmL 'k' l) (nmL 'g' l) (tmOf b (nm 'k' l) (nm 'g' l) (l + 1))) ns) (.clo a x b e n)
  | kep {a r n l k ns K} : meant k ns = some K → KR K r true → kOk k l →
      VR (.mk (.code false a (nmL 'v' l) (nmL 'k' l) (nmL 'g' l) (.pass k (nm 'v' l) (.last (nmL 'r' l) (.pass (nm 'k' l) (nm 'r' l) (nm 'g' l))))) ns) (.kep a r n)
inductive KR : PV → NR → Bool → Prop where
  | halt : KR (.mk .halt .nil) .nil false
  | leaver {ns} : KR (.mk leaverS ns) .nil true
  | fst {c a l k p ns e h r rd K sc q} {H : Str → HD} {V : Str → PV} : hold p e = some h → pcs p sc → (∀ y ∈ sc, e.get y = some (H y)) → (∀ y ∈ sc, ns.get y = some (V y)) → (∀ y ∈ sc, VR (V y) (H y)) →
      meant k ns = some K → KR K r rd → kOk k l → q = .cons (if c then .caller a h else .adder a h) r →
      KR (.mk (.thn (nmL 'a' l) (nmL 'g' l) (.let_ (nmL 'l' l) (.thn (nmL 'b' l) (nmL 'h' l) (.both c a (nm 'a' l) (nm 'b' l) k (nm 'h' l))) (tmOf p (nm 'l' l) (nm 'g' l) (l + 1)))) ns) q rd
  | snd {c a l k ns v W r rd K q} : ns.get (nmL 'a' l) = some W → VR W v → meant k ns = some K → KR K r rd → kOk k l → q = .cons (if c then .given a v else .added a v) r →
      KR (.mk (.thn (nmL 'b' l) (nmL 'h' l) (.both c a (nm 'a' l) (nm 'b' l) k (nm 'h' l))) ns) q rd
  | pick {a l k x y ns e h g r rd K sc} {H : Str → HD} {V : Str → PV} : hold x e = some h → hold y e = some g → pcs x sc → pcs y sc → (∀ y ∈ sc, e.get y = some (H y)) → (∀ y ∈ sc, ns.get y = some (V y)) → (∀ y ∈ sc, VR (V y) (H y)) →
      meant k ns = some K → KR K r rd → kOk k l →
      KR (.mk (.thn (nmL 'c' l) (nmL 'g' l) (.pick a (nm 'c' l) (tmOf x k (nm 'g' l) (l + 1)) (tmOf y k (nm 'g' l) (l + 1)))) ns) (.cons (.picker a h g) r) rd
end
inductive GR : PV → List NR → Prop where
  | nil : GR (.mk .fin .nil) []
  | cons {l k g ns K G r b} : meant k ns = some K → KR K r (!b.isEmpty) → kOk k (l + 1) → meant g ns = some G → GR G b → gOk g (l + 1) → GR (.mk (.last (nmL 'r' l) (.pass k (nm 'r' l) g)) ns) (r :: b)
/-- the names that a piece needs -/
def ER (sc : List Str) (e : EN) (ns : PN) : Prop := ∃ (H : Str → HD) (V : Str → PV), (∀ y ∈ sc, e.get y = some (H y)) ∧ (∀ y ∈ sc, ns.get y = some (V y)) ∧ (∀ y ∈ sc, VR (V y) (H y))
theorem ER.at_ {sc : List Str} {e : EN} {ns : PN} (h : ER sc e ns) {y : Str} (hy : y ∈ sc) : ∃ g v, e.get y = some g ∧ ns.get y = some v ∧ VR v g := by
  obtain ⟨H, V, h1, h2, h3⟩ := h
  exact ⟨_, _, h1 y hy, h2 y hy, h3 y hy⟩
theorem ER.fresh {sc : List Str} {e : EN} {ns : PN} (h : ER sc e ns) (hs : ∀ y ∈ sc, Nm y) (c : Char) (l : Nat) (v : PV) : ER sc e (.cons (nmL c l) v ns) := by
  obtain ⟨H, V, h1, h2, h3⟩ := h
  exact ⟨H, V, h1, fun y hy => by simp only [PN.get, nmL_nm (hs y hy)]; exact h2 y hy, h3⟩
theorem ER.cons {sc : List Str} {e : EN} {ns : PN} {v : PV} {g : HD} (h : ER sc e ns) (x : Str) (hv : VR v g) : ER (x :: sc) (.cons x g e) (.cons x v ns) := by
  obtain ⟨H, V, h1, h2, h3⟩ := h
  refine ⟨fun y => if x == y then g else H y, fun y => if x == y then v else V y, fun y hy => ?_, fun y hy => ?_, fun y hy => ?_⟩
  · simp only [EN.get]
    by_cases e : (x == y) = true
    · simp only [e, if_true]
    · simp only [e, if_false]
      rcases List.mem_cons.mp hy with rfl | hy
      · simp at e
      · exact h1 y hy
  · simp only [PN.get]
    by_cases e : (x == y) = true
    · simp only [e, if_true]
    · simp only [e, if_false]
      rcases List.mem_cons.mp hy with rfl | hy
      · simp at e
      · exact h2 y hy
  · by_cases e : (x == y) = true
    · simp only [e, if_true]; exact hv
    · simp only [e, if_false]
      rcases List.mem_cons.mp hy with rfl | hy
      · simp at e
      · exact h3 y hy
theorem KR.inv {K : PV} {q : NR} {rd : Bool} (h : KR K q rd) : (K = .mk .halt .nil ∧ q = .nil ∧ rd = false) ∨ (∃ ns, K = .mk leaverS ns ∧ q = .nil ∧ rd = true) ∨
    (∃ c a l k p ns e h r K' sc, K = .mk (.thn (nmL 'a' l) (nmL 'g' l) (.let_ (nmL 'l' l) (.thn (nmL 'b' l) (nmL 'h' l) (.both c a (nm 'a' l) (nm 'b' l) k (nm 'h' l))) (tmOf p (nm 'l' l) (nm 'g' l) (l + 1)))) ns ∧
      q = .cons (if c then .caller a h else .adder a h) r ∧ hold p e = some h ∧ pcs p sc ∧ ER sc e ns ∧ meant k ns = some K' ∧ KR K' r rd ∧ kOk k l) ∨
    (∃ c a l k ns v W r K', K = .mk (.thn (nmL 'b' l) (nmL 'h' l) (.both c a (nm 'a' l) (nm 'b' l) k (nm 'h' l))) ns ∧ q = .cons (if c then .given a v else .added a v) r ∧ ns.get (nmL 'a' l) = some W ∧ VR W v ∧ meant k ns = some K' ∧ KR K' r rd ∧ kOk k l) ∨
    (∃ a l k x y ns e h g r K' sc, K = .mk (.thn (nmL 'c' l) (nmL 'g' l) (.pick a (nm 'c' l) (tmOf x k (nm 'g' l) (l + 1)) (tmOf y k (nm 'g' l) (l + 1)))) ns ∧ q = .cons (.picker a h g) r ∧
      hold x e = some h ∧ hold y e = some g ∧ pcs x sc ∧ pcs y sc ∧ ER sc e ns ∧ meant k ns = some K' ∧ KR K' r rd ∧ kOk k l) := by
  cases h with
  | halt => exact .inl ⟨rfl, rfl, rfl⟩
  | leaver => exact .inr (.inl ⟨_, rfl, rfl, rfl⟩)
  | fst h1 h2 h3 h4 h5 h6 h7 h8 h9 => exact .inr (.inr (.inl ⟨_, _, _, _, _, _, _, _, _, _, _, rfl, h9, h1, h2, ⟨_, _, h3, h4, h5⟩, h6, h7, h8⟩))
  | snd h1 h2 h3 h4 h5 h6 => exact .inr (.inr (.inr (.inl ⟨_, _, _, _, _, _, _, _, _, rfl, h6, h1, h2, h3, h4, h5⟩)))
  | pick h1 h2 h3 h4 h5 h6 h7 h8 h9 h10 => exact .inr (.inr (.inr (.inr ⟨_, _, _, _, _, _, _, _, _, _, _, _, rfl, rfl, h1, h2, h3, h4, ⟨_, _, h5, h6, h7⟩, h8, h9, h10⟩)))
theorem KR.leave {ns ns' : PN} {q : NR} {rd : Bool} (h : KR (.mk leaverS ns) q rd) : KR (.mk leaverS ns') q rd := by
  rcases h.inv with ⟨h, _⟩ | ⟨_, _, rfl, rfl⟩ | ⟨c, a, l, k, p, n2, e, hh, r, K', sc, h, _⟩ | ⟨c, a, l, k, n2, v, W, r, K', h, _⟩ | ⟨a, l, k, x, y, n2, e, hh, g, r, K', sc, h, _⟩
  · simp [leaverS] at h
  · exact .leaver
  · simp [leaverS] at h
  · simp [leaverS] at h
  · simp [leaverS] at h
/-- what k means elsewhere -/
theorem meant_k {k : Si} {l : Nat} {ns ns' : PN} {K : PV} {r : NR} {rd : Bool} (hk : kOk k l) (hn : ∀ c j, j < l → (c = 'k' ∨ c = 'l') → ns'.get (nmL c j) = ns.get (nmL c j)) (h : meant k ns = some K) (h2 : KR K r rd) : ∃ K', meant k ns' = some K' ∧ KR K' r rd := by
  rcases hk with rfl | rfl | ⟨j, hj, rfl | rfl⟩
  · exact ⟨K, h, h2⟩
  · simp only [meant, leaverS, Option.some.injEq] at h
    subst h
    exact ⟨_, rfl, h2.leave⟩
  · exact ⟨K, by simpa [meant, nm, hn 'k' j hj (.inl rfl)] using h, h2⟩
  · exact ⟨K, by simpa [meant, nm, hn 'l' j hj (.inr rfl)] using h, h2⟩
theorem meant_g {g : Si} {l : Nat} {ns ns' : PN} {G : PV} (hg : gOk g l) (hn : ∀ j, j < l → ns'.get (nmL 'g' j) = ns.get (nmL 'g' j)) (h : meant g ns = some G) : meant g ns' = some G := by
  rcases hg with rfl | ⟨j, hj, rfl⟩
  · exact h
  · simpa [meant, nm, hn j hj] using h
theorem kOk.mono {k : Si} {l j : Nat} (h : kOk k l) (hl : l ≤ j) : kOk k j := by
  rcases h with h | h | ⟨i, hi, h⟩
  · exact .inl h
  · exact .inr (.inl h)
  · exact .inr (.inr ⟨i, by omega, h⟩)
theorem gOk.mono {k : Si} {l j : Nat} (h : gOk k l) (hl : l ≤ j) : gOk k j := by
  rcases h with h | ⟨i, hi, h⟩
  · exact .inl h
  · exact .inr ⟨i, by omega, h⟩
theorem VR.val {V : PV} {v : HD} (h : VR V v) : v.isVal = true := by cases h <;> rfl
def RelE (S : MS1) (t : Tm) (ns : PN) : Prop := ∃ p e k g l sc K G, t = tmOf p k g l ∧ hold p e = some S.h ∧ pcs p sc ∧ ER sc e ns ∧ kOk k l ∧ gOk g l ∧ meant k ns = some K ∧ KR K S.r (!S.b.isEmpty) ∧ meant g ns = some G ∧ GR G S.b
def RelR (S : MS1) (t : Tm) (ns : PN) : Prop := ∃ ks ps gs V K G, t = .pass ks ps gs ∧ meant ps ns = some V ∧ VR V S.h ∧ meant ks ns = some K ∧ KR K S.r (!S.b.isEmpty) ∧ meant gs ns = some G ∧ GR G S.b
def Rel (S : MS1) (t : Tm) (ns : PN) : Prop := RelE S t ns ∨ RelR S t ns
theorem rel_val {S : MS1} {t : Tm} {ns : PN} (h : RelE S t ns) (hv : S.h.isVal = true) : RelR S t ns := by
  obtain ⟨hh, r, b, s⟩ := S
  obtain ⟨p, e, k, g, l, sc, K, G, rfl, h1, h2, h3, h4, h5, h6, h7, h8, h9⟩ := h
  simp only at h1 h7 h9 hv
  have no : ∀ q, hold p e = some (.pc q e) → False := fun q hq => by
    rw [h1] at hq
    cases hq
    exact Bool.false_ne_true hv
  cases p with
  | name y =>
    have hy : y ∈ sc := by simpa [pc] using h2.1
    obtain ⟨w, V, k1, k2, k3⟩ := h3.at_ hy
    simp only [hold] at h1
    rw [h1] at k1
    cases k1
    exact ⟨k, .name y, g, V, K, G, rfl, k2, k3, h6, h7, h8, h9⟩
  | num i =>
    cases h1
    exact ⟨k, .num i, g, .mk (.num i) .nil, K, G, rfl, rfl, .num i, h6, h7, h8, h9⟩
  | shut _ _ _ => exact absurd h2.1 (by simp [pc])
  | kept _ _ => exact absurd h2.1 (by simp [pc])
  | _ => exact (no _ rfl).elim
inductive AdmS : Tm → PN → Tm → PN → Prop where
  | refl {t ns} : AdmS t ns t ns
  | head {t ns t1 n1 t2 n2} : isStp t = false → fol t ns = .to t1 n1 → AdmS t1 n1 t2 n2 → AdmS t ns t2 n2
theorem AdmS.ends {t ns t' ns'} (h : AdmS t ns t' ns') {e : Nat} {d : D} (q : PEnds e t' ns' d) : PEnds e t ns d := by
  induction h with
  | refl => exact q
  | head h1 h2 _ ih => exact .adm h1 h2 (ih q)
/-- one move of the machine, told of the plain term -/
def Sim1 (S : MS1) (t : Tm) (ns : PN) : Mv → Prop
  | .to S' => (S'.s = S.s ∧ ∃ t' ns', AdmS t ns t' ns' ∧ Rel S' t' ns') ∨ (S'.s = S.s + 1 ∧ ∃ t1 n1 t2 n2 t' ns', AdmS t ns t1 n1 ∧ isStp t1 = true ∧ fol t1 n1 = .to t2 n2 ∧ AdmS t2 n2 t' ns' ∧ Rel S' t' ns')
  | .stop => ∃ t1 n1, AdmS t ns t1 n1 ∧ fol t1 n1 = .stop ∧ tellT t1 n1 = some (tellM S)
  | .bad => True
theorem sim_of (hs : ∀ S t ns, Rel S t ns → Sim1 S t ns (move S)) {e : Nat} {S : MS1} {d : D} (h : MEnds e S d) : ∀ t ns, Rel S t ns → PEnds e t ns d := by
  induction h with
  | @stop e S hm =>
    intro t ns R
    have := hs S t ns R
    rw [hm] at this
    obtain ⟨t1, n1, h1, h2, h3⟩ := this
    exact h1.ends (.stop h2 h3)
  | @adm e S S' d hm h0 _ ih =>
    intro t ns R
    have := hs S t ns R
    rw [hm] at this
    rcases this with ⟨_, t', ns', h1, h2⟩ | ⟨h1, _⟩
    · exact h1.ends (ih _ _ h2)
    · omega
  | @dry S S' hm h0 =>
    intro t ns R
    have := hs S t ns R
    rw [hm] at this
    rcases this with ⟨h1, _⟩ | ⟨_, t1, n1, t2, n2, t', ns', h1, h2, h3, h4, h5⟩
    · omega
    · exact h1.ends (.dry h2 h3)
  | @step e S S' d hm h0 _ ih =>
    intro t ns R
    have := hs S t ns R
    rw [hm] at this
    rcases this with ⟨h1, _⟩ | ⟨_, t1, n1, t2, n2, t', ns', h1, h2, h3, h4, h5⟩
    · omega
    · exact h1.ends (.step h2 h3 (h4.ends (ih _ _ h5)))
end Mi
namespace Mi
open PySem PySem.Spec PyProof.Rows L2

theorem hold_er {q : RP} {e : EN} {ns : PN} {sc : List Str} (h : pcs q sc) (r : ER sc e ns) : ∃ h, hold q e = some h := by
  cases q with
  | name y =>
    have hy : y ∈ sc := by simpa [pc] using h.1
    obtain ⟨g, _, k, _⟩ := r.at_ hy
    exact ⟨g, k⟩
  | shut _ _ _ => exact absurd h.1 (by simp [pc])
  | kept _ _ => exact absurd h.1 (by simp [pc])
  | _ => exact ⟨_, rfl⟩
theorem rel_giv {S : MS1} {V K G : PV} (hV : VR V S.h) (hK : KR K S.r (!S.b.isEmpty)) (hG : GR G S.b) : Rel S givingT (.cons "k" K (.cons "p" V (.cons "g" G .nil))) :=
  .inr ⟨_, _, _, V, K, G, rfl, by simp [meant, PN.get], hV, by simp [meant, PN.get], hK, by simp [meant, PN.get], hG⟩
theorem sim_ev {S : MS1} {t : Tm} {ns : PN} (R : RelE S t ns) (hv : S.h.isVal = false) : Sim1 S t ns (move S) := by
  obtain ⟨p, e, k, g, l, sc, K, G, rfl, h1, h2, h3, h4, h5, h6, h7, h8, h9⟩ := R
  obtain ⟨hh, r, b, s⟩ := S
  simp only at h1 h7 h9 hv
  have hs := h2.2
  cases p with
  | name y =>
    exfalso
    have hy : y ∈ sc := by simpa [pc] using h2.1
    obtain ⟨w, V, k1, k2, k3⟩ := h3.at_ hy
    simp only [hold] at h1
    rw [h1] at k1
    cases k1
    rw [k3.val] at hv
    cases hv
  | num i => cases h1; cases hv
  | shut _ _ _ => exact absurd h2.1 (by simp [pc])
  | kept _ _ => exact absurd h2.1 (by simp [pc])
  | fun_ a x c =>
    cases h1
    have hc := pcs_kids (q := c) h2 (by simp [kids])
    obtain ⟨H, V, q1, q2, q3⟩ := h3
    refine .inr ⟨rfl, _, _, _, _, _, _, .refl, rfl, ?_, .refl, rel_giv (.clo (l := l) hc q1 q2 q3) h7 h9⟩
    simp only [tmOf, fol, h6, h8]
    rfl
  | call a f c =>
    cases h1
    have pf := pcs_kids (q := f) h2 (by simp [kids])
    have pc' := pcs_kids (q := c) h2 (by simp [kids])
    obtain ⟨f', hf⟩ := hold_er pf h3
    obtain ⟨c', hc⟩ := hold_er pc' h3
    have hm : move ⟨.pc (.call a f c) e, r, b, s⟩ = .to ⟨f', .cons (.caller a c') r, b, s⟩ := by simp [move, entM, hf, hc]
    rw [hm]
    have h3' := h3
    obtain ⟨H, V, q1, q2, q3⟩ := h3
    refine .inl ⟨rfl, _, _, .head rfl rfl .refl, .inl ⟨f, e, nm 'k' l, g, l + 1, sc, _, G, rfl, hf, pf, h3'.fresh hs _ _ _, .inr (.inr ⟨l, by omega, .inl rfl⟩), h5.mono (by omega), by simp [meant, nm, PN.get],
      .fst (c := true) hc pc' q1 q2 q3 h6 h7 h4 rfl, meant_g h5 (fun j hj => by simp [PN.get, nmL_beq]) h8, h9⟩⟩
  | plus a f c =>
    cases h1
    have pf := pcs_kids (q := f) h2 (by simp [kids])
    have pc' := pcs_kids (q := c) h2 (by simp [kids])
    obtain ⟨f', hf⟩ := hold_er pf h3
    obtain ⟨c', hc⟩ := hold_er pc' h3
    have hm : move ⟨.pc (.plus a f c) e, r, b, s⟩ = .to ⟨f', .cons (.adder a c') r, b, s⟩ := by simp [move, entM, hf, hc]
    rw [hm]
    have h3' := h3
    obtain ⟨H, V, q1, q2, q3⟩ := h3
    refine .inl ⟨rfl, _, _, .head rfl rfl .refl, .inl ⟨f, e, nm 'k' l, g, l + 1, sc, _, G, rfl, hf, pf, h3'.fresh hs _ _ _, .inr (.inr ⟨l, by omega, .inl rfl⟩), h5.mono (by omega), by simp [meant, nm, PN.get],
      .fst (c := false) hc pc' q1 q2 q3 h6 h7 h4 rfl, meant_g h5 (fun j hj => by simp [PN.get, nmL_beq]) h8, h9⟩⟩
  | pick a c x y =>
    cases h1
    have pc' := pcs_kids (q := c) h2 (by simp [kids])
    have px := pcs_kids (q := x) h2 (by simp [kids])
    have py := pcs_kids (q := y) h2 (by simp [kids])
    obtain ⟨c', hc⟩ := hold_er pc' h3
    obtain ⟨x', hx⟩ := hold_er px h3
    obtain ⟨y', hy⟩ := hold_er py h3
    have hm : move ⟨.pc (.pick a c x y) e, r, b, s⟩ = .to ⟨c', .cons (.picker a x' y') r, b, s⟩ := by simp [move, entM, hc, hx, hy]
    rw [hm]
    have h3' := h3
    obtain ⟨H, V, q1, q2, q3⟩ := h3
    refine .inl ⟨rfl, _, _, .head rfl rfl .refl, .inl ⟨c, e, nm 'k' l, g, l + 1, sc, _, G, rfl, hc, pc', h3'.fresh hs _ _ _, .inr (.inr ⟨l, by omega, .inl rfl⟩), h5.mono (by omega), by simp [meant, nm, PN.get],
      .pick hx hy px py q1 q2 q3 h6 h7 h4, meant_g h5 (fun j hj => by simp [PN.get, nmL_beq]) h8, h9⟩⟩
  | round c =>
    cases h1
    have pc' := pcs_kids (q := c) h2 (by simp [kids])
    obtain ⟨c', hc⟩ := hold_er pc' h3
    have hm : move ⟨.pc (.round c) e, r, b, s⟩ = .to ⟨c', .nil, r :: b, s⟩ := by simp [move, entM, hc, hold1]
    rw [hm]
    refine .inl ⟨rfl, _, _, .head rfl rfl .refl, .inl ⟨c, e, leaverS, nm 'g' l, l + 1, sc, _, _, rfl, hc, pc', h3.fresh hs _ _ _, .inr (.inl rfl), .inr ⟨l, by omega, rfl⟩, rfl,
      .leaver, by simp [meant, nm, PN.get], .cons (l := l) h6 h7 (h4.mono (by omega)) h8 h9 (h5.mono (by omega))⟩⟩
  | take a x c =>
    cases h1
    have pc' := pcs_kids (q := c) h2 (by simp [kids])
    have hx : Nm x := by have := h2.1; simp only [pc] at this; exact this.2.1
    cases b with
    | nil =>
      cases h9
      refine ⟨_, _, .refl, ?_, rfl⟩
      simp only [tmOf, fol, h8, askF]
    | cons r1 b =>
      have hV : VR (.mk (.code false a (nmL 'v' l) (nmL 'k' l) (nmL 'g' l) (.pass k (nm 'v' l) (.last (nmL 'r' l) (.pass (nm 'k' l) (nm 'r' l) (nm 'g' l))))) ns) (.kep a r (s + 1)) := .kep h6 h7 h4
      have E := h3.cons x hV
      obtain ⟨c', hc⟩ := hold_er pc' E
      have hm : move ⟨.pc (.take a x c) e, r, r1 :: b, s⟩ = .to ⟨c', .nil, r1 :: b, s + 1⟩ := by simp [move, entM, hc, hold1]
      rw [hm]
      have hf : fol (tmOf (.take a x c) k g l) ns = .to (.let_ x (.code false a (nmL 'v' l) (nmL 'k' l) (nmL 'g' l) (.pass k (nm 'v' l) (.last (nmL 'r' l) (.pass (nm 'k' l) (nm 'r' l) (nm 'g' l))))) (tmOf c leaverS g (l + 1))) ns := by
        simp only [tmOf, fol, h8]
        cases h9
        rfl
      refine .inr ⟨rfl, _, _, _, _, _, _, .refl, rfl, hf, .head rfl rfl .refl, .inl ⟨c, _, leaverS, g, l + 1, _, _, G, rfl, hc, pc', E, .inr (.inl rfl), h5.mono (by omega), rfl, .leaver,
        meant_g h5 (fun j hj => by simp [PN.get, nm_nmL hx]) h8, h9⟩⟩
theorem move_v {v : HD} (hv : v.isVal = true) (f : MF) (r : NR) (b : List NR) (s : Nat) : move ⟨v, .cons f r, b, s⟩ = retM v f r b s := by
  cases v <;> first | (exact absurd hv Bool.false_ne_true) | rfl
theorem sim_ret {S : MS1} {t : Tm} {ns : PN} (R : RelR S t ns) : Sim1 S t ns (move S) := by
  obtain ⟨ks, ps, gs, V, K, G, rfl, h1, h2, h3, h4, h5, h6⟩ := R
  obtain ⟨v, r, b, s⟩ := S
  simp only at h2 h4 h6
  have hv := h2.val
  have hf : fol (.pass ks ps gs) ns = passedF K V G := by simp [fol, h1, h3, h5]
  rcases h4.inv with ⟨rfl, rfl, hb⟩ | ⟨nsL, rfl, rfl, hb⟩ | ⟨c, a, l, k, p, nk, e, h, r', K', sc, rfl, rfl, g1, g2, g3, g4, g5, g6⟩ | ⟨c, a, l, k, nk, w, W, r', K', rfl, rfl, g1, g2, g3, g4, g5⟩ | ⟨a, l, k, x, y, nk, e, h, g, r', K', sc, rfl, rfl, g1, g2, g3, g4, g5, g6, g7, g8⟩
  · have hb : b = [] := by cases b with | nil => rfl | cons _ _ => simp at hb
    subst hb
    have hm : move ⟨v, .nil, [], s⟩ = .stop := by cases v <;> first | (exact absurd hv Bool.false_ne_true) | rfl
    rw [hm]
    refine ⟨_, _, .refl, by rw [hf]; rfl, ?_⟩
    simp only [tellT, h1]
    cases h2 <;> rfl
  · cases b with
    | nil => simp at hb
    | cons r1 b =>
      have hm : move ⟨v, .nil, r1 :: b, s⟩ = .to ⟨v, r1, b, s + 1⟩ := by cases v <;> first | (exact absurd hv Bool.false_ne_true) | rfl
      rw [hm]
      cases h6 with
      | @cons l k g nsG K2 G2 _ _ q1 q2 q3 q4 q5 q6 =>
        obtain ⟨K3, k1, k2⟩ := meant_k (ns' := .cons (nmL 'r' l) V nsG) q3 (fun c j hj hc => by rcases hc with rfl | rfl <;> simp [PN.get, nmL_beq]) q1 q2
        refine .inr ⟨rfl, _, _, _, _, _, _, .head rfl (hf.trans rfl) .refl, rfl, ?_, .refl, .inr ⟨k, nm 'r' l, g, V, K3, G2, rfl, by simp [meant, nm, PN.get], h2, k1, k2, meant_g q6 (fun j hj => by simp [PN.get, nmL_beq]) q4, q5⟩⟩
        simp [fol, meant, PN.get, leftF]
  · have hs := g2.2
    obtain ⟨K3, k1, k2⟩ := meant_k (ns' := .cons (nmL 'g' l) G (.cons (nmL 'a' l) V nk)) g6 (fun c j hj hc => by rcases hc with rfl | rfl <;> simp [PN.get, nmL_beq]) g4 g5
    have E := ((g3.fresh hs 'a' l V).fresh hs 'g' l G).fresh hs 'l' l (.mk (.thn (nmL 'b' l) (nmL 'h' l) (.both c a (nm 'a' l) (nm 'b' l) k (nm 'h' l))) (.cons (nmL 'g' l) G (.cons (nmL 'a' l) V nk)))
    have key : ∀ q, q = NR.cons (if c then .given a v else .added a v) r' → Rel ⟨h, q, b, s⟩ (tmOf p (nm 'l' l) (nm 'g' l) (l + 1)) (.cons (nmL 'l' l) (.mk (.thn (nmL 'b' l) (nmL 'h' l) (.both c a (nm 'a' l) (nm 'b' l) k (nm 'h' l))) (.cons (nmL 'g' l) G (.cons (nmL 'a' l) V nk))) (.cons (nmL 'g' l) G (.cons (nmL 'a' l) V nk))) := fun q hq =>
      .inl ⟨p, e, nm 'l' l, nm 'g' l, l + 1, sc, _, G, rfl, g1, g2, E, .inr (.inr ⟨l, by omega, .inr rfl⟩), .inr ⟨l, by omega, rfl⟩, by simp [meant, nm, PN.get],
        .snd (c := c) (by simp [PN.get, nmL_beq]) h2 k1 k2 g6 hq, by simp [meant, nm, PN.get, nmL_beq], h6⟩
    cases c with
    | true =>
      rw [show (if true = true then MF.caller a h else .adder a h) = .caller a h from rfl, move_v hv]
      exact .inl ⟨rfl, _, _, .head rfl (hf.trans rfl) (.head rfl rfl .refl), key _ rfl⟩
    | false =>
      rw [show (if false = true then MF.caller a h else .adder a h) = .adder a h from rfl, move_v hv]
      exact .inl ⟨rfl, _, _, .head rfl (hf.trans rfl) (.head rfl rfl .refl), key _ rfl⟩
  · obtain ⟨K3, k1, k2⟩ := meant_k (ns' := .cons (nmL 'h' l) G (.cons (nmL 'b' l) V nk)) g5 (fun c j hj hc => by rcases hc with rfl | rfl <;> simp [PN.get, nmL_beq]) g3 g4
    have hb : fol (.both c a (nm 'a' l) (nm 'b' l) k (nm 'h' l)) (.cons (nmL 'h' l) G (.cons (nmL 'b' l) V nk)) = bothF c W V K3 G := by
      have ha : meant (nm 'a' l) (.cons (nmL 'h' l) G (.cons (nmL 'b' l) V nk)) = some W := by simp [meant, nm, PN.get, nmL_beq, g1]
      have hb : meant (nm 'b' l) (.cons (nmL 'h' l) G (.cons (nmL 'b' l) V nk)) = some V := by simp [meant, nm, PN.get, nmL_beq]
      have hh : meant (nm 'h' l) (.cons (nmL 'h' l) G (.cons (nmL 'b' l) V nk)) = some G := by simp [meant, nm, PN.get]
      simp only [fol, k1, ha, hb, hh]
    have first : ∀ {t2 n2}, AdmS (.both c a (nm 'a' l) (nm 'b' l) k (nm 'h' l)) (.cons (nmL 'h' l) G (.cons (nmL 'b' l) V nk)) t2 n2 → AdmS (.pass ks ps gs) ns t2 n2 := fun h => .head rfl (hf.trans rfl) h
    cases c with
    | true =>
      rw [show (if true = true then MF.given a w else .added a w) = .given a w from rfl] at h4 ⊢
      rw [move_v hv]
      cases g2 with
      | num i => exact ⟨_, _, first .refl, by rw [hb]; rfl, by cases v <;> first | (exact absurd hv Bool.false_ne_true) | rfl⟩
      | @clo a' x b' e n l' ns' sc H V' q1 q2 q3 q4 =>
        have E := (((ER.cons (show ER sc e ns' from ⟨H, V', q2, q3, q4⟩) x h2).fresh q1.2 'k' l' K3).fresh q1.2 'g' l' G)
        obtain ⟨c', hc⟩ := hold_er q1 E
        have hm : retM v (.given a (.clo a' x b' e n)) r' b s = .to ⟨c', r', b, s + 1⟩ := by simp [retM, callM, hc, hold1]
        rw [hm]
        exact .inr ⟨rfl, _, _, _, _, _, _, first .refl, rfl, hb.trans rfl, .refl, .inl ⟨b', _, nm 'k' l', nm 'g' l', l' + 1, _, K3, G, rfl, hc, q1, E, .inr (.inr ⟨l', by omega, .inl rfl⟩), .inr ⟨l', by omega, rfl⟩,
          by simp [meant, nm, PN.get, nmL_beq], k2, by simp [meant, nm, PN.get, nmL_beq], h6⟩⟩
      | @kep a' q n l' k' ns' K' q1 q2 q3 =>
        obtain ⟨K4, m1, m2⟩ := meant_k (ns' := .cons (nmL 'g' l') G (.cons (nmL 'k' l') K3 (.cons (nmL 'v' l') V ns'))) q3 (fun c j hj hc => by
          have : l' ≠ j := by omega
          rcases hc with rfl | rfl <;> simp [PN.get, nmL_beq, this]) q1 q2
        exact .inr ⟨rfl, _, _, _, _, _, _, first .refl, rfl, hb.trans rfl, .refl, .inr ⟨k', nm 'v' l', .last (nmL 'r' l') (.pass (nm 'k' l') (nm 'r' l') (nm 'g' l')), V, K4, _, rfl, by simp [meant, nm, PN.get, nmL_beq], h2, m1, m2, rfl,
          .cons (K := K3) (G := G) (by simp [meant, nm, PN.get, nmL_beq]) k2 (.inr (.inr ⟨l', Nat.lt_succ_self _, .inl rfl⟩)) (by simp [meant, nm, PN.get, nmL_beq]) h6 (.inr ⟨l', by omega, rfl⟩)⟩⟩
    | false =>
      rw [show (if false = true then MF.given a w else .added a w) = .added a w from rfl] at h4 ⊢
      rw [move_v hv]
      cases g2 with
      | num i =>
        cases h2 with
        | num j => exact .inr ⟨rfl, _, _, _, _, _, _, first .refl, rfl, hb.trans rfl, .refl, rel_giv (.num _) k2 h6⟩
        | clo _ _ _ _ => exact ⟨_, _, first .refl, by rw [hb]; rfl, rfl⟩
        | kep _ _ _ => exact ⟨_, _, first .refl, by rw [hb]; rfl, rfl⟩
      | clo _ _ _ _ =>
        exact ⟨_, _, first .refl, by rw [hb]; cases V; rfl, by cases v <;> first | (exact absurd hv Bool.false_ne_true) | rfl⟩
      | kep _ _ _ => exact ⟨_, _, first .refl, by rw [hb]; cases V; rfl, by cases v <;> first | (exact absurd hv Bool.false_ne_true) | rfl⟩
  · have hs := g3.2
    obtain ⟨K3, k1, k2⟩ := meant_k (ns' := .cons (nmL 'g' l) G (.cons (nmL 'c' l) V nk)) g8 (fun c j hj hc => by rcases hc with rfl | rfl <;> simp [PN.get, nmL_beq]) g6 g7
    have E := (g5.fresh hs 'c' l V).fresh hs 'g' l G
    have hb : fol (.pick a (nm 'c' l) (tmOf x k (nm 'g' l) (l + 1)) (tmOf y k (nm 'g' l) (l + 1))) (.cons (nmL 'g' l) G (.cons (nmL 'c' l) V nk)) = pickF V (tmOf x k (nm 'g' l) (l + 1)) (tmOf y k (nm 'g' l) (l + 1)) (.cons (nmL 'g' l) G (.cons (nmL 'c' l) V nk)) := by
      simp [fol, meant, nm, PN.get, nmL_beq]
    have first : ∀ {t2 n2}, AdmS (.pick a (nm 'c' l) (tmOf x k (nm 'g' l) (l + 1)) (tmOf y k (nm 'g' l) (l + 1))) (.cons (nmL 'g' l) G (.cons (nmL 'c' l) V nk)) t2 n2 → AdmS (.pass ks ps gs) ns t2 n2 := fun h => .head rfl (hf.trans rfl) h
    rw [move_v hv]
    cases h2 with
    | num i =>
      by_cases hi : i = 0
      · subst hi
        exact .inr ⟨rfl, _, _, _, _, _, _, first .refl, rfl, hb.trans rfl, .refl, .inl ⟨x, e, k, nm 'g' l, l + 1, sc, K3, G, rfl, g1, g3, E, g8.mono (by omega), .inr ⟨l, by omega, rfl⟩, k1, k2, by simp [meant, nm, PN.get], h6⟩⟩
      · have hm : retM (.num i) (.picker a h g) r' b s = .to ⟨g, r', b, s + 1⟩ := by simp [retM, hi]
        rw [hm]
        exact .inr ⟨rfl, _, _, _, _, _, _, first .refl, rfl, hb.trans (by simp only [pickF, hi, if_false]), .refl, .inl ⟨y, e, k, nm 'g' l, l + 1, sc, K3, G, rfl, g2, g4, E, g8.mono (by omega), .inr ⟨l, by omega, rfl⟩, k1, k2, by simp [meant, nm, PN.get], h6⟩⟩
    | clo _ _ _ _ => exact ⟨_, _, first .refl, by rw [hb]; rfl, rfl⟩
    | kep _ _ _ => exact ⟨_, _, first .refl, by rw [hb]; rfl, rfl⟩
theorem sim_ok (S : MS1) (t : Tm) (ns : PN) (R : Rel S t ns) : Sim1 S t ns (move S) := by
  rcases R with R | R
  · cases hv : S.h.isVal with
    | true => exact sim_ret (rel_val R hv)
    | false => exact sim_ev R hv
  · exact sim_ret R
/-- the plain term of a closed piece ends as steps do -/
theorem p_ends {p : RP} (hp : pcs p []) (e : Nat) : PEnds e (tmOf p .halt .fin 1) .nil (tellR (lastS e p)) := by
  obtain ⟨h, h1, h2, h3⟩ := first_ok hp
  have := m_ends e h2
  rw [h3] at this
  refine sim_of sim_ok this _ _ (.inl ⟨p, .nil, .halt, .fin, 1, [], _, _, rfl, h1, hp, ⟨fun _ => .num 0, fun _ => .mk .halt .nil, by simp, by simp, by simp⟩, .inl rfl, .inl rfl, rfl, .halt, rfl, .nil⟩)
end Mi
namespace Mi
open PySem PySem.Spec PyProof.Rows L2

section
variable {k : Nat} {cf : Str → List D → M D} {cs : Sm} {r : Rho} {m m' : List SO}
theorem ex_set {i : Nat} {e : Ex} {d : D} (h : (ev k cf e r).v m = some (d, m')) : (ex k cf (.set i e)).x r m = some ((.nx, r.set i (some d)), m') := by
  simp [ex, dst, M.bnd, M.ret, h]
theorem ex_unp {is : List Nat} {e : Ex} {xs : List D} {r' : Rho} (h : (ev k cf e r).v m = some (.tup xs, m')) (h2 : setsR r is xs = some r') : (ex k cf (.unp is e)).x r m = some ((.nx, r'), m') := by
  simp [ex, dst, M.bnd, M.ret, h, tgt, h2]
theorem ex_unpN {is : List (List Nat)} {e : Ex} {xs : List D} {r' : Rho} (h : (ev k cf e r).v m = some (.tup xs, m')) (h2 : setsN r is xs = some r') : (ex k cf (.unpN is e)).x r m = some ((.nx, r'), m') := by
  simp [ex, dst, M.bnd, M.ret, h, tgt, h2]
theorem ev_var {i : Nat} {d : D} (h : r[i]? = some (some d)) : (ev k cf (.var i) r).v m = some (d, m) := by
  simp [ev, den, h]
theorem ex_if {c : Ex} {a b : Sm} {t : Bool} (h : (ev k cf c r).t m = some (t, m')) : (ex k cf (.ifs c a b)).x r m = if t = true then (ex k cf a).x r m' else (ex k cf b).x r m' := by
  simp [ex, dst, M.bnd, h]
  cases t <;> rfl
theorem ex_pass : (ex k cf .pass).x r m = some ((.nx, r), m) := by simp [ex, M.ret]
theorem ex_expr {e : Ex} {d : D} (h : (ev k cf e r).v m = some (d, m')) : (ex k cf (.expr e)).x r m = some ((.nx, r), m') := by
  simp [ex, dst, M.bnd, M.ret, h]
theorem case_alt {ws : List Str} {z : Str} {ps : List Pt} {body rest : Sm} {xs : List D} {r' : Rho} (hw : ws.contains z = true) (hl : xs.length = ps.length) (h : ptsD ps xs r = some (some r')) :
    (ex k cf (.case (some (.alt ws :: ps)) .nil body rest)).c (.tup (.str z :: xs)) r m = (ex k cf body).x r' m := by
  simp only [ex, ptsD, hw, h, hl, List.length_cons, if_true]
theorem case_altN {ws : List Str} {z : Str} {ps : List Pt} {gd : Ex} {body rest : Sm} {xs : List D} (hw : ws.contains z = false) :
    (ex k cf (.case (some (.alt ws :: ps)) gd body rest)).c (.tup (.str z :: xs)) r m = (ex k cf rest).c (.tup (.str z :: xs)) r m := by
  simp only [ex, ptsD, hw, List.length_cons]
  split <;> rfl
theorem case_wl {ps : List Pt} {body rest : Sm} {x : D} {xs : List D} {r' : Rho} (hl : xs.length = ps.length) (h : ptsD ps xs r = some (some r')) :
    (ex k cf (.case (some (.wild :: ps)) .nil body rest)).c (.tup (x :: xs)) r m = (ex k cf body).x r' m := by
  simp only [ex, ptsD, h, hl, List.length_cons, if_true]
theorem dig_len (l : Nat) (h : l < 1000000) : (Str.ofString (toString (l : Int))).length ≤ 6 := by
  rw [len_cps, ofs_list, List.length_map, int_digits]
  exact (Nat.length_toDigits_le_iff (by decide) (by decide)).mpr (by omega)
theorem ev_fs {i l : Nat} {s : String} {c : Char} (hs : String.ofList [c] = s) (h : r[i]? = some (some (.int l))) (hl : l < 1000000) : (ev k cf (.fstr (Str.ofString s) (.var i)) r).v m = some (.str (nmL c l), m) := by
  subst hs
  have h1 : ((l : Int).natAbs < 1000000000 ∧ (Str.ofString (String.ofList [c])).length + (Str.ofString (toString (l : Int))).length ≤ sizeLine) := by
    have := dig_len l hl
    have h2 : (Str.ofString (String.ofList [c])).length = 1 := by rw [len_cps, ofs_list]; simp
    refine ⟨by omega, ?_⟩
    rw [h2]
    unfold sizeLine
    omega
  simp only [ev, den, M.bnd, h]
  rw [if_pos h1]
  rfl
end
theorem getL_tup0 : True := trivial
end Mi
namespace K13
open PySem PySem.Spec PyProof.Rows L2 Mi

def nth : Nat → Sm → Sm
  | 0, s => sq1 s
  | n + 1, s => nth n (sq2 s)
def rst : Nat → Sm → Sm
  | 0, s => s
  | n + 1, s => rst n (sq2 s)
def z (n : Nat) : Sm := nth n fn__law_many_frames.body
def zend : Ex := match rst 12 fn__law_many_frames.body with
  | .ret e => e
  | _ => .nil
theorem many_body : fn__law_many_frames.body = .seq (z 0) (.seq (z 1) (.seq (z 2) (.seq (z 3) (.seq (z 4) (.seq (z 5) (.seq (z 6) (.seq (z 7) (.seq (z 8) (.seq (z 9) (.seq (z 10) (.seq (z 11) (.ret zend)))))))))))) := rfl
def zelt : Ex := match z 1 with
  | .set _ (.comp _ _ _ _ _ e) => e
  | _ => .nil
theorem z1_eq : z 1 = .set 2 (.comp [("_law_k", 8)] (.nm 8) .rng1 (.cons (.bin .add (.cst (.int 900)) (.bin .mod (.var 1) (.cst (.int 900)))) .nil) .nil zelt) := rfl
theorem isNon_enc (p : RP) : Mi.isNon (enc p) = false := by cases p <;> rfl
section
variable {S : D} {x y : Int} {m : List SO}
def gRow (x : Int) : D → D
  | .int i => encF (frBy (mixed (x + i)))
  | d => d
theorem step1 : (ex 113 (run tb 113) (z 1)).x [some S, some (.int x), none, none, none, none, none, none, none] m = some ((.nx, [some S, some (.int x), some (.loc m.length), none, none, none, none, none, none]), m ++ [.lst (encFs (drawn x))]) := by
  have hb : 0 ≤ x % 900 ∧ x % 900 < 900 := by omega
  have h1 : (ev 113 (run tb 113) (.cons (.bin .add (.cst (.int 900)) (.bin .mod (.var 1) (.cst (.int 900)))) .nil) [some S, some (.int x), none, none, none, none, none, none, none]).l m = some ([.int (900 + x % 900)], m) := by
    simp [ev, den, M.bnd, M.ret]
  have h2 := itemsR (j := 900 + x % 900) (m := m) (by omega)
  have h3 := compL_pure (f := turnC 113 (run tb 113) [("_law_k", 8)] (.nm 8) .nil zelt [some S, some (.int x), none, none, none, none, none, none, none]) (n := m.length) (gRow x) ((List.range (900 + x % 900).toNat).map fun (i : Nat) => D.int i) (m := m ++ [.lst []]) (acc := []) (by
    intro d hd W
    obtain ⟨i, _, rfl⟩ := List.mem_map.mp hd
    have hm : ∀ Z, run tb 113 "_law_mixed" [.int (x + i)] Z = some (.int (mixed (x + i)), Z) := fun Z => run_mixed (x + i)
    have hnb : ∀ Z, run tb 113 "_law_frame_by" [.int (mixed (x + i))] Z = some (encF (frBy (mixed (x + i))), Z) := fun Z => run_frame_by _ _
    simp [turnC, tgt, wipeR, zelt, z1_eq, z, nth, fn__law_many_frames, sq1, sq2, ev, den, M.bnd, M.ret, hm, hnb, gRow]) (by simp) (by simp [sizeLine]; omega)
  have hf : ((List.range (900 + x % 900).toNat).map fun (i : Nat) => D.int i).map (gRow x) = encFs (drawn x) := by
    rw [encFs_map]
    unfold drawn
    rw [List.map_map, List.map_map]
    rfl
  rw [hf] at h3
  have hset : (m ++ [SO.lst []]).set m.length (.lst ([] ++ encFs (drawn x))) = m ++ [.lst (encFs (drawn x))] := by simp
  rw [hset] at h3
  rw [z1_eq, ex_set (evc_of h1 h2 h3)]
  rfl
theorem step3 {a : Nat} (ha : a < (drawn x).length) : (ex 113 (run tb 113) (z 3)).x [some S, some (.int x), some (.loc m.length), some (.int a), none, none, none, none, none] (m ++ [.lst (encFs (drawn x))]) = some ((.nx, [some S, some (.int x), some (.loc m.length), some (.int a), none, none, none, none, none]), m ++ [.lst (encFs (if 0 < x / 7 % 4 then (drawn x).set a .round else drawn x))]) := by
  have hL : getL (m ++ [.lst (encFs (drawn x))]) m.length = some (encFs (drawn x)) := getL_app0 m _ _
  have hix : ixN (encFs (drawn x)).length (a : Int) = some a := by
    rw [encFs_len]
    unfold ixN
    simp; omega
  have hset : (encFs (drawn x)).set a (.tup [.str "round"]) = encFs ((drawn x).set a .round) := by
    rw [encFs_map, encFs_map, List.map_set]; rfl
  simp only [z, nth, fn__law_many_frames, sq1, sq2]
  by_cases h : 0 < x / 7 % 4
  · simp [ex, dst, ev, den, denB, M.bnd, M.ret, cmp_gt, h, newT, sizeLine, hL, hix, hset]
  · simp [ex, dst, ev, den, denB, M.bnd, M.ret, cmp_gt, h]
variable {fs : List Fr} {a w : Int} {M1 : List SO} {c : Nat}
/-- way 0 -/
theorem way0 (hc : getL M1 c = some (encFs fs)) (hf : ∀ f ∈ fs, Dfr f) (hl : fs.length ≤ 1900) : (ex 113 (run tb 113) (z 5)).x [some S, some (.int x), some (.loc c), some (.int a), some (.int 0), none, none, none, none] M1 = some ((.rt (.bl true), [some S, some (.int x), some (.loc c), some (.int a), some (.int 0), none, none, none, none]), M1) := by
  have h1 : run tb 113 "_law_in" [.loc c, enc (.plus 1 (.num 2) (.num 3))] M1 = _ := run_in (k := 111) hc
  have h2 := run_goes (k := 108) (m := M1) (by omega) (dfrs_zi (q := .plus 1 (.num 2) (.num 3)) hf hl (by simp [RP.dp]) (by simp [gd])) ((step_in hf (q := .plus 1 (.num 2) (.num 3)) rfl (by simp [ent, RP.isVal])).1 (.num 5) fs rfl) hc hf (by simp [RP.all]) (by simp [RP.dep])
  have h3 := cmp_notN 113 (enc (plug (.num 5) fs)) M1
  rw [isNon_enc] at h3
  simp only [enc] at h1 h2
  simp only [z, nth, fn__law_many_frames, sq1, sq2]
  simp [ex, dst, ev, den, denB, M.bnd, M.ret, cmp_ints, newT, sizeLine, h1, h2, h3]
theorem skip0 (hw : w ≠ 0) : (ex 113 (run tb 113) (z 5)).x [some S, some (.int x), some (.loc c), some (.int a), some (.int w), none, none, none, none] M1 = some ((.nx, [some S, some (.int x), some (.loc c), some (.int a), some (.int w), none, none, none, none]), M1) := by
  simp only [z, nth, fn__law_many_frames, sq1, sq2]
  simp [ex, dst, ev, den, denB, M.bnd, M.ret, cmp_ints, hw]
theorem eq_stuck (b : Int) (m : List SO) : cmpM 113 .eq (.tup [.str "stuck", .int b]) (.tup [.str "stuck", .int b]) m = some (true, m) := by
  have : eqD 113 m (.tup [.str "stuck", .int b]) (.tup [.str "stuck", .int b]) = some true := eqD_tell (.stuck b)
  simp [cmpM, cmpD, this]
/-- way 1 -/
theorem way1 (hc : getL M1 c = some (encFs fs)) (hf : ∀ f ∈ fs, Dfr f) (hl : fs.length ≤ 1900) : (ex 113 (run tb 113) (z 6)).x [some S, some (.int x), some (.loc c), some (.int a), some (.int 1), none, none, none, none] M1 = some ((.rt (.bl true), [some S, some (.int x), some (.loc c), some (.int a), some (.int 1), none, none, none, none]), M1) := by
  have h1 : run tb 113 "_law_in" [.loc c, enc (.call 9999 (.num 2) (.num 3))] M1 = _ := run_in (k := 111) hc
  have hz : ZI 2000 10 2000 (.call 9999 (.num 2) (.num 3)) fs := dfrs_zi hf hl (by simp [RP.dp]) (by simp [gd])
  have h2 := run_stepped (k := 109) hz (by omega) (by omega) (by omega) M1
  rw [(step_in hf (q := .call 9999 (.num 2) (.num 3)) rfl (by simp [ent, RP.isVal])).2 9999 rfl] at h2
  have h2 : run tb 113 "stepped" [enc (plug (.call 9999 (.num 2) (.num 3)) fs)] M1 = some (.tup [.str "stuck", .int 9999], M1) := h2
  simp only [enc] at h1
  simp only [z, nth, fn__law_many_frames, sq1, sq2]
  simp [ex, dst, ev, den, denB, M.bnd, M.ret, cmp_ints, newT, sizeLine, h1, h2, eq_stuck]
theorem skip1 (hw : w ≠ 1) : (ex 113 (run tb 113) (z 6)).x [some S, some (.int x), some (.loc c), some (.int a), some (.int w), none, none, none, none] M1 = some ((.nx, [some S, some (.int x), some (.loc c), some (.int a), some (.int w), none, none, none, none]), M1) := by
  simp only [z, nth, fn__law_many_frames, sq1, sq2]
  simp [ex, dst, ev, den, denB, M.bnd, M.ret, cmp_ints, hw]
def tk : RP := .take 9998 "k" (.call 9997 (.name "k") (.num 8))
theorem step7 : (ex 113 (run tb 113) (z 7)).x [some S, some (.int x), some (.loc c), some (.int a), some (.int w), none, none, none, none] M1 = some ((.nx, [some S, some (.int x), some (.loc c), some (.int a), some (.int w), some (enc tk), none, none, none]), M1) := by
  simp only [z, nth, fn__law_many_frames, sq1, sq2]
  simp [ex, dst, ev, den, M.bnd, M.ret, newT, sizeLine, tk, enc]
theorem sok_k : PyData.strOk "k" = true := Nm.sok ⟨by unfold Low; decide, by decide, by decide⟩
theorem tk_zi (hf : ∀ f ∈ fs, Dfr f) (hl : fs.length ≤ 1900) : ZI 2000 10 2000 tk fs := dfrs_zi hf hl (by simp [tk, RP.dp]) (by simp [tk, gd, sok_k, RP.dp])
/-- no round -/
theorem no_rd (hc : getL M1 c = some (encFs fs)) (hf : ∀ f ∈ fs, Dfr f) (hl : fs.length ≤ 1900) (hr : fs.any Fr.isRd = false) : (ex 113 (run tb 113) (z 8)).x [some S, some (.int x), some (.loc c), some (.int a), some (.int w), some (enc tk), none, none, none] M1 = some ((.rt (.bl true), [some S, some (.int x), some (.loc c), some (.int a), some (.int w), some (enc tk), none, none, none]), M1) := by
  have h1 : run tb 113 "_law_in" [.loc c, enc tk] M1 = _ := run_in (k := 111) hc
  have h2 := run_stepped (k := 109) (tk_zi hf hl) (by omega) (by omega) (by omega) M1
  rw [(step_in hf (q := tk) rfl (by simp [tk, ent])).2 9998 (by
    show (match splitR fs with
      | some r => Ac.go (RP.put "k" (.kept 9998 r.1) (.call 9997 (.name "k") (.num 8))) r.2
      | none => .stuck 9998) = _
    rw [split_none.mpr hr])] at h2
  have h2 : run tb 113 "stepped" [enc (plug tk fs)] M1 = some (.tup [.str "stuck", .int 9998], M1) := h2
  have h3 := not_in (k := 113) hc hf
  rw [hr] at h3
  simp only [z, nth, fn__law_many_frames, sq1, sq2]
  simp [ex, dst, ev, den, denB, M.bnd, M.ret, newT, sizeLine, h1, h2, h3, eq_stuck]
theorem skip8 (hc : getL M1 c = some (encFs fs)) (hf : ∀ f ∈ fs, Dfr f) (hr : fs.any Fr.isRd = true) : (ex 113 (run tb 113) (z 8)).x [some S, some (.int x), some (.loc c), some (.int a), some (.int w), some (enc tk), none, none, none] M1 = some ((.nx, [some S, some (.int x), some (.loc c), some (.int a), some (.int w), some (enc tk), none, none, none]), M1) := by
  have h3 := not_in (k := 113) hc hf
  rw [hr] at h3
  simp only [z, nth, fn__law_many_frames, sq1, sq2]
  simp [ex, dst, ev, den, denB, M.bnd, M.ret, newT, sizeLine, h3]
end
end K13
namespace K13
open PySem PySem.Spec PyProof.Rows L2 Mi
section
variable {S : D} {x : Int} {a : Nat} {w : Int} {m M1 : List SO} {as bs : List Fr}

/-- what is kept, called -/
def kq (as : List Fr) : RP := .call 9997 (.kept 9998 as) (.num 8)
theorem kq_ok (h : ∀ f ∈ as, Dfr f) : (kq as).all = true ∧ (kq as).dep ≤ 100 := by
  have h1 := (dfrs_gd h).all
  have h2 := dfrs_dep h
  refine ⟨by simp [kq, RP.all, h1], ?_⟩
  simp only [kq, RP.dep]; omega
theorem kq_zi {fs : List Fr} (h : ∀ f ∈ as, Dfr f) (hl : as.length ≤ 1900) (hf : ∀ f ∈ fs, Dfr f) (hl2 : fs.length ≤ 1900) : ZI 2000 10 2000 (kq as) fs := by
  have h1 := dfrs_hgt (d := 0) h
  have h2 := dfrs_dep h
  refine dfrs_zi hf hl2 (by simp [kq, RP.dp]) ?_
  simp only [kq, gd]
  exact ⟨⟨by omega, by omega, dfrs_gd h⟩, trivial⟩
/-- frames about a round -/
theorem rd_last {c : Nat} (hc : getL M1 c = some (encFs (as ++ .round :: bs))) (ha : ∀ f ∈ as, Dfr f ∧ f.isRd = false) (hb : ∀ f ∈ bs, Dfr f) (hl : (as ++ .round :: bs).length ≤ 1900) :
    ∃ L e, (ex 113 (run tb 113) (.seq (z 9) (.seq (z 10) (.seq (z 11) (.ret zend))))).x [some S, some (.int x), some (.loc c), some (.int as.length), some (.int w), some (enc tk), none, none, none] M1 = some ((.rt (.bl true), e), M1 ++ L) := by
  obtain ⟨fs, hfs⟩ : ∃ fs, fs = as ++ .round :: bs := ⟨_, rfl⟩
  have ha' : ∀ f ∈ as, Dfr f := fun f h => (ha f h).1
  have hb' : ∀ f ∈ (.round :: bs : List Fr), Dfr f := fun f h => by
    rcases List.mem_cons.mp h with rfl | h
    · exact .round
    · exact hb f h
  have hf : ∀ f ∈ fs, Dfr f := fun f h => by
    rw [hfs] at h
    rcases List.mem_append.mp h with h | h
    · exact ha' f h
    · exact hb' f h
  have hlen : fs.length = as.length + (bs.length + 1) := by rw [hfs]; simp
  rw [← hfs] at hc hl
  have htake : fs.take as.length = as := by rw [hfs]; simp
  have hdrop : fs.drop as.length = .round :: bs := by rw [hfs]; simp
  have cutA : cut (encFs fs) none (some (as.length : Int)) = encFs as := by
    rw [cut_to, encFs_map, ← List.map_take, htake, encFs_map]
  have cutB : cut (encFs fs) (some (as.length : Int)) none = encFs (.round :: bs) := by
    rw [cut_from (by rw [encFs_len]; omega), encFs_map, ← List.map_drop, hdrop, encFs_map]
  -- kept
  obtain ⟨M2, hM2⟩ : ∃ M2 : List SO, M2 = M1 ++ [.lst (encFs as)] := ⟨_, rfl⟩
  have g2 : getL M2 M1.length = some (encFs as) := by rw [hM2]; exact getL_app0 M1 _ _
  have hc2 : getL M2 c = some (encFs fs) := by rw [hM2]; exact ((getL_old (getL_lt hc)).trans hc)
  have e9 : (ex 113 (run tb 113) (z 9)).x [some S, some (.int x), some (.loc c), some (.int as.length), some (.int w), some (enc tk), none, none, none] M1 = some ((.nx, [some S, some (.int x), some (.loc c), some (.int as.length), some (.int w), some (enc tk), some (enc (kq as)), none, none]), M2) := by
    have hs : ∀ Z, getL Z c = some (encFs fs) → slcD none (some (as.length : Int)) (.loc c) Z = some (.loc Z.length, Z ++ [.lst (encFs as)]) := fun Z hZ => by
      simp only [slcD, hZ, cutA]
    have hs1 := hs M1 hc
    rw [← hM2] at hs1
    have ht : bltD .tuple [.loc M1.length] M2 = some (.tup (encFs as), M2) := by
      unfold bltD
      simp [seqOf, g2]
    simp only [z, nth, fn__law_many_frames, sq1, sq2]
    simp [ex, dst, ev, den, M.bnd, M.ret, ptO, hs1, ht, newT, sizeLine, kq, enc]
  obtain ⟨M3, hM3⟩ : ∃ M3 : List SO, M3 = M2 ++ [.lst (encFs (.round :: bs))] := ⟨_, rfl⟩
  have g3 : getL M3 M2.length = some (encFs (.round :: bs)) := by rw [hM3]; exact getL_app0 M2 _ _
  have hc3 : getL M3 c = some (encFs fs) := by rw [hM3]; exact ((getL_old (getL_lt hc2)).trans hc2)
  have hsp : splitR fs = some (as, .round :: bs) := by rw [hfs]; exact split_as (fun f h => (ha f h).2)
  have st1 := (step_in hf (q := tk) rfl (by simp [tk, ent])).1 (kq as) (.round :: bs) (by
    show (match splitR fs with
      | some r => Ac.go (RP.put "k" (.kept 9998 r.1) (.call 9997 (.name "k") (.num 8))) r.2
      | none => .stuck 9998) = _
    rw [hsp]
    simp [RP.put, kq])
  obtain ⟨k1, k2⟩ := kq_ok ha'
  have e10 : (ex 113 (run tb 113) (z 10)).x [some S, some (.int x), some (.loc c), some (.int as.length), some (.int w), some (enc tk), some (enc (kq as)), none, none] M2 = some ((.nx, [some S, some (.int x), some (.loc c), some (.int as.length), some (.int w), some (enc tk), some (enc (kq as)), some (enc (plug (kq as) (.round :: bs))), none]), M3) := by
    have h1 : run tb 113 "_law_in" [.loc c, enc tk] M2 = _ := run_in (k := 111) hc2
    have h2 := run_goes (k := 108) (m := M3) (by omega) (tk_zi hf hl) st1 g3 hb' k1 k2
    have hs1 : slcD (some (as.length : Int)) none (.loc c) M2 = some (.loc M2.length, M3) := by
      simp only [slcD, hc2, cutB, hM3]
    simp only [z, nth, fn__law_many_frames, sq1, sq2]
    simp only [ex, dst, ev, den, M.bnd, M.ret, ptO, h1, hs1, h2, List.getElem?_cons_zero, List.getElem?_cons_succ]
    simp [h1, hs1, h2]
  obtain ⟨P2, hP2⟩ : ∃ P2, P2 = enc (plug (kq as) (.round :: bs)) := ⟨_, rfl⟩
  have hq2 : Mi.isNon P2 = false := hP2 ▸ isNon_enc _
  rw [← hP2] at e10
  have hn := cmp_isN 113 P2 M3
  rw [hq2] at hn
  have e11 : (ex 113 (run tb 113) (z 11)).x [some S, some (.int x), some (.loc c), some (.int as.length), some (.int w), some (enc tk), some (enc (kq as)), some P2, none] M3 = some ((.nx, [some S, some (.int x), some (.loc c), some (.int as.length), some (.int w), some (enc tk), some (enc (kq as)), some P2, none]), M3) := by
    simp only [z, nth, fn__law_many_frames, sq1, sq2]
    simp [ex, dst, ev, den, denB, M.bnd, M.ret, hn]
  -- the end
  obtain ⟨M4, hM4⟩ : ∃ M4 : List SO, M4 = M3 ++ [.lst (encFs as)] := ⟨_, rfl⟩
  obtain ⟨M5, hM5⟩ : ∃ M5 : List SO, M5 = M4 ++ [.lst [.tup [.str "round"]]] := ⟨_, rfl⟩
  obtain ⟨M6, hM6⟩ : ∃ M6 : List SO, M6 = M5 ++ [.lst (encFs as ++ [.tup [.str "round"]])] := ⟨_, rfl⟩
  obtain ⟨M7, hM7⟩ : ∃ M7 : List SO, M7 = M6 ++ [.lst (encFs (.round :: bs))] := ⟨_, rfl⟩
  obtain ⟨M8, hM8⟩ : ∃ M8 : List SO, M8 = M7 ++ [.lst (encFs (as ++ .round :: .round :: bs))] := ⟨_, rfl⟩
  have c4 : getL M4 c = some (encFs fs) := by rw [hM4]; exact (getL_old (getL_lt hc3)).trans hc3
  have c5 : getL M5 c = some (encFs fs) := by rw [hM5]; exact (getL_old (getL_lt c4)).trans c4
  have c6 : getL M6 c = some (encFs fs) := by rw [hM6]; exact (getL_old (getL_lt c5)).trans c5
  have a4 : getL M4 M3.length = some (encFs as) := by rw [hM4]; exact getL_app0 M3 _ _
  have a5 : getL M5 M3.length = some (encFs as) := by rw [hM5]; exact (getL_old (getL_lt a4)).trans a4
  have r5 : getL M5 M4.length = some [.tup [.str "round"]] := by rw [hM5]; exact getL_app0 M4 _ _
  have l6 : getL M6 M5.length = some (encFs as ++ [.tup [.str "round"]]) := by rw [hM6]; exact getL_app0 M5 _ _
  have l7 : getL M7 M5.length = some (encFs as ++ [.tup [.str "round"]]) := by rw [hM7]; exact (getL_old (getL_lt l6)).trans l6
  have t7 : getL M7 M6.length = some (encFs (.round :: bs)) := by rw [hM7]; exact getL_app0 M6 _ _
  have l8 : getL M8 M7.length = some (encFs (as ++ .round :: .round :: bs)) := by rw [hM8]; exact getL_app0 M7 _ _
  have s1 : slcD none (some (as.length : Int)) (.loc c) M3 = some (.loc M3.length, M4) := by simp only [slcD, hc3, cutA, hM4]
  have s2 : slcD (some (as.length : Int)) none (.loc c) M6 = some (.loc M6.length, M7) := by simp only [slcD, c6, cutB, hM7]
  have b1 : binD .add (.loc M3.length) (.loc M4.length) M5 = some (.loc M5.length, M6) := by
    unfold binD
    simp only [a5, r5]
    rw [if_pos (by simp [encFs_len, sizeLine]; omega)]
    unfold newL
    rw [if_pos (by simp [encFs_len, sizeLine]; omega), hM6]
  have b2 : binD .add (.loc M5.length) (.loc M6.length) M7 = some (.loc M7.length, M8) := by
    have e : encFs as ++ [.tup [.str "round"]] ++ encFs (.round :: bs) = encFs (as ++ .round :: .round :: bs) := by
      simp [encFs_map, encF]
    unfold binD
    simp only [l7, t7]
    rw [if_pos (by simp [encFs_len, sizeLine]; omega)]
    unfold newL
    rw [e, if_pos (by simp [encFs_len, sizeLine]; omega), hM8]
  have hf2 : ∀ f ∈ as ++ .round :: .round :: bs, Dfr f := fun f h => by
    rcases List.mem_append.mp h with h | h
    · exact ha' f h
    · rcases List.mem_cons.mp h with rfl | h
      · exact .round
      · exact hb' f h
  have st2 := (step_in hb' (q := kq as) rfl (by simp [kq, ent, RP.isVal])).1 (.num 8) (as ++ .round :: .round :: bs) rfl
  have hg := run_goes (k := 108) (m := M8) (c := M7.length) (by omega) (kq_zi (fs := .round :: bs) ha' (by omega) hb' (by simp; omega)) st2 l8 hf2 (by simp [RP.all]) (by simp [RP.dep])
  rw [← hP2] at hg
  have hn2 := cmp_notN 113 (enc (plug (.num 8) (as ++ .round :: .round :: bs))) M8
  rw [isNon_enc] at hn2
  simp only [enc] at hg
  have e12 : (ev 113 (run tb 113) zend [some S, some (.int x), some (.loc c), some (.int as.length), some (.int w), some (enc tk), some (enc (kq as)), some P2, none]).v M3 = some (.bl true, M8) := by
    have nl : newL [.tup [.str "round"]] M4 = some (.loc M4.length, M5) := by rw [hM5]; rfl
    simp only [zend, rst, fn__law_many_frames, sq2]
    simp [ev, den, denB, M.bnd, M.ret, ptO, s1, s2, b1, b2, nl, newT, sizeLine, hg, hn2]
  have hL : ∃ L, M8 = M1 ++ L := by
    rw [hM8, hM7, hM6, hM5, hM4, hM3, hM2]
    simp only [List.append_assoc]
    exact ⟨_, rfl⟩
  obtain ⟨L, hL⟩ := hL
  rw [ex_seq e9, ex_seq e10, ex_seq e11, ex_ret e12, hL]
  exact ⟨_, _, rfl⟩
theorem run_many {ns : List Int} (h : ns.length ≤ 63) (m : List SO) : run tb 114 "_law_many_frames" [.fz (ns.map .int)] m = some (.bl true, m) := by
  obtain ⟨S, hS⟩ : ∃ S : D, S = .fz (ns.map D.int) := ⟨_, rfl⟩
  have hcell : ∀ j Z, 0 ≤ j → run tb 113 "_law_cell_at" [.fz (ns.map .int), .int j] Z = some (.int (cell ns j), Z) := fun j Z hj => run_cell h hj
  have hmix : ∀ i Z, run tb 113 "_law_mixed" [.int i] Z = some (.int (mixed i), Z) := fun i Z => run_mixed i
  rw [← hS] at hcell
  obtain ⟨x, hx⟩ : ∃ x, x = mixed (cell ns 0) := ⟨_, rfl⟩
  have hlen := drawn_len x
  have hpos : 0 < ((drawn x).length : Int) := by omega
  have ma := Int.emod_nonneg (x / 900) (b := ((drawn x).length : Int)) (by omega)
  have mb := Int.emod_lt_of_pos (x / 900) hpos
  obtain ⟨a, ha⟩ : ∃ a : Nat, (a : Int) = x / 900 % ((drawn x).length : Int) := ⟨(x / 900 % ((drawn x).length : Int)).toNat, by omega⟩
  have hal : a < (drawn x).length := by omega
  obtain ⟨w, hw⟩ : ∃ w, w = cell ns 1 % 4 := ⟨_, rfl⟩
  obtain ⟨fs, hfs⟩ : ∃ fs, fs = if 0 < x / 7 % 4 then (drawn x).set a .round else drawn x := ⟨_, rfl⟩
  have e0 : (ex 113 (run tb 113) (z 0)).x [some S, none, none, none, none, none, none, none, none] m = some ((.nx, [some S, some (.int x), none, none, none, none, none, none, none]), m) := by
    simp only [z, nth, fn__law_many_frames, sq1]
    simp [ex, dst, ev, den, M.bnd, M.ret, hcell, hmix, hx]
  have e1 := step1 (S := S) (x := x) (m := m)
  obtain ⟨M0, hM0⟩ : ∃ M0 : List SO, M0 = m ++ [.lst (encFs (drawn x))] := ⟨_, rfl⟩
  have e2 : (ex 113 (run tb 113) (z 2)).x [some S, some (.int x), some (.loc m.length), none, none, none, none, none, none] (m ++ [.lst (encFs (drawn x))]) = some ((.nx, [some S, some (.int x), some (.loc m.length), some (.int a), none, none, none, none, none]), m ++ [.lst (encFs (drawn x))]) := by
    rw [← hM0]
    have hl : bltD .len [.loc m.length] M0 = some (.int (drawn x).length, M0) := by
      have : getL M0 m.length = some (encFs (drawn x)) := by rw [hM0]; exact getL_app0 m _ _
      unfold bltD
      simp [seqOf, this, encFs_len]
    have hmod : binD .mod (.int (x / 900)) (.int (drawn x).length) M0 = some (.int a, M0) := by
      rw [bin_mod _ (by omega), ← ha]
    simp only [z, nth, fn__law_many_frames, sq1, sq2]
    simp [ex, dst, ev, den, M.bnd, M.ret, hl, hmod]
  have e3 := step3 (S := S) (m := m) hal
  rw [← hfs] at e3
  obtain ⟨M1, hM1⟩ : ∃ M1 : List SO, M1 = m ++ [.lst (encFs fs)] := ⟨_, rfl⟩
  rw [← hM1] at e3
  have hc : getL M1 m.length = some (encFs fs) := by rw [hM1]; exact getL_app0 m _ _
  have e4 : (ex 113 (run tb 113) (z 4)).x [some S, some (.int x), some (.loc m.length), some (.int a), none, none, none, none, none] M1 = some ((.nx, [some S, some (.int x), some (.loc m.length), some (.int a), some (.int w), none, none, none, none]), M1) := by
    simp only [z, nth, fn__law_many_frames, sq1, sq2]
    simp [ex, dst, ev, den, M.bnd, M.ret, hcell, hw]
  have hfl : fs.length = (drawn x).length := by rw [hfs]; split <;> simp
  have hl : fs.length ≤ 1900 := by omega
  have hf : ∀ f ∈ fs, Dfr f := fun f hm => by
    rw [hfs] at hm
    split at hm
    · rcases List.mem_or_eq_of_mem_set hm with hm | rfl
      · exact (drawn_ok x f hm).1
      · exact .round
    · exact (drawn_ok x f hm).1
  have fin1 : ∀ (e : Rho) (L : List SO), fini m (some ((.rt (.bl true), e), M1 ++ L)) = some (.bl true, m) := fun e L => by
    simp only [fini]
    rw [hM1, List.append_assoc, gc_app (m := m) (d := .bl true) rfl]
  have fin0 : ∀ (e : Rho), fini m (some ((.rt (.bl true), e), M1)) = some (.bl true, m) := fun e => by
    have := fin1 e []
    rwa [List.append_nil] at this
  rw [run_at tb__law_many_frames 113 rfl, many_body, ← hS]
  show fini m ((ex 113 (run tb 113) _).x [some S, none, none, none, none, none, none, none, none] m) = _
  rw [ex_seq e0, ex_seq e1, ex_seq e2, ex_seq e3, ex_seq e4]
  by_cases w0 : w = 0
  · rw [w0]
    rw [ex_seq_rt (way0 hc hf hl)]
    exact fin0 _
  rw [ex_seq (skip0 w0)]
  by_cases w1 : w = 1
  · rw [w1]
    rw [ex_seq_rt (way1 hc hf hl)]
    exact fin0 _
  rw [ex_seq (skip1 w1), ex_seq step7]
  by_cases hr : 0 < x / 7 % 4
  · rw [if_pos hr] at hfs
    rw [set_split hal] at hfs
    have hta : ((drawn x).take a).length = a := by rw [List.length_take]; omega
    have hrd : fs.any Fr.isRd = true := by rw [hfs]; simp [Fr.isRd]
    rw [ex_seq (skip8 hc hf hrd)]
    rw [hfs] at hc hl
    obtain ⟨L, e, he⟩ := rd_last (S := S) (x := x) (w := w) hc (fun f hm => drawn_ok x f (List.mem_of_mem_take hm)) (fun f hm => (drawn_ok x f (List.mem_of_mem_drop hm)).1) hl
    rw [hta] at he
    rw [he]
    exact fin1 _ _
  · rw [if_neg hr] at hfs
    have hrd : fs.any Fr.isRd = false := by
      rw [hfs, List.any_eq_false]
      intro f hm
      rw [(drawn_ok x f hm).2]; decide
    rw [ex_seq_rt (no_rd hc hf hl hrd)]
    exact fin0 _
end
end K13
namespace K13
open PySem PySem.Spec PyProof.Rows L2 Mi
variable {m : List SO} {k : Nat}

/-! ### the machine's moves -/
def isNumH : HD → Bool
  | .num _ => true
  | _ => false
def encMv : Mv → D
  | .to S => encS S
  | _ => .non
theorem lt_encMv (n : Nat) (x : Mv) : ltD n (encMv x) = true := by cases x <;> simp [encMv, lt_encS]
theorem run_number (i : Int) (m : List SO) : run tb (k + 1) "number" [.int i] m = some (encH (.num i), m) := by
  rw [run_at tb_number k rfl]
  simp [fn_number, ex, dst, ev, den, M.bnd, M.ret, newT, sizeLine, fini, gc_same, encH]
def mbody : Sm := match fn_meaning.body with
  | .seq (.whl _ b) _ => b
  | s => s
def mcond : Ex := match fn_meaning.body with
  | .seq (.whl c _) _ => c
  | _ => .nil
theorem mean_body : fn_meaning.body = .seq (.whl mcond mbody) (.ret (.idx (.var 1) (.cst (.int 1)))) := rfl
theorem mean_cond (x : Str) (y : Str) (v r : D) (hx : PyData.strOk x = true) (hy : PyData.strOk y = true) (m : List SO) : (ev k (run tb k) mcond [some (.str y), some (.tup [.str x, v, r])]).t m = some (!(x == y), m) := by
  simp only [mcond, fn_meaning]
  simp [ev, den, denB, M.bnd, M.ret, idx_hd, cmpM, cmpD, eqD_str, hx, hy]
theorem mean_body1 (x y : Str) (v r : D) (m : List SO) : (ex k (run tb k) mbody).x [some (.str y), some (.tup [.str x, v, r])] m = some ((.nx, [some (.str y), some r]), m) := by
  simp only [mbody, fn_meaning]
  simp [ex, dst, ev, den, denB, M.bnd, M.ret, idx_t2]
theorem mean_loop {y : Str} (hy : PyData.strOk y = true) : ∀ {e : EN} {h : HD}, wE e → e.get y = some h → ∃ N x r, whN (fun r => (ev k (run tb k) mcond r).t) (ex k (run tb k) mbody).x N [some (.str y), some (encE e)] m = some ((.nx, [some (.str y), some (.tup [x, encH h, r])]), m)
  | .nil, h, _, hg => by simp [EN.get] at hg
  | .cons x g e, h, w, hg => by
    simp only [Mi.wE] at w
    simp only [EN.get] at hg
    have hc := mean_cond (k := k) x y (encH g) (encE e) w.2.2.2.sok hy m
    by_cases hx : (x == y) = true
    · rw [if_pos hx] at hg
      cases hg
      exact ⟨1, .str x, encE e, by rw [encE]; exact wh_end (by rw [hc, hx]; rfl)⟩
    · rw [if_neg hx] at hg
      have hx' : (x == y) = false := by simpa using hx
      obtain ⟨N, x', r, ih⟩ := mean_loop hy w.2.2.1 hg
      exact ⟨N + 1, x', r, by rw [encE]; exact wh_step (by rw [hc, hx']; rfl) (mean_body1 x y _ _ m) ih⟩
theorem run_meaning {y : Str} (hy : PyData.strOk y = true) {e : EN} {h : HD} (w : wE e) (hg : e.get y = some h) (m : List SO) : run tb (k + 1) "meaning" [.str y, encE e] m = some (encH h, m) := by
  obtain ⟨N, x, r, hl⟩ := mean_loop (k := k) (m := m) hy w hg
  rw [run_at tb_meaning k rfl, mean_body]
  show fini m ((ex k (run tb k) _).x [some (.str y), some (encE e)] m) = _
  rw [ex_seq (ex_whl hl)]
  simp [ex, dst, ev, den, M.bnd, M.ret, idx_t1, fini, gc_same, lt_encH]
theorem run_hold {p : RP} {e : EN} {h : HD} (hb : bndE p e) (w : wE e) (hh : hold p e = some h) (m : List SO) : run tb (k + 2) "holding" [enc p, encE e] m = some (encH h, m) := by
  obtain ⟨sc, h1, h2⟩ := hb
  rw [run_at tb_holding (k + 1) rfl]
  cases p with
  | name y =>
    have hy : y ∈ sc := by simpa [pc] using h1.1
    have := run_meaning (k := k) (h1.2 y hy).sok w (by simpa [hold] using hh) m
    simp [fn_holding, enc, ex, dst, ev, den, denB, M.bnd, M.ret, idx_hd, idx_t1, cmp_eqs, this, fini, gc_same, lt_encH]
  | num i =>
    cases hh
    simp [fn_holding, enc, ex, dst, ev, den, denB, M.bnd, M.ret, idx_hd, idx_t1, cmp_eqs, run_number, fini, gc_same, lt_encH]
  | shut _ _ _ => exact absurd h1.1 (by simp [pc])
  | kept _ _ => exact absurd h1.1 (by simp [pc])
  | _ =>
    cases hh
    simp [fn_holding, encH, enc, ex, dst, ev, den, denB, M.bnd, M.ret, idx_hd, cmp_eqs, newT, sizeLine, fini, gc_same, lt_enc, lt_encE]
theorem tag_pc {p : RP} {e : EN} (w : wH (.pc p e)) : p.isVal = false := by
  simp only [wH] at w
  obtain ⟨w1, ⟨sc, w2, _⟩, _⟩ := w
  cases p <;> first | rfl | (exact absurd w1 Bool.false_ne_true) | (exact absurd w2.1 (by simp [pc]))
theorem idx_encH (h : HD) (m : List SO) : ∃ d, idxD (encH h) (.int 0) m = some (d, m) ∧ ∃ t, idxD d (.int 0) m = some (.str (Str.ofString t), m) ∧ (wH h → (t == "num" || (t == "shut" || t == "kept")) = h.isVal) ∧ (wH h → (t == "num") = isNumH h) := by
  cases h with
  | pc p e =>
    refine ⟨enc p, by rw [encH, idx_hd], wordP p, idx_tag p m, fun w => ?_, fun w => ?_⟩
    · have := tag_pc w
      cases p <;> first | rfl | (exact absurd this (by simp [RP.isVal]))
    · have := tag_pc w
      cases p <;> first | rfl | (exact absurd this (by simp [RP.isVal]))
  | num i => exact ⟨_, by rw [encH, idx_hd], "num", by rw [idx_hd], fun _ => rfl, fun _ => rfl⟩
  | clo a x b e n => exact ⟨_, by rw [encH, idx_hd], "shut", by rw [idx_hd], fun _ => rfl, fun _ => rfl⟩
  | kep a r n => exact ⟨_, by rw [encH, idx_hd], "kept", by rw [idx_hd], fun _ => rfl, fun _ => rfl⟩
theorem run_isvm {h : HD} (w : wH h) (m : List SO) : run tb (k + 1) "is_value_machine" [encH h] m = some (.bl h.isVal, m) := by
  obtain ⟨d, h1, t, h2, h3, _⟩ := idx_encH h m
  rw [run_at tb_is_value_machine k rfl, ← h3 w]
  have : ∀ (a : String), (eqF (.str (Str.ofString a)) (.str (Str.ofString t))) = (t == a) := fun a => by
    simp only [eqF, ofs_beq]
    exact Bool.beq_comm
  simp [fn_is_value_machine, ex, dst, ev, den, denB, M.bnd, M.ret, h1, h2, cmpM, cmpD, seqOf, flatD, inD, this, fini, gc_same]
theorem run_isnm {h : HD} (w : wH h) (m : List SO) : run tb (k + 1) "is_number_machine" [encH h] m = some (.bl (isNumH h), m) := by
  obtain ⟨d, h1, t, h2, _, h3⟩ := idx_encH h m
  rw [run_at tb_is_number_machine k rfl, ← h3 w]
  simp [fn_is_number_machine, ex, dst, ev, den, denB, M.bnd, M.ret, h1, h2, cmp_eqs, fini, gc_same]
/-! ### a piece is entered -/
def eunp : Sm := sq1 fn_entered_machine.body
def emat : Sm := sq2 fn_entered_machine.body
theorem entm_body : fn_entered_machine.body = .seq eunp emat := rfl
theorem run_takm {a : Int} {x : Str} {c : RP} {e : EN} {r : NR} {b : List NR} {s : Nat} (w : wS ⟨.pc (.take a x c) e, r, b, s⟩) (m : List SO) : run tb (k + 3) "taken_machine" [encS ⟨.pc (.take a x c) e, r, b, s⟩] m = some (encMv (entM (.take a x c) e r b s), m) := by
  obtain ⟨w1, w2, w3⟩ := w
  simp only [wH] at w1
  obtain ⟨n1, ⟨sc, h1, h2⟩, n3⟩ := w1
  have hc := pcs_kids (q := c) h1 (by simp [kids])
  have hx : Nm x := by have := h1.1; simp only [pc] at this; exact this.2.1
  rw [run_at tb_taken_machine (k + 2) rfl]
  cases b with
  | nil =>
    simp [fn_taken_machine, encS, encH, enc, encBy, ex, dst, ev, den, denB, M.bnd, M.ret, tgt, setsN, setsR, cmp_isN, Mi.isNon, fini, gc_same, entM, encMv]
  | cons r1 b =>
    have wk : Mi.wE (.cons x (.kep a r (s + 1)) e) := by
      simp only [Mi.wE, wH]
      exact ⟨rfl, w2, n3, hx⟩
    have hb : bndE c (.cons x (.kep a r (s + 1)) e) := ⟨x :: sc, hc, fun y hy => by
      simp only [EN.dom, List.mem_cons]
      rcases List.mem_cons.mp hy with h | h
      · exact .inl h
      · exact .inr (h2 y h)⟩
    obtain ⟨c', hc1, hc2, hc3⟩ := hold_ok hb wk
    have hh := run_hold (k := k) hb wk hc1 m
    simp only [encE, encH, show ((s + 1 : Nat) : Int) = (s : Int) + 1 by omega] at hh
    simp [fn_taken_machine, encS, encH, enc, encBy, ex, dst, ev, den, denB, M.bnd, M.ret, newT, sizeLine, tgt, setsN, setsR, cmp_isN, Mi.isNon, fini, gc_same, entM, encMv, hc1, hold1, hh, lt_encH, lt_encN, lt_encBy, encN]
theorem run_entm {p : RP} {e : EN} {r : NR} {b : List NR} {s : Nat} (w : wS ⟨.pc p e, r, b, s⟩) (m : List SO) : run tb (k + 4) "entered_machine" [encS ⟨.pc p e, r, b, s⟩] m = some (encMv (entM p e r b s), m) := by
  have w0 := w
  obtain ⟨w1, w2, w3⟩ := w
  simp only [wH] at w1
  obtain ⟨n1, n2, n3⟩ := w1
  have e1 : (ex (k + 3) (run tb (k + 3)) eunp).x [some (encS ⟨.pc p e, r, b, s⟩), none, none, none, none, none, none, none, none, none, none, none, none, none] m = some ((.nx, [some (encS ⟨.pc p e, r, b, s⟩), some (enc p), some (encE e), some (.int 0), some (encN r), some (encBy b), some (.int s), none, none, none, none, none, none, none]), m) := by
    simp only [eunp, fn_entered_machine, sq1]
    simp [encS, encH, ex, dst, ev, den, M.bnd, M.ret, tgt, setsN, setsR]
  rw [run_at tb_entered_machine (k + 3) rfl, entm_body]
  show fini m ((ex (k + 3) (run tb (k + 3)) _).x [some (encS ⟨.pc p e, r, b, s⟩), none, none, none, none, none, none, none, none, none, none, none, none, none] m) = _
  rw [ex_seq e1]
  obtain ⟨S, hS⟩ : ∃ S, S = encS ⟨.pc p e, r, b, s⟩ := ⟨_, rfl⟩
  rw [← hS]
  simp only [emat, fn_entered_machine, sq2]
  rw [ex_mtch rfl]
  cases p with
  | name y => exact absurd n1 Bool.false_ne_true
  | num i => exact absurd n1 Bool.false_ne_true
  | shut a x c => obtain ⟨sc, h1, _⟩ := n2; exact absurd h1.1 (by simp [pc])
  | kept a fs => obtain ⟨sc, h1, _⟩ := n2; exact absurd h1.1 (by simp [pc])
  | fun_ a x c =>
    simp only [enc]
    rw [case_hit rfl rfl]
    simp [ex, dst, ev, den, denB, M.bnd, M.ret, newT, sizeLine, fini, gc_same, entM, encMv, encS, encH, lt_enc, lt_encE, lt_encN, lt_encBy]
  | call a f g =>
    obtain ⟨f', hf1, hf2, hf3⟩ := hold_ok (bndE_kid (q := f) n2 (by simp [kids]) fun _ => rfl) n3
    obtain ⟨g', hg1, hg2, hg3⟩ := hold_ok (bndE_kid (q := g) n2 (by simp [kids]) fun _ => rfl) n3
    have i1 := run_hold (k := k + 1) (bndE_kid (q := f) n2 (by simp [kids]) fun _ => rfl) n3 hf1 m
    have i2 := run_hold (k := k + 1) (bndE_kid (q := g) n2 (by simp [kids]) fun _ => rfl) n3 hg1 m
    simp only [enc]
    rw [case_ne rfl, case_hit rfl rfl]
    simp [ex, dst, ev, den, denB, M.bnd, M.ret, newT, sizeLine, fini, gc_same, entM, encMv, encS, encN, Mi.encM, hf1, hg1, i1, i2, lt_encH, lt_encN, lt_encBy]
  | plus a f g =>
    obtain ⟨f', hf1, hf2, hf3⟩ := hold_ok (bndE_kid (q := f) n2 (by simp [kids]) fun _ => rfl) n3
    obtain ⟨g', hg1, hg2, hg3⟩ := hold_ok (bndE_kid (q := g) n2 (by simp [kids]) fun _ => rfl) n3
    have i1 := run_hold (k := k + 1) (bndE_kid (q := f) n2 (by simp [kids]) fun _ => rfl) n3 hf1 m
    have i2 := run_hold (k := k + 1) (bndE_kid (q := g) n2 (by simp [kids]) fun _ => rfl) n3 hg1 m
    simp only [enc]
    rw [case_ne rfl, case_ne rfl, case_hit rfl rfl]
    simp [ex, dst, ev, den, denB, M.bnd, M.ret, newT, sizeLine, fini, gc_same, entM, encMv, encS, encN, Mi.encM, hf1, hg1, i1, i2, lt_encH, lt_encN, lt_encBy]
  | pick a c f g =>
    obtain ⟨c', hc1, hc2, hc3⟩ := hold_ok (bndE_kid (q := c) n2 (by simp [kids]) fun _ => rfl) n3
    obtain ⟨f', hf1, hf2, hf3⟩ := hold_ok (bndE_kid (q := f) n2 (by simp [kids]) fun _ => rfl) n3
    obtain ⟨g', hg1, hg2, hg3⟩ := hold_ok (bndE_kid (q := g) n2 (by simp [kids]) fun _ => rfl) n3
    have i0 := run_hold (k := k + 1) (bndE_kid (q := c) n2 (by simp [kids]) fun _ => rfl) n3 hc1 m
    have i1 := run_hold (k := k + 1) (bndE_kid (q := f) n2 (by simp [kids]) fun _ => rfl) n3 hf1 m
    have i2 := run_hold (k := k + 1) (bndE_kid (q := g) n2 (by simp [kids]) fun _ => rfl) n3 hg1 m
    simp only [enc]
    rw [case_ne rfl, case_ne rfl, case_ne rfl, case_hit rfl rfl]
    simp [ex, dst, ev, den, denB, M.bnd, M.ret, newT, sizeLine, fini, gc_same, entM, encMv, encS, encN, Mi.encM, hc1, hf1, hg1, i0, i1, i2, lt_encH, lt_encN, lt_encBy]
  | round c =>
    obtain ⟨c', hc1, hc2, hc3⟩ := hold_ok (bndE_kid (q := c) n2 (by simp [kids]) fun _ => rfl) n3
    have i0 := run_hold (k := k + 1) (bndE_kid (q := c) n2 (by simp [kids]) fun _ => rfl) n3 hc1 m
    simp only [enc]
    rw [case_ne rfl, case_ne rfl, case_ne rfl, case_ne rfl, case_hit rfl rfl]
    simp [ex, dst, ev, den, denB, M.bnd, M.ret, newT, sizeLine, fini, gc_same, entM, encMv, encS, encN, encBy, hold1, hc1, i0, lt_encH, lt_encN, lt_encBy]
  | take a x c =>
    have ht := run_takm (k := k) w0 m
    rw [← hS] at ht
    simp only [enc]
    rw [case_ne rfl, case_ne rfl, case_ne rfl, case_ne rfl, case_ne rfl, case_any]
    simp [ex, dst, ev, den, denB, M.bnd, M.ret, ht, fini, gc_same, lt_encMv]
/-! ### a value is given back -/
theorem run_callm {f v : HD} {r : NR} {b : List NR} {s : Nat} (hf : f.isVal = true) (hv : v.isVal = true) (wf : wH f) (wv : wH v) (m : List SO) :
    run tb (k + 3) "called_machine" [encH f, encH v, .tup [encN r, encBy b], .int s] m = some (encMv (callM f v r b s), m) := by
  rw [run_at tb_called_machine (k + 2) rfl]
  have e1 : ∀ (A F : D), (ex (k + 2) (run tb (k + 2)) (.unp [4, 5, 6] (.var 0))).x [some (.tup [A, F, D.int 0]), some (encH v), some (.tup [encN r, encBy b]), some (.int s), none, none, none, none, none, none] m = some ((.nx, [some (.tup [A, F, D.int 0]), some (encH v), some (.tup [encN r, encBy b]), some (.int s), some A, some F, some (.int 0), none, none, none]), m) := fun A F => by
    simp [ex, dst, ev, den, M.bnd, M.ret, tgt, setsR]
  cases f with
  | pc p e => exact absurd hf Bool.false_ne_true
  | num i =>
    simp only [fn_called_machine, encH]
    show fini m ((ex (k + 2) (run tb (k + 2)) _).x [some _, some (encH v), some (.tup [encN r, encBy b]), some (.int s), none, none, none, none, none, none] m) = _
    rw [ex_seq (e1 _ _), ex_mtch rfl, case_ne rfl, case_ne rfl, case_any]
    simp [ex, dst, ev, den, denB, M.bnd, M.ret, fini, gc_same, callM, encMv]
  | clo a x c e n =>
    have wc := wf
    simp only [wH] at wc
    obtain ⟨hx, ⟨sc, hc1, hc2⟩, we⟩ := wc
    have wk : Mi.wE (.cons x v e) := by simp only [Mi.wE]; exact ⟨hv, wv, we, hx⟩
    have hb : bndE c (.cons x v e) := ⟨sc, hc1, fun y hy => by simp only [EN.dom, List.mem_cons]; exact hc2 y hy⟩
    obtain ⟨c', h1, h2, h3⟩ := hold_ok hb wk
    have hh := run_hold (k := k) hb wk h1 m
    simp only [encE] at hh
    have e1 : (ex (k + 2) (run tb (k + 2)) (.unp [4, 5, 6] (.var 0))).x [some (encH (.clo a x c e n)), some (encH v), some (.tup [encN r, encBy b]), some (.int s), none, none, none, none, none, none] m = some ((.nx, [some (encH (.clo a x c e n)), some (encH v), some (.tup [encN r, encBy b]), some (.int s), some (.tup [.str "shut", .int a, .str x, enc c]), some (encE e), some (.int n), none, none, none]), m) := by
      simp [encH, ex, dst, ev, den, M.bnd, M.ret, tgt, setsR]
    simp only [fn_called_machine]
    show fini m ((ex (k + 2) (run tb (k + 2)) _).x [some (encH (.clo a x c e n)), some (encH v), some (.tup [encN r, encBy b]), some (.int s), none, none, none, none, none, none] m) = _
    rw [ex_seq e1, ex_mtch rfl, case_hit rfl rfl]
    simp [ex, dst, ev, den, denB, M.bnd, M.ret, newT, sizeLine, seqOf, fini, gc_same, callM, encMv, encS, h1, hold1, hh, lt_encH, lt_encN, lt_encBy]
  | kep a q n =>
    have e1 : (ex (k + 2) (run tb (k + 2)) (.unp [4, 5, 6] (.var 0))).x [some (encH (.kep a q n)), some (encH v), some (.tup [encN r, encBy b]), some (.int s), none, none, none, none, none, none] m = some ((.nx, [some (encH (.kep a q n)), some (encH v), some (.tup [encN r, encBy b]), some (.int s), some (.tup [.str "kept", .int a, encN q]), some .non, some (.int n), none, none, none]), m) := by
      simp [encH, ex, dst, ev, den, M.bnd, M.ret, tgt, setsR]
    simp only [fn_called_machine]
    show fini m ((ex (k + 2) (run tb (k + 2)) _).x [some (encH (.kep a q n)), some (encH v), some (.tup [encN r, encBy b]), some (.int s), none, none, none, none, none, none] m) = _
    rw [ex_seq e1, ex_mtch rfl, case_ne rfl, case_hit rfl rfl]
    simp [ex, dst, ev, den, denB, M.bnd, M.ret, newT, sizeLine, fini, gc_same, callM, encMv, encS, encBy, lt_encH, lt_encN, lt_encBy]
def runp : Sm := sq1 fn_returned.body
def rmat : Sm := sq2 fn_returned.body
theorem retm_body : fn_returned.body = .seq runp rmat := rfl
theorem idx_num (i : Int) (m : List SO) : idxD (encH (.num i)) (.int 0) m = some (.tup [.str "num", .int i], m) := by rw [encH, idx_hd]
theorem run_retm {v : HD} {f : MF} {r : NR} {b : List NR} {s : Nat} (hv : v.isVal = true) (w : wS ⟨v, .cons f r, b, s⟩) (m : List SO) : run tb (k + 4) "returned" [encS ⟨v, .cons f r, b, s⟩] m = some (encMv (retM v f r b s), m) := by
  obtain ⟨w1, w2, w3⟩ := w
  simp only [wN] at w2
  obtain ⟨wf, wr⟩ := w2
  have e1 : (ex (k + 3) (run tb (k + 3)) runp).x [some (encS ⟨v, .cons f r, b, s⟩), none, none, none, none, none, none, none, none, none] m = some ((.nx, [some (encS ⟨v, .cons f r, b, s⟩), some (encH v), some (Mi.encM f), some (encN r), some (encBy b), some (.int s), none, none, none, none]), m) := by
    simp only [runp, fn_returned, sq1]
    simp [encS, encN, ex, dst, ev, den, M.bnd, M.ret, tgt, setsN, setsR]
  rw [run_at tb_returned (k + 3) rfl, retm_body]
  show fini m ((ex (k + 3) (run tb (k + 3)) _).x [some (encS ⟨v, .cons f r, b, s⟩), none, none, none, none, none, none, none, none, none] m) = _
  rw [ex_seq e1]
  obtain ⟨S, hS⟩ : ∃ S, S = encS ⟨v, .cons f r, b, s⟩ := ⟨_, rfl⟩
  rw [← hS]
  simp only [rmat, fn_returned, sq2]
  rw [ex_mtch rfl]
  cases f with
  | caller a h =>
    simp only [Mi.encM]
    rw [case_hit rfl rfl]
    simp [ex, dst, ev, den, denB, M.bnd, M.ret, newT, sizeLine, fini, gc_same, retM, encMv, encS, encN, Mi.encM, lt_encH, lt_encN, lt_encBy]
  | given a h =>
    simp only [wM] at wf
    have hc := run_callm (k := k) (r := r) (b := b) (s := s) wf.1 hv wf.2 w1 m
    simp only [Mi.encM]
    rw [case_ne rfl, case_hit rfl rfl]
    simp [ex, dst, ev, den, denB, M.bnd, M.ret, newT, sizeLine, fini, gc_same, retM, hc, lt_encMv]
  | adder a h =>
    simp only [Mi.encM]
    rw [case_ne rfl, case_ne rfl, case_hit rfl rfl]
    simp [ex, dst, ev, den, denB, M.bnd, M.ret, newT, sizeLine, fini, gc_same, retM, encMv, encS, encN, Mi.encM, lt_encH, lt_encN, lt_encBy]
  | added a h =>
    simp only [wM] at wf
    have h1 := run_isnm (k := k + 2) wf.2 m
    have h2 := run_isnm (k := k + 2) w1 m
    simp only [Mi.encM]
    rw [case_ne rfl, case_ne rfl, case_ne rfl, case_hit rfl rfl]
    have hm : ∀ (i j : Int), h = .num i → v = .num j → retM v (.added a h) r b s = .to ⟨.num (i + j), r, b, s + 1⟩ := fun i j e1 e2 => by subst e1 e2; rfl
    cases hh : isNumH h with
    | false =>
      have hr : retM v (.added a h) r b s = .stop := by cases h <;> first | rfl | (exact absurd hh (by simp [isNumH]))
      rw [hh] at h1
      simp [ex, dst, ev, den, denB, M.bnd, M.ret, truthM, h1, fini, gc_same, hr, encMv]
    | true =>
      rw [hh] at h1
      cases hg : isNumH v with
      | false =>
        have hr : retM v (.added a h) r b s = .stop := by cases h <;> cases v <;> first | rfl | (exact absurd hg (by simp [isNumH]))
        rw [hg] at h2
        simp [ex, dst, ev, den, denB, M.bnd, M.ret, truthM, h1, h2, fini, gc_same, hr, encMv]
      | true =>
        rw [hg] at h2
        cases h <;> first | (simp [isNumH] at hh; done) | skip
        cases v <;> first | (simp [isNumH] at hg; done) | skip
        rename_i i j
        simp [ex, dst, ev, den, denB, M.bnd, M.ret, truthM, h1, h2, idx_num, idx_t1, run_number, newT, sizeLine, fini, gc_same, retM, encMv, encS, lt_encH, lt_encN, lt_encBy]
  | picker a h g =>
    simp only [wM] at wf
    have h2 := run_isnm (k := k + 2) w1 m
    simp only [Mi.encM]
    rw [case_ne rfl, case_ne rfl, case_ne rfl, case_ne rfl, case_hit rfl rfl]
    cases hg : isNumH v with
    | false =>
      have hr : retM v (.picker a h g) r b s = .stop := by cases v <;> first | rfl | (exact absurd hg (by simp [isNumH])) | (exact absurd hv Bool.false_ne_true)
      rw [hg] at h2
      simp [ex, dst, ev, den, denB, M.bnd, M.ret, truthM, h2, fini, gc_same, hr, encMv]
    | true =>
      rw [hg] at h2
      cases v <;> first | (simp [isNumH] at hg; done) | skip
      rename_i i
      by_cases hi : i = 0
      · subst hi
        simp [ex, dst, ev, den, denB, M.bnd, M.ret, truthM, h2, idx_num, idx_t1, cmp_ints, newT, sizeLine, fini, gc_same, retM, encMv, encS, lt_encH, lt_encN, lt_encBy]
      · simp [ex, dst, ev, den, denB, M.bnd, M.ret, truthM, h2, idx_num, idx_t1, cmp_ints, hi, newT, sizeLine, fini, gc_same, retM, encMv, encS, lt_encH, lt_encN, lt_encBy]
/-! ### a move -/
theorem isNon_encN (r : NR) : Mi.isNon (encN r) = (match r with | .nil => true | _ => false) := by cases r <;> simp [encN, Mi.isNon]
theorem isNon_encBy (b : List NR) : Mi.isNon (encBy b) = b.isEmpty := by cases b <;> simp [encBy, Mi.isNon]
theorem run_moved {S : MS1} (w : wS S) (m : List SO) : run tb (k + 5) "moved" [encS S] m = some (encMv (move S), m) := by
  obtain ⟨h, r, b, s⟩ := S
  have h1 := run_isvm (k := k + 3) w.1 m
  rw [run_at tb_moved (k + 4) rfl]
  cases hv : h.isVal with
  | false =>
    rw [hv] at h1
    cases h <;> first | (exact absurd hv.symm Bool.false_ne_true) | skip
    rename_i p e
    have he := run_entm (k := k) w m
    simp only [encS] at he
    simp [fn_moved, encS, ex, dst, ev, den, denB, M.bnd, M.ret, tgt, setsR, truthM, h1, he, fini, gc_same, lt_encMv]
    rfl
  | true =>
    rw [hv] at h1
    cases r with
    | cons f r =>
      have he := run_retm (k := k) hv w m
      rw [← move_v hv] at he
      have hn := isNon_encN (.cons f r)
      simp only [encS] at he
      simp [fn_moved, encS, ex, dst, ev, den, denB, M.bnd, M.ret, tgt, setsR, truthM, h1, he, cmp_notN, hn, fini, gc_same, lt_encMv]
    | nil =>
      have hn := isNon_encN .nil
      have hb := isNon_encBy b
      cases b with
      | nil =>
        have hm : move ⟨h, .nil, [], s⟩ = .stop := by cases h <;> first | (exact absurd hv Bool.false_ne_true) | rfl
        simp [fn_moved, encS, ex, dst, ev, den, denB, M.bnd, M.ret, tgt, setsR, truthM, h1, cmp_notN, hn, hb, fini, gc_same, hm, encMv]
      | cons r1 b =>
        have hm : move ⟨h, .nil, r1 :: b, s⟩ = .to ⟨h, r1, b, s + 1⟩ := by cases h <;> first | (exact absurd hv Bool.false_ne_true) | rfl
        simp only [encBy] at hb
        simp [fn_moved, encS, encBy, ex, dst, ev, den, denB, M.bnd, M.ret, tgt, setsR, truthM, h1, cmp_notN, hn, hb, seqOf, newT, sizeLine, fini, gc_same, hm, encMv, lt_encH, lt_encN, lt_encBy]
end K13
namespace K13
open PySem PySem.Spec PyProof.Rows L2 Mi
variable {m : List SO} {k : Nat}

theorem run_whole_int (i : Int) (m : List SO) : run tb (k + 1) "is_whole" [.int i] m = some (.bl true, m) := by
  rw [run_at tb_is_whole k rfl]
  simp [fn_is_whole, ex, ev, dst, den, denB, M.bnd, M.ret, M.no, idxD, seqOf, atI, ixN, cmpM, cmpD, cmpI, newT, newL, flatD, inD, eqF, fini, gc_same, gc_app, truthM, truth, Mi.isNon, bltD, methD, itemsD, tgt, setsR, wipeR, slcD, cut, HT.sIx, ptO, binD, Mi.binI, Still, forL, compL, isiD, sizeLine, getL_app0, gc_same]
theorem one_le {a b : Nat} (h : a ≤ b) : [a] ≤ [b] := by
  intro hlt
  have h2 : [b] < [a] := hlt
  rw [List.cons_lt_cons_iff] at h2
  rcases h2 with h2 | ⟨_, h2⟩
  · omega
  · exact absurd h2 (List.lt_irrefl [])
theorem run_is_name {x : Str} (h : Nm x) (m : List SO) : run tb (k + 1) "is_name" [.str x] m = some (.bl true, m) := by
  rw [run_at tb_is_name k rfl]
  have hl : x.length ≤ 16777216 := by have := h.2.2; omega
  have h1 : (1 : Int) ≤ x.length := by have := h.2.1; omega
  have h2 : (x.length : Int) ≤ 8 := by have := h.2.2; omega
  have key : (ev k (run tb k) (.allG ["sign"] (.nm 0) .txt (.cons (.var 0) .nil) (.chain .le .le (.cst (.str "a")) (.var 0) (.cst (.str "z")))) [some (.str x)]).v m = some (.bl true, m) := by
    refine evG_of (m1 := m) (ds := [.str x]) (m2 := m) (it := (x.cps.toList.map fun c => D.str ⟨#[c]⟩, none)) (by simp [ex, ev, dst, den, denB, M.bnd, M.ret, M.no, idxD, seqOf, atI, ixN, cmpM, cmpD, cmpI, newT, newL, flatD, inD, eqF, fini, gc_same, gc_app, truthM, truth, Mi.isNon, bltD, methD, itemsD, tgt, setsR, wipeR, slcD, cut, HT.sIx, ptO, binD, Mi.binI, Still, forL, compL, isiD, sizeLine, getL_app0]) rfl (allL_true fun d hd => ?_)
    obtain ⟨c, hc, rfl⟩ := List.mem_map.mp hd
    have := low_sign h hc
    have e1 : (Str.ofString "a").cps = #[97] := by rfl
    have e2 : (Str.ofString "z").cps = #[122] := by rfl
    have f1 : cmpS .le (Str.ofString "a") ⟨#[c]⟩ = some true := by
      simp only [cmpS, e1]
      simp
      exact one_le (by omega)
    have f2 : cmpS .le ⟨#[c]⟩ (Str.ofString "z") = some true := by
      simp only [cmpS, e2]
      simp
      exact one_le (by omega)
    simp [aturn, ex, ev, dst, den, denB, M.bnd, M.ret, M.no, idxD, seqOf, atI, ixN, cmpM, cmpD, cmpI, newT, newL, flatD, inD, eqF, fini, gc_same, gc_app, truthM, truth, Mi.isNon, bltD, methD, itemsD, tgt, setsR, wipeR, slcD, cut, HT.sIx, ptO, binD, Mi.binI, Still, forL, compL, isiD, sizeLine, getL_app0, f1, f2]
  have hx : (ex k (run tb k) (.ifs (.or (.not (.isi (.var 0) "str")) (.not (.chain .le .le (.cst (.int (1))) (.blt .len (.cons (.var 0) .nil)) (.glb "LONGEST_NAME" (.int (8)))))) (.ret (.cst (.bl false))) .pass)).x [some (.str x)] m = some ((.nx, [some (.str x)]), m) := by
    simp [ex, ev, dst, den, denB, M.bnd, M.ret, M.no, idxD, seqOf, atI, ixN, cmpM, cmpD, cmpI, newT, newL, flatD, inD, eqF, fini, gc_same, gc_app, truthM, truth, Mi.isNon, bltD, methD, itemsD, tgt, setsR, wipeR, slcD, cut, HT.sIx, ptO, binD, Mi.binI, Still, forL, compL, isiD, sizeLine, getL_app0, hl, h1, h2]
  show fini m ((ex k (run tb k) fn_is_name.body).x [some (.str x)] m) = _
  simp only [fn_is_name]
  rw [ex_seq hx, ex_ret key]
  simp [fini, gc_same]
theorem run_fits_num {i : Int} (h : -1000000000000 < i ∧ i < 1000000000000) (m : List SO) : run tb (k + 2) "fits" [.int i, .str "number"] m = some (.bl true, m) := by
  rw [run_at tb_fits (k + 1) rfl]
  simp [fn_fits, ex, ev, dst, den, denB, M.bnd, M.ret, M.no, idxD, seqOf, atI, ixN, cmpM, cmpD, cmpI, newT, newL, flatD, inD, eqF, fini, gc_same, gc_app, truthM, truth, Mi.isNon, bltD, methD, itemsD, tgt, setsR, wipeR, slcD, cut, HT.sIx, ptO, binD, Mi.binI, Still, forL, compL, isiD, sizeLine, getL_app0, eqD_str, run_whole_int, gc_same, h.1, h.2]
theorem run_fits_mark {i : Int} (h : mkOk i) (m : List SO) : run tb (k + 2) "fits" [.int i, .str "mark"] m = some (.bl true, m) := by
  rw [run_at tb_fits (k + 1) rfl]
  simp [fn_fits, ex, ev, dst, den, denB, M.bnd, M.ret, M.no, idxD, seqOf, atI, ixN, cmpM, cmpD, cmpI, newT, newL, flatD, inD, eqF, fini, gc_same, gc_app, truthM, truth, Mi.isNon, bltD, methD, itemsD, tgt, setsR, wipeR, slcD, cut, HT.sIx, ptO, binD, Mi.binI, Still, forL, compL, isiD, sizeLine, getL_app0, eqD_str, run_whole_int, gc_same, h.1, h.2]
theorem run_fits_name {x : Str} (h : Nm x) (m : List SO) : run tb (k + 2) "fits" [.str x, .str "name"] m = some (.bl true, m) := by
  rw [run_at tb_fits (k + 1) rfl]
  simp [fn_fits, ex, ev, dst, den, denB, M.bnd, M.ret, M.no, idxD, seqOf, atI, ixN, cmpM, cmpD, cmpI, newT, newL, flatD, inD, eqF, fini, gc_same, gc_app, truthM, truth, Mi.isNon, bltD, methD, itemsD, tgt, setsR, wipeR, slcD, cut, HT.sIx, ptO, binD, Mi.binI, Still, forL, compL, isiD, sizeLine, getL_app0, eqD_str, run_is_name h, gc_same]
theorem run_fits_piece (d : D) (m : List SO) : run tb (k + 2) "fits" [d, .str "piece"] m = some (.bl true, m) := by
  rw [run_at tb_fits (k + 1) rfl]
  simp [fn_fits, ex, ev, dst, den, denB, M.bnd, M.ret, M.no, idxD, seqOf, atI, ixN, cmpM, cmpD, cmpI, newT, newL, flatD, inD, eqF, fini, gc_same, gc_app, truthM, truth, Mi.isNon, bltD, methD, itemsD, tgt, setsR, wipeR, slcD, cut, HT.sIx, ptO, binD, Mi.binI, Still, forL, compL, isiD, sizeLine, getL_app0, eqD_str, gc_same]
theorem run_knot {p : RP} {sc : List Str} (h : pcs p sc) (m : List SO) : run tb (k + 3) "is_knot" [enc p] m = some (.bl true, m) := by
  rw [run_at tb_is_knot (k + 2) rfl]
  obtain ⟨h, hs⟩ := h
  have key : ∀ (w : String) (ds : List D) (ks : List String), enc p = .tup (.str (Str.ofString w) :: ds) → gd_FORMS.lookup (Str.ofString w) = some (.tup (ks.map fun x => .str (Str.ofString x))) → ds.length = ks.length → ds.length < 100 →
      (∀ q ∈ ds.zip (ks.map fun x => D.str (Str.ofString x)), ∀ M, run tb (k + 2) "fits" [q.1, q.2] M = some (.bl true, M)) →
      fini m ((ex (k + 2) (run tb (k + 2)) fn_is_knot.body).x ([enc p].map some ++ List.replicate (fn_is_knot.N.length - [enc p].length) none) m) = some (.bl true, m) := by
    intro w ds ks he hg hl hl2 hf
    rw [he]
    have hx : (ev (k + 2) (run tb (k + 2)) (.allG ["part", "kind"] (.tp [0, 1]) .zip (.cons (.slc (.var 0) (.cons (.cst (.int (1))) .nil) .nil) (.cons (.var 2) .nil)) (.call "fits" (.cons (.var 0) (.cons (.var 1) .nil)))) [some (.tup (.str (Str.ofString w) :: ds)), some (.str (Str.ofString w)), some (.tup (ks.map fun x => .str (Str.ofString x)))]).v m = some (.bl true, m) := by
      have hs : slcD (some 1) none (.tup (.str (Str.ofString w) :: ds)) m = some (.tup ds, m) := slc_t1 _ _ _
      refine evG_of (m1 := m) (ds := [.tup ds, .tup (ks.map fun x => .str (Str.ofString x))]) (m2 := m) (it := ((ds.zip (ks.map fun x => D.str (Str.ofString x))).map fun p => D.tup [p.1, p.2], none)) (by simp [ev, den, M.bnd, M.ret, ptO, hs]) rfl (allL_true fun d hd => ?_)
      obtain ⟨q, hq, rfl⟩ := List.mem_map.mp hd
      have := hf q hq m
      simp [aturn, tgt, setsR, ev, den, M.bnd, M.ret, this]
    have hlen : (ds.length : Int) + 1 = (ks.length : Int) + 1 := by omega
    simp only [fn_is_knot, List.map_cons, List.map_nil, List.length_cons, List.length_nil, List.cons_append, List.nil_append, List.replicate]
    rw [ex_seq (r' := [some (.tup (.str (Str.ofString w) :: ds)), none, none]) (m' := m) (by simp [ex, dst, ev, den, denB, M.bnd, M.ret, isiD, truthM, truth])]
    rw [ex_seq (r' := [some (.tup (.str (Str.ofString w) :: ds)), some (.str (Str.ofString w)), none]) (m' := m) (by simp [ex, dst, ev, den, M.bnd, M.ret, idx_hd])]
    rw [ex_seq (r' := [some (.tup (.str (Str.ofString w) :: ds)), some (.str (Str.ofString w)), none]) (m' := m) (by simp [ex, dst, ev, den, denB, M.bnd, M.ret, isiD, truthM, truth, hg])]
    rw [ex_seq (r' := [some (.tup (.str (Str.ofString w) :: ds)), some (.str (Str.ofString w)), some (.tup (ks.map fun x => .str (Str.ofString x)))]) (m' := m) (by simp [ex, dst, ev, den, denB, M.bnd, M.ret, hg])]
    rw [ex_seq (r' := [some (.tup (.str (Str.ofString w) :: ds)), some (.str (Str.ofString w)), some (.tup (ks.map fun x => .str (Str.ofString x)))]) (m' := m) (by simp [ex, dst, ev, den, denB, M.bnd, M.ret, bltD, seqOf, cmpM, cmpD, eqD_int, hlen])]
    rw [ex_ret hx]
    simp [fini, gc_same]
  cases p <;> simp only [pc] at h
  case num i => exact key "num" [.int i] ["number"] rfl rfl rfl (by simp) (by simpa using fun M => run_fits_num h M)
  case name x => exact key "name" [.str x] ["name"] rfl rfl rfl (by simp) (by simpa using fun M => run_fits_name (hs x h) M)
  case fun_ a x b => exact key "fun" [.int a, .str x, enc b] ["mark", "name", "piece"] rfl rfl rfl (by simp) (by simpa using ⟨fun M => run_fits_mark h.1 M, fun M => run_fits_name h.2.1 M, fun M => run_fits_piece _ M⟩)
  case take a x b => exact key "take" [.int a, .str x, enc b] ["mark", "name", "piece"] rfl rfl rfl (by simp) (by simpa using ⟨fun M => run_fits_mark h.1 M, fun M => run_fits_name h.2.1 M, fun M => run_fits_piece _ M⟩)
  case call a f g => exact key "call" [.int a, enc f, enc g] ["mark", "piece", "piece"] rfl rfl rfl (by simp) (by simpa using ⟨fun M => run_fits_mark h.1 M, fun M => run_fits_piece _ M, fun M => run_fits_piece _ M⟩)
  case plus a f g => exact key "plus" [.int a, enc f, enc g] ["mark", "piece", "piece"] rfl rfl rfl (by simp) (by simpa using ⟨fun M => run_fits_mark h.1 M, fun M => run_fits_piece _ M, fun M => run_fits_piece _ M⟩)
  case pick a c f g => exact key "pick" [.int a, enc c, enc f, enc g] ["mark", "piece", "piece", "piece"] rfl rfl rfl (by simp) (by simpa using ⟨fun M => run_fits_mark h.1 M, fun M => run_fits_piece _ M, fun M => run_fits_piece _ M, fun M => run_fits_piece _ M⟩)
  case round b => exact key "round" [enc b] ["piece"] rfl rfl rfl (by simp) (by simpa using fun M => run_fits_piece _ M)
end K13
namespace K13
open PySem PySem.Spec PyProof.Rows L2 Mi
variable {m : List SO} {k : Nat}

theorem run_parts {p : RP} {sc : List Str} (h : pcs p sc) (m : List SO) : run tb (k + 1) "parts_of" [enc p] m = some (.loc m.length, m ++ [.lst ((kids p).map enc)]) := by
  rw [run_at tb_parts_of k rfl]
  have hg := fun l : List D => gc_new (m := m) (l := []) (xs := l)
  obtain ⟨h, _⟩ := h
  cases p <;> simp only [pc] at h
  all_goals
    simp only [fn_parts_of, enc, kids]
    simp [ex, ev, dst, den, denB, M.bnd, M.ret, M.no, idxD, seqOf, atI, ixN, cmpM, cmpD, cmpI, newT, newL, flatD, inD, eqF, fini, gc_same, gc_app, truthM, truth, Mi.isNon, bltD, methD, itemsD, tgt, setsR, wipeR, slcD, cut, HT.sIx, ptO, binD, Mi.binI, Still, forL, compL, isiD, sizeLine, getL_app0, eqD_str, hg, lt_enc]
def wbody : Sm := match fn_is_piece.body with
  | .seq _ (.seq _ (.seq (.whl _ b) _)) => b
  | s => s
def wfor : Sm := match wbody with
  | .seq _ (.seq _ (.seq _ (.for_ _ _ _ b))) => b
  | s => s
def w1 : Sm := sq1 wbody
def w2 : Sm := sq1 (sq2 wbody)
def w3 : Sm := sq1 (sq2 (sq2 wbody))
theorem piece_body0 : fn_is_piece.body = .seq (sq1 fn_is_piece.body) (.seq (.set 2 (.cst (.int 0))) (.seq (.whl (.var 1) wbody) (.ret (.cst (.bl true))))) := rfl
theorem wbody_eq : wbody = .seq w1 (.seq w2 (.seq w3 (.for_ (.nm 5) .one (.cons (.call "parts_of" (.cons (.var 3) .nil)) .nil) wfor))) := rfl
def encW (w : RP × Nat) : D := .tup [enc w.1, .int w.2]
theorem isp_turn {T r3 r4 r5 : Option D} {ws : List (RP × Nat)} {p : RP} {d kn : Nat} {sc : List Str} {l : List SO} (h : pcs p sc) (hd : d ≤ 30) (hk : kn + 1 ≤ 300) (hl : ws.length < 1000) :
    ∃ r5' l', (ex (k + 3) (run tb (k + 3)) wbody).x [T, some (.loc m.length), some (.int kn), r3, r4, r5] (m ++ .lst ((ws ++ [(p, d)]).map encW) :: l)
      = some ((.nx, [T, some (.loc m.length), some (.int ((kn + 1 : Nat) : Int)), some (enc p), some (.int d), r5']), m ++ .lst ((ws ++ (kids p).map fun q => (q, d + 1)).map encW) :: l') := by
  have hkids : (kids p).length ≤ 3 := by cases p <;> simp [kids]
  have hp : methD .pop (.loc m.length) [] (m ++ .lst ((ws ++ [(p, d)]).map encW) :: l) = some (encW (p, d), m ++ .lst (ws.map encW) :: l) := by
    rw [meth_pop (xs := ws.map encW) (y := encW (p, d)) (by simp)]
    simp
  obtain ⟨S, hS⟩ : ∃ S, S = m ++ .lst (ws.map encW) :: l := ⟨_, rfl⟩
  obtain ⟨S0, hS0⟩ : ∃ S0, S0 = m ++ .lst ((ws ++ [(p, d)]).map encW) :: l := ⟨_, rfl⟩
  rw [← hS, ← hS0] at hp
  rw [← hS0]
  have e1 : (ex (k + 3) (run tb (k + 3)) w1).x [T, some (.loc m.length), some (.int kn), r3, r4, r5] S0 = some ((.nx, [T, some (.loc m.length), some (.int kn), some (enc p), some (.int d), r5]), S) := by
    simp only [w1, wbody, fn_is_piece, sq1]
    simp only [ex, dst, ev, den, M.bnd, M.ret]
    simp [hp, encW, tgt, setsR]
  have e2 : (ex (k + 3) (run tb (k + 3)) w2).x [T, some (.loc m.length), some (.int kn), some (enc p), some (.int d), r5] S = some ((.nx, [T, some (.loc m.length), some (.int ((kn + 1 : Nat) : Int)), some (enc p), some (.int d), r5]), S) := by
    simp only [w2, wbody, fn_is_piece, sq1, sq2]
    simp [ex, dst, ev, den, M.bnd, M.ret]
  have hkn : run tb (k + 3) "is_knot" [enc p] S = some (.bl true, S) := run_knot h S
  have e3 : (ex (k + 3) (run tb (k + 3)) w3).x [T, some (.loc m.length), some (.int ((kn + 1 : Nat) : Int)), some (enc p), some (.int d), r5] S = some ((.nx, [T, some (.loc m.length), some (.int ((kn + 1 : Nat) : Int)), some (enc p), some (.int d), r5]), S) := by
    have c1 : ¬ (300 : Int) < kn + 1 := by omega
    have c2 : ¬ (30 : Int) < d := by omega
    simp only [w3, wbody, fn_is_piece, sq1, sq2]
    simp [ex, dst, ev, den, denB, M.bnd, M.ret, cmpM, cmpD, cmpI, hkn, c1, c2, truthM]
  have hpt := run_parts (k := k + 2) h S
  have hj : (S ++ [SO.lst ((kids p).map enc)])[S.length]? = some (.lst ((kids p).map enc)) := by simp
  have hn : getL (S ++ [SO.lst ((kids p).map enc)]) m.length = some (ws.map encW) := by rw [hS]; simp
  have hne : m.length ≠ S.length := by rw [hS]; simp
  obtain ⟨r5', hf⟩ := for_app (f := turnF (.nm 5) (ex (k + 3) (run tb (k + 3)) wfor).x) (j := S.length) (n := m.length) (ys := (kids p).map enc)
    (E := fun r5 => [T, some (.loc m.length), some (.int ((kn + 1 : Nat) : Int)), some (enc p), some (.int d), r5]) (fun y => .tup [y, .int (d + 1)]) hne
    (fun y hy r5 Z xs hx hz => by
      have ha := meth_app hx hz (.tup [y, .int (d + 1)])
      simp only [turnF, tgt, wfor, wbody, fn_is_piece]
      simp [ex, dst, ev, den, M.bnd, M.ret, newT, sizeLine, ha]) ((kids p).map enc) r5 _ _ (fun _ h => h) hj hn (by simp [sizeLine]; omega)
  refine ⟨r5', l ++ [.lst ((kids p).map enc)], ?_⟩
  rw [wbody_eq, ex_seq e1, ex_seq e2, ex_seq e3]
  rw [ex_for (ds := [.loc S.length]) (m1 := S ++ [SO.lst ((kids p).map enc)]) (m2 := S ++ [SO.lst ((kids p).map enc)]) (it := ((kids p).map enc, some (S.length, (kids p).map enc))) (by simp [ev, den, M.bnd, M.ret, hpt]) (by simp [itemsD, getL])]
  rw [hf, hS]
  simp [encW, Function.comp_def]
theorem isp_loop {T : Option D} : ∀ (N : Nat) (ws : List (RP × Nat)) (kn : Nat) (r3 r4 r5 : Option D) (l : List SO), knotsL (ws.map (·.1)) ≤ N → (∀ w ∈ ws, ∃ sc, pcs w.1 sc) → (∀ w ∈ ws, w.2 + w.1.dp ≤ 30) → kn + knotsL (ws.map (·.1)) ≤ 300 →
    ∃ n r' l', whN (fun r => (ev (k + 3) (run tb (k + 3)) (.var 1) r).t) (ex (k + 3) (run tb (k + 3)) wbody).x n [T, some (.loc m.length), some (.int kn), r3, r4, r5] (m ++ .lst (ws.map encW) :: l) = some ((.nx, r'), m ++ l')
  | N, ws, kn, r3, r4, r5, l, hN, hp, hd, hk => by
    rcases List.eq_nil_or_concat ws with rfl | ⟨us, w, rfl⟩
    · refine ⟨1, [T, some (.loc m.length), some (.int kn), r3, r4, r5], .lst [] :: l, ?_⟩
      have ht := truth_loc (m := m ++ .lst [] :: l) (n := m.length) (xs := []) (by simp)
      simp only [whN, ev, den, M.bnd, List.map_nil]
      simp [truthM, ht, M.ret]
    · obtain ⟨p, d⟩ := w
      rw [List.concat_eq_append] at hN hp hd hk ⊢
      obtain ⟨sc, hsc⟩ := hp (p, d) (by simp)
      have hdd := hd (p, d) (by simp)
      simp only at hdd hsc
      have e : knotsL ((us ++ [(p, d)]).map (·.1)) = knotsL (us.map (·.1)) + (knotsL (kids p) + 1) := by
        rw [← knots_kids]; simp [knotsL]
      rw [e] at hN hk
      cases N with
      | zero => omega
      | succ N =>
        have hul : us.length ≤ knotsL (us.map (·.1)) := by
          clear e hN hp hd hk
          induction us with
          | nil => simp
          | cons a us ih =>
            have := knots_pos a.1
            simp [knotsL] at ih ⊢
            omega
        obtain ⟨r5', l', ht⟩ := isp_turn (k := k) (m := m) (T := T) (r3 := r3) (r4 := r4) (r5 := r5) (ws := us) (p := p) (d := d) (kn := kn) (l := l) hsc (by omega) (by omega) (by omega)
        have ek : knotsL ((us ++ (kids p).map fun q => (q, d + 1)).map (·.1)) = knotsL (us.map (·.1)) + knotsL (kids p) := by
          simp [knotsL, Function.comp_def]
        obtain ⟨n, r', l'', h⟩ := isp_loop N (us ++ (kids p).map fun q => (q, d + 1)) (kn + 1) (some (enc p)) (some (.int d)) r5' l' (by rw [ek]; omega) (fun w hw => by
            rcases List.mem_append.mp hw with hw | hw
            · exact hp w (by simp [hw])
            · obtain ⟨q, hq, rfl⟩ := List.mem_map.mp hw
              exact ⟨_, pcs_kids hsc hq⟩) (fun w hw => by
            rcases List.mem_append.mp hw with hw | hw
            · exact hd w (by simp [hw])
            · obtain ⟨q, hq, rfl⟩ := List.mem_map.mp hw
              have := dp_kids hq
              simp only
              omega) (by rw [ek]; omega)
        have htr := truth_loc (m := m ++ .lst ((us ++ [(p, d)]).map encW) :: l) (n := m.length) (xs := (us ++ [(p, d)]).map encW) (by simp)
        have htr : truth (m ++ .lst ((us ++ [(p, d)]).map encW) :: l) (.loc m.length) = some true := by rw [htr]; simp
        exact ⟨n + 1, r', l'', wh_step (var_t rfl htr) ht h⟩
theorem run_is_piece {p : RP} (h : pc p []) (hd : p.dp ≤ 29) (hk : p.knots ≤ 300) (m : List SO) : run tb (k + 4) "is_piece" [enc p] m = some (.bl true, m) := by
  rw [run_at tb_is_piece (k + 3) rfl, piece_body0]
  obtain ⟨n, r', l', hw⟩ := isp_loop (k := k) (m := m) (T := some (enc p)) p.knots [(p, 1)] 0 none none none [] (by simp [knotsL]) (fun w hw => by simp at hw; subst hw; exact ⟨[], h, by simp⟩) (fun w hw => by simp at hw; subst hw; simp only; omega) (by simpa [knotsL] using hk)
  have e1 : (ex (k + 3) (run tb (k + 3)) (sq1 fn_is_piece.body)).x ([enc p].map some ++ List.replicate (fn_is_piece.N.length - [enc p].length) none) m = some ((.nx, [some (enc p), some (.loc m.length), none, none, none, none]), m ++ [.lst ([(p, 1)].map encW)]) := by
    simp only [fn_is_piece, sq1]
    simp [ex, dst, ev, den, M.bnd, M.ret, newT, newL, sizeLine, encW]
  have e2 : (ex (k + 3) (run tb (k + 3)) (.set 2 (.cst (.int 0)))).x [some (enc p), some (.loc m.length), none, none, none, none] (m ++ [.lst ([(p, 1)].map encW)]) = some ((.nx, [some (enc p), some (.loc m.length), some (.int ((0 : Nat) : Int)), none, none, none]), m ++ [.lst ([(p, 1)].map encW)]) := by
    simp [ex, dst, ev, den, M.bnd, M.ret]
  have e3 : (ex (k + 3) (run tb (k + 3)) (.whl (.var 1) wbody)).x [some (enc p), some (.loc m.length), some (.int ((0 : Nat) : Int)), none, none, none] (m ++ [.lst ([(p, 1)].map encW)]) = some ((.nx, r'), m ++ l') := whC_of hw
  rw [ex_seq e1, ex_seq e2, ex_seq e3]
  have hg := gc_app (m := m) (l := l') (d := .bl true) rfl
  simp [ex, dst, ev, den, M.bnd, M.ret, fini, hg]
end K13
namespace K13
open PySem PySem.Spec PyProof.Rows L2 Mi
variable {m : List SO} {k : Nat}

def vbody : Sm := match fn_free_names.body with
  | .seq _ (.seq _ (.seq (.whl _ b) _)) => b
  | s => s
def vfor : Sm := match vbody with
  | .seq _ (.seq _ (.seq _ (.for_ _ _ _ b))) => b
  | s => s
def v1 : Sm := sq1 vbody
def v2 : Sm := sq1 (sq2 vbody)
def v3 : Sm := sq1 (sq2 (sq2 vbody))
theorem free_body : fn_free_names.body = .seq (.set 1 .mkSet) (.seq (sq1 (sq2 fn_free_names.body)) (.seq (.whl (.var 2) vbody) (.ret (.srt (.var 1))))) := rfl
theorem vbody_eq : vbody = .seq v1 (.seq v2 (.seq v3 (.for_ (.nm 5) .one (.cons (.call "parts_of" (.cons (.var 3) .nil)) .nil) vfor))) := rfl
def encB (w : RP × List Str) : D := .tup [enc w.1, .tup (w.2.map .str)]
theorem free_turn {T r3 r4 r5 : Option D} {ws : List (RP × List Str)} {p : RP} {b : List Str} {l : List SO} (h : bndOk p b) (hb : b.length ≤ 1000) (hl : ws.length < 1000) :
    ∃ r5' l', (ex (k + 3) (run tb (k + 3)) vbody).x [T, some .set0, some (.loc m.length), r3, r4, r5] (m ++ .lst ((ws ++ [(p, b)]).map encB) :: l)
      = some ((.nx, [T, some .set0, some (.loc m.length), some (enc p), some (.tup ((bndIn p b).map .str)), r5']), m ++ .lst ((ws ++ (kids p).map fun q => (q, bndIn p b)).map encB) :: l') := by
  obtain ⟨sc, h, hsc⟩ := h
  have hkids : (kids p).length ≤ 3 := by cases p <;> simp [kids]
  have hp : methD .pop (.loc m.length) [] (m ++ .lst ((ws ++ [(p, b)]).map encB) :: l) = some (encB (p, b), m ++ .lst (ws.map encB) :: l) := by
    rw [meth_pop (xs := ws.map encB) (y := encB (p, b)) (by simp)]
    simp
  obtain ⟨S, hS⟩ : ∃ S, S = m ++ .lst (ws.map encB) :: l := ⟨_, rfl⟩
  obtain ⟨S0, hS0⟩ : ∃ S0, S0 = m ++ .lst ((ws ++ [(p, b)]).map encB) :: l := ⟨_, rfl⟩
  rw [← hS, ← hS0] at hp
  rw [← hS0]
  obtain ⟨B, hB⟩ : ∃ B, B = b.map D.str := ⟨_, rfl⟩
  have e1 : (ex (k + 3) (run tb (k + 3)) v1).x [T, some .set0, some (.loc m.length), r3, r4, r5] S0 = some ((.nx, [T, some .set0, some (.loc m.length), some (enc p), some (.tup B), r5]), S) := by
    simp only [v1, vbody, fn_free_names, sq1]
    simp only [ex, dst, ev, den, M.bnd, M.ret]
    simp [hp, encB, tgt, setsR, hB]
  have e2 : (ex (k + 3) (run tb (k + 3)) v2).x [T, some .set0, some (.loc m.length), some (enc p), some (.tup B), r5] S = some ((.nx, [T, some .set0, some (.loc m.length), some (enc p), some (.tup B), r5]), S) := by
    simp only [v2, vbody, fn_free_names, sq1, sq2]
    by_cases hn : wordP p = "name"
    · cases p <;> simp [wordP] at hn
      case name x =>
        have hx : x ∈ b := hsc x h.1
        have hi := idx_t1 S (.str "name") (.str x) []
        have hin : inD (.str x) B = true := by rw [hB, in_strs]; simpa using hx
        have hfl : B.all flatD = true := by rw [hB]; exact flat_strs b
        have hc : cmpM (k + 3) .notIn (.str x) (.tup B) S = some (false, S) := by
          simp only [cmpM, cmpD, seqOf, hfl, hin, flatD]
          simp
        simp only [enc] at hi ⊢
        simp [ex, dst, ev, den, denB, M.bnd, M.ret, truthM, idx_hd, cmp_eqs, hi, hc]
    · have hc := cmp_tag (k + 3) p "name" S
      have hw : (wordP p == "name") = false := by simpa using hn
      rw [hw] at hc
      simp [ex, dst, ev, den, denB, M.bnd, M.ret, truthM, hc]
  have e3 : (ex (k + 3) (run tb (k + 3)) v3).x [T, some .set0, some (.loc m.length), some (enc p), some (.tup B), r5] S = some ((.nx, [T, some .set0, some (.loc m.length), some (enc p), some (.tup ((bndIn p b).map .str)), r5]), S) := by
    have hc := cmp_binds (k + 3) p S
    have hBl : B.length ≤ 1000 := by rw [hB]; simpa using hb
    simp only [v3, vbody, fn_free_names, sq1, sq2]
    cases p <;> simp only at hc
    case fun_ a x c =>
      have hi := idx_t2 S (.str "fun") (.int a) (.str x) [enc c]
      have hN : newT (B ++ [.str x]) S = some (.tup (B ++ [.str x]), S) := by unfold newT; rw [if_pos (by simp [sizeLine]; omega)]
      rw [hB] at hN
      simp only [tagP, wordP] at hc
      simp only [enc]
      simp [ex, dst, ev, den, denB, M.bnd, M.ret, truthM, idx_hd, hc, hi, hN, bndIn, hB]
    case take a x c =>
      have hi := idx_t2 S (.str "take") (.int a) (.str x) [enc c]
      have hN : newT (B ++ [.str x]) S = some (.tup (B ++ [.str x]), S) := by unfold newT; rw [if_pos (by simp [sizeLine]; omega)]
      rw [hB] at hN
      simp only [tagP, wordP] at hc
      simp only [enc]
      simp [ex, dst, ev, den, denB, M.bnd, M.ret, truthM, idx_hd, hc, hi, hN, bndIn, hB]
    all_goals simp [ex, dst, ev, den, denB, M.bnd, M.ret, truthM, hc, bndIn, hB]
  have hpt := run_parts (k := k + 2) h S
  have hj : (S ++ [SO.lst ((kids p).map enc)])[S.length]? = some (.lst ((kids p).map enc)) := by simp
  have hn : getL (S ++ [SO.lst ((kids p).map enc)]) m.length = some (ws.map encB) := by rw [hS]; simp
  have hne : m.length ≠ S.length := by rw [hS]; simp
  obtain ⟨C, hC⟩ : ∃ C, C = D.tup ((bndIn p b).map .str) := ⟨_, rfl⟩
  rw [← hC] at e3
  obtain ⟨r5', hf⟩ := for_app (f := turnF (.nm 5) (ex (k + 3) (run tb (k + 3)) vfor).x) (j := S.length) (n := m.length) (ys := (kids p).map enc)
    (E := fun r5 => [T, some .set0, some (.loc m.length), some (enc p), some C, r5]) (fun y => .tup [y, C]) hne
    (fun y hy r5 Z xs hx hz => by
      have ha := meth_app hx hz (.tup [y, C])
      simp only [turnF, tgt, vfor, vbody, fn_free_names]
      simp [ex, dst, ev, den, M.bnd, M.ret, newT, sizeLine, ha]) ((kids p).map enc) r5 _ _ (fun _ h => h) hj hn (by simp [sizeLine]; omega)
  refine ⟨r5', l ++ [.lst ((kids p).map enc)], ?_⟩
  rw [← hC, vbody_eq, ex_seq e1, ex_seq e2, ex_seq e3]
  rw [ex_for (ds := [.loc S.length]) (m1 := S ++ [SO.lst ((kids p).map enc)]) (m2 := S ++ [SO.lst ((kids p).map enc)]) (it := ((kids p).map enc, some (S.length, (kids p).map enc))) (by simp [ev, den, M.bnd, M.ret, hpt]) (by simp [itemsD, getL])]
  rw [hf, hS]
  simp [encB, Function.comp_def, hC]
theorem free_loop {T : Option D} : ∀ (N : Nat) (ws : List (RP × List Str)) (r3 r4 r5 : Option D) (l : List SO), knotsL (ws.map (·.1)) ≤ N → N ≤ 300 → (∀ w ∈ ws, bndOk w.1 w.2) → (∀ w ∈ ws, w.2.length + w.1.dp ≤ 100) →
    ∃ n r3' r4' r5' l', whN (fun r => (ev (k + 3) (run tb (k + 3)) (.var 2) r).t) (ex (k + 3) (run tb (k + 3)) vbody).x n [T, some .set0, some (.loc m.length), r3, r4, r5] (m ++ .lst (ws.map encB) :: l) = some ((.nx, [T, some .set0, some (.loc m.length), r3', r4', r5']), m ++ l')
  | N, ws, r3, r4, r5, l, hN, hN2, hp, hd => by
    rcases List.eq_nil_or_concat ws with rfl | ⟨us, w, rfl⟩
    · have ht := truth_loc (m := m ++ .lst [] :: l) (n := m.length) (xs := []) (by simp)
      exact ⟨1, r3, r4, r5, .lst [] :: l, wh_end (var_t rfl ht)⟩
    · obtain ⟨p, b⟩ := w
      rw [List.concat_eq_append] at hN hp hd ⊢
      have hbo := hp (p, b) (by simp)
      have hdd := hd (p, b) (by simp)
      simp only at hdd hbo
      have e : knotsL ((us ++ [(p, b)]).map (·.1)) = knotsL (us.map (·.1)) + (knotsL (kids p) + 1) := by
        rw [← knots_kids]; simp [knotsL]
      rw [e] at hN
      cases N with
      | zero => omega
      | succ N =>
        have hul : us.length ≤ knotsL (us.map (·.1)) := by
          clear e hN hp hd
          induction us with
          | nil => simp
          | cons a us ih =>
            have := knots_pos a.1
            simp [knotsL] at ih ⊢
            omega
        obtain ⟨r5', l', ht⟩ := free_turn (k := k) (m := m) (T := T) (r3 := r3) (r4 := r4) (r5 := r5) (ws := us) (p := p) (b := b) (l := l) hbo (by omega) (by omega)
        have ek : knotsL ((us ++ (kids p).map fun q => (q, bndIn p b)).map (·.1)) = knotsL (us.map (·.1)) + knotsL (kids p) := by
          simp [knotsL, Function.comp_def]
        obtain ⟨n, a1, a2, a3, l'', h⟩ := free_loop N (us ++ (kids p).map fun q => (q, bndIn p b)) (some (enc p)) (some (.tup ((bndIn p b).map .str))) r5' l' (by rw [ek]; omega) (by omega) (fun w hw => by
            rcases List.mem_append.mp hw with hw | hw
            · exact hp w (by simp [hw])
            · obtain ⟨q, hq, rfl⟩ := List.mem_map.mp hw
              exact bndOk_kids hbo hq) (fun w hw => by
            rcases List.mem_append.mp hw with hw | hw
            · exact hd w (by simp [hw])
            · obtain ⟨q, hq, rfl⟩ := List.mem_map.mp hw
              have := bndIn_len (b := b) hq
              simp only
              omega)
        have htr := truth_loc (m := m ++ .lst ((us ++ [(p, b)]).map encB) :: l) (n := m.length) (xs := (us ++ [(p, b)]).map encB) (by simp)
        have htr : truth (m ++ .lst ((us ++ [(p, b)]).map encB) :: l) (.loc m.length) = some true := by rw [htr]; simp
        exact ⟨n + 1, a1, a2, a3, l'', wh_step (var_t rfl htr) ht h⟩
theorem run_free {p : RP} (h : pc p []) (hd : p.dp ≤ 29) (hk : p.knots ≤ 300) (m : List SO) : run tb (k + 4) "free_names" [enc p] m = some (.loc m.length, m ++ [.lst []]) := by
  rw [run_at tb_free_names (k + 3) rfl, free_body]
  obtain ⟨n, a1, a2, a3, l', hw⟩ := free_loop (k := k) (m := m) (T := some (enc p)) p.knots [(p, [])] none none none [] (by simp [knotsL]) hk (fun w hw => by simp at hw; subst hw; exact ⟨[], ⟨h, by simp⟩, by simp⟩) (fun w hw => by simp at hw; subst hw; simp; omega)
  have e1 : (ex (k + 3) (run tb (k + 3)) (.set 1 .mkSet)).x ([enc p].map some ++ List.replicate (fn_free_names.N.length - [enc p].length) none) m = some ((.nx, [some (enc p), some .set0, none, none, none, none]), m) := by
    simp only [fn_free_names]
    simp [ex, dst, ev, den, M.bnd, M.ret]
  have e2 : (ex (k + 3) (run tb (k + 3)) (sq1 (sq2 fn_free_names.body))).x [some (enc p), some .set0, none, none, none, none] m = some ((.nx, [some (enc p), some .set0, some (.loc m.length), none, none, none]), m ++ [.lst ([(p, [])].map encB)]) := by
    simp only [fn_free_names, sq1, sq2]
    simp [ex, dst, ev, den, M.bnd, M.ret, newT, newL, sizeLine, encB]
  have e3 : (ex (k + 3) (run tb (k + 3)) (.whl (.var 2) vbody)).x [some (enc p), some .set0, some (.loc m.length), none, none, none] (m ++ [.lst ([(p, [])].map encB)]) = some ((.nx, [some (enc p), some .set0, some (.loc m.length), a1, a2, a3]), m ++ l') := whC_of hw
  rw [ex_seq e1, ex_seq e2, ex_seq e3]
  have hg := gc_newat (m := m) (l := l') (xs := []) rfl
  have er : (ev (k + 3) (run tb (k + 3)) (.srt (.var 1)) [some (enc p), some .set0, some (.loc m.length), a1, a2, a3]).v (m ++ l') = some (.loc (m ++ l').length, m ++ l' ++ [.lst []]) := by
    simp [ev, den, M.bnd, M.ret, newL]
  rw [ex_ret er]
  simp only [fini, hg]
theorem run_closed {p : RP} (h : pc p []) (hd : p.dp ≤ 29) (hk : p.knots ≤ 300) (m : List SO) : run tb (k + 5) "is_closed" [enc p] m = some (.bl true, m) := by
  rw [run_at tb_is_closed (k + 4) rfl]
  have h1 := run_is_piece (k := k) h hd hk m
  have h2 := run_free (k := k) h hd hk m
  have ht := truth_loc (m := m ++ [.lst []]) (n := m.length) (xs := []) (by simp)
  have hg := gc_app (m := m) (l := [.lst []]) (d := .bl true) rfl
  simp [fn_is_closed, ex, dst, ev, den, M.bnd, M.ret, truthM, h1, h2, ht, fini, hg]
theorem run_chkp {p : RP} (h : pc p []) (hd : p.dp ≤ 29) (hk : p.knots ≤ 300) (m : List SO) : run tb (k + 6) "check_piece" [enc p] m = some (.non, m) := by
  rw [run_at tb_check_piece (k + 5) rfl]
  have h1 := run_closed (k := k) h hd hk m
  simp [fn_check_piece, ex, dst, ev, den, M.bnd, M.ret, truthM, h1, fini, gc_same]
theorem run_chkf {f : Int} (h : 0 ≤ f ∧ f ≤ 1000000) (m : List SO) : run tb (k + 2) "check_fuel" [.int f] m = some (.non, m) := by
  rw [run_at tb_check_fuel (k + 1) rfl]
  simp [fn_check_fuel, ex, ev, dst, den, denB, M.bnd, M.ret, M.no, idxD, seqOf, atI, ixN, cmpM, cmpD, cmpI, newT, newL, flatD, inD, eqF, fini, gc_same, gc_app, truthM, truth, Mi.isNon, bltD, methD, itemsD, tgt, setsR, wipeR, slcD, cut, HT.sIx, ptO, binD, Mi.binI, Still, forL, compL, isiD, sizeLine, getL_app0, run_whole_int, h.1, h.2, gc_same]
theorem run_chkb {p : RP} {f : Int} (h : pc p []) (hd : p.dp ≤ 29) (hk : p.knots ≤ 300) (hf : 0 ≤ f ∧ f ≤ 1000000) (m : List SO) : run tb (k + 7) "check_both" [enc p, .int f] m = some (.non, m) := by
  rw [run_at tb_check_both (k + 6) rfl]
  have h1 := run_chkp (k := k) h hd hk m
  have h2 := run_chkf (k := k + 4) hf m
  simp [fn_check_both, ex, dst, ev, den, M.bnd, M.ret, h1, h2, fini, gc_same]
end K13
namespace K13
open PySem PySem.Spec PyProof.Rows L2 Mi
variable {m : List SO} {k : Nat}

/-! ### by the machine -/
theorem run_first {p : RP} {h : HD} (hp : pcs p []) (hh : hold p .nil = some h) (m : List SO) : run tb (k + 3) "first" [enc p] m = some (encS (firstS p h), m) := by
  have := run_hold (k := k) (e := .nil) ⟨[], hp, by simp⟩ (by simp [Mi.wE]) hh m
  simp only [encE] at this
  rw [run_at tb_first (k + 2) rfl]
  simp [fn_first, ex, dst, ev, den, M.bnd, M.ret, this, newT, sizeLine, fini, gc_same, firstS, encS, encN, encBy, lt_encH]
theorem out_num (i : Int) (m : List SO) : run tb (k + 1) "outcome" [.tup [.str "num", .int i]] m = some (.tup [.str "number", .int i], m) := by
  rw [run_at tb_outcome k rfl]
  simp only [fn_outcome]
  rw [ex_mtch rfl, case_hit rfl rfl]
  simp [ex, ev, dst, den, denB, M.bnd, M.ret, M.no, newT, newL, fini, truthM, truth, Mi.isNon, bltD, tgt, setsR, wipeR, ptO, isiD, sizeLine, getL_app0, gc_same]
theorem out_shut (a : Int) (x b : D) (m : List SO) : run tb (k + 1) "outcome" [.tup [.str "shut", .int a, x, b]] m = some (.tup [.str "function", .int a], m) := by
  rw [run_at tb_outcome k rfl]
  simp only [fn_outcome]
  rw [ex_mtch rfl, case_ne rfl, case_hit rfl rfl]
  simp [ex, ev, dst, den, denB, M.bnd, M.ret, M.no, newT, newL, fini, truthM, truth, Mi.isNon, bltD, tgt, setsR, wipeR, ptO, isiD, sizeLine, getL_app0, gc_same]
theorem out_kept (a : Int) (x : D) (m : List SO) : run tb (k + 1) "outcome" [.tup [.str "kept", .int a, x]] m = some (.tup [.str "kept", .int a], m) := by
  rw [run_at tb_outcome k rfl]
  simp only [fn_outcome]
  rw [ex_mtch rfl, case_ne rfl, case_ne rfl, case_hit rfl rfl]
  simp [ex, ev, dst, den, denB, M.bnd, M.ret, M.no, newT, newL, fini, truthM, truth, Mi.isNon, bltD, tgt, setsR, wipeR, ptO, isiD, sizeLine, getL_app0, gc_same]
theorem out_take (a : Int) (x b : D) (m : List SO) : run tb (k + 1) "outcome" [.tup [.str "take", .int a, x, b]] m = some (.tup [.str "stuck", .int a], m) := by
  have := idx_t1 m (.str "take") (.int a) [x, b]
  rw [run_at tb_outcome k rfl]
  simp only [fn_outcome]
  rw [ex_mtch rfl, case_ne rfl, case_ne rfl, case_ne rfl, case_any]
  simp [ex, ev, dst, den, denB, M.bnd, M.ret, M.no, newT, newL, fini, truthM, truth, Mi.isNon, bltD, tgt, setsR, wipeR, ptO, isiD, sizeLine, getL_app0, gc_same, this]
theorem run_toldm {S : MS1} (w : wS S) (hm : move S = .stop) (m : List SO) : run tb (k + 2) "told_machine" [encS S] m = some (tellM S, m) := by
  have hw := move_whole w
  rw [hm] at hw
  have h1 := run_isvm (k := k) w.1 m
  obtain ⟨h, r, b, s⟩ := S
  have hn := isNon_encN r
  rw [run_at tb_told_machine (k + 1) rfl]
  rcases hw with ⟨hv, hr, hb, _⟩ | ⟨a, _, ⟨hv, f, r', hr, ha⟩ | ⟨x, c, e, hh⟩⟩
  · simp only at hv hr hb
    subst hr hb
    rw [hv] at h1
    simp only at h1
    cases h with
    | pc p e => exact absurd hv Bool.false_ne_true
    | num i =>
      simp only [encH] at h1
      simp [fn_told_machine, encS, encH, ex, dst, ev, den, denB, M.bnd, M.ret, tgt, setsR, truthM, h1, cmp_notN, hn, idx_hd, out_num, fini, gc_same, tellM]
    | clo a x c e n =>
      simp only [encH] at h1
      simp [fn_told_machine, encS, encH, ex, dst, ev, den, denB, M.bnd, M.ret, tgt, setsR, truthM, h1, cmp_notN, hn, idx_hd, out_shut, fini, gc_same, tellM]
    | kep a q n =>
      simp only [encH] at h1
      simp [fn_told_machine, encS, encH, ex, dst, ev, den, denB, M.bnd, M.ret, tgt, setsR, truthM, h1, cmp_notN, hn, idx_hd, out_kept, fini, gc_same, tellM]
  · simp only at hv hr
    subst hr
    rw [hv] at h1
    simp only at h1 hn
    have hf : ∀ r, idxD (.tup [Mi.encM f, r]) (.int 0) m = some (Mi.encM f, m) := fun r => idx_hd _ _ _
    have hf2 : idxD (Mi.encM f) (.int 1) m = some (.int a, m) := by
      rw [← ha]
      cases f <;> (rw [Mi.encM]; exact idx_t1 _ _ _ _)
    have ht : tellM ⟨h, .cons f r', b, s⟩ = .tup [.str "stuck", .int a] := by
      rw [← ha]
      cases h <;> first | (exact absurd hv Bool.false_ne_true) | rfl
    rw [ht]
    simp only [encN] at hn
    simp [fn_told_machine, encS, encN, ex, dst, ev, den, denB, M.bnd, M.ret, tgt, setsR, truthM, h1, cmp_notN, hn, hf, hf2, newT, sizeLine, fini, gc_same]
  · simp only at hh
    subst hh
    have h1' : run tb (k + 1) "is_value_machine" [encH (.pc (.take a x c) e)] m = some (.bl false, m) := h1
    simp only [encH, enc] at h1'
    simp [fn_told_machine, encS, encH, enc, ex, dst, ev, den, denB, M.bnd, M.ret, tgt, setsR, truthM, h1', idx_hd, out_take, fini, gc_same, tellM, markP]
def wbody2 : Sm := match fn_by_machine.body with
  | .seq _ (.seq _ (.seq _ (.seq (.whl _ b) _))) => b
  | s => s
theorem bym_body : fn_by_machine.body = .seq (.expr (.call "check_both" (.cons (.var 0) (.cons (.var 1) .nil)))) (.seq (.set 2 (.call "first" (.cons (.var 0) .nil))) (.seq (.set 3 (.call "moved" (.cons (.var 2) .nil))) (.seq (.whl (.cmp .notN (.var 3) (.cst .non)) wbody2) (.ret (.call "told_machine" (.cons (.var 2) .nil)))))) := rfl
theorem isNon_encS (S : MS1) : Mi.isNon (encS S) = false := by simp [encS, Mi.isNon]
theorem idx_encS3 (S : MS1) (m : List SO) : idxD (encS S) (.int 3) m = some (.int S.s, m) := by rw [encS]; exact idx_t3 _ _ _ _ _ _
theorem bym_turn {P A : Option D} {f : Nat} {S S' : MS1} (w : wS S') (hs : ¬ f < S'.s) (m : List SO) : (ex (k + 5) (run tb (k + 5)) wbody2).x [P, some (.int f), A, some (encS S')] m = some ((.nx, [P, some (.int f), some (encS S'), some (encMv (move S'))]), m) := by
  have hm := run_moved (k := k) w m
  have : ¬ ((f : Int) < S'.s) := by omega
  simp only [wbody2, fn_by_machine]
  simp [ex, dst, ev, den, denB, M.bnd, M.ret, idx_encS3, cmpM, cmpD, cmpI, this, hm]
theorem bym_dry {P A : Option D} {f : Nat} {S' : MS1} (hs : f < S'.s) (m : List SO) : (ex (k + 5) (run tb (k + 5)) wbody2).x [P, some (.int f), A, some (encS S')] m = some ((.rt (.tup [.str "dry"]), [P, some (.int f), A, some (encS S')]), m) := by
  have : ((f : Int) < S'.s) := by omega
  simp only [wbody2, fn_by_machine]
  simp [ex, dst, ev, den, denB, M.bnd, M.ret, idx_encS3, cmpM, cmpD, cmpI, this, newT, sizeLine]
theorem bym_cond {P A : Option D} {f : D} (S' : MS1) (m : List SO) : (ev (k + 5) (run tb (k + 5)) (.cmp .notN (.var 3) (.cst .non)) [P, some f, A, some (encS S')]).t m = some (true, m) := by
  simp [ev, den, denB, M.bnd, M.ret, cmp_notN, isNon_encS]
theorem bym_cond0 {P A : Option D} {f : D} (m : List SO) : (ev (k + 5) (run tb (k + 5)) (.cmp .notN (.var 3) (.cst .non)) [P, some f, A, some .non]).t m = some (false, m) := by
  simp [ev, den, denB, M.bnd, M.ret, cmp_notN, Mi.isNon]
theorem bym_loop {P : Option D} {f : Nat} {e : Nat} {S : MS1} {d : D} (h : MEnds e S d) : wS S → S.s + e = f →
    ∃ N, (∃ S', whN (fun r => (ev (k + 5) (run tb (k + 5)) (.cmp .notN (.var 3) (.cst .non)) r).t) (ex (k + 5) (run tb (k + 5)) wbody2).x N [P, some (.int f), some (encS S), some (encMv (move S))] m = some ((.nx, [P, some (.int f), some (encS S'), some .non]), m) ∧ wS S' ∧ move S' = .stop ∧ tellM S' = d) ∨
      (d = .tup [.str "dry"] ∧ ∃ r', whN (fun r => (ev (k + 5) (run tb (k + 5)) (.cmp .notN (.var 3) (.cst .non)) r).t) (ex (k + 5) (run tb (k + 5)) wbody2).x N [P, some (.int f), some (encS S), some (encMv (move S))] m = some ((.rt (.tup [.str "dry"]), r'), m)) := by
  induction h with
  | @stop e S hm =>
    intro w hs
    refine ⟨1, .inl ⟨S, ?_, w, hm, rfl⟩⟩
    rw [hm]
    exact wh_end (bym_cond0 m)
  | @adm e S S' d hm h0 _ ih =>
    intro w hs
    have w' : wS S' := by have := move_whole w; rw [hm] at this; exact this.1
    rw [hm]
    obtain ⟨N, ⟨S2, g1, g2⟩ | ⟨g1, r', g2⟩⟩ := ih w' (by omega)
    · exact ⟨N + 1, .inl ⟨S2, wh_step (bym_cond S' m) (bym_turn (S := S) w' (by omega) m) g1, g2⟩⟩
    · exact ⟨N + 1, .inr ⟨g1, r', wh_step (bym_cond S' m) (bym_turn (S := S) w' (by omega) m) g2⟩⟩
  | @dry S S' hm h0 =>
    intro w hs
    rw [hm]
    exact ⟨1, .inr ⟨rfl, _, wh_rt (bym_cond S' m) (bym_dry (by omega) m)⟩⟩
  | @step e S S' d hm h0 _ ih =>
    intro w hs
    have w' : wS S' := by have := move_whole w; rw [hm] at this; exact this.1
    rw [hm]
    obtain ⟨N, ⟨S2, g1, g2⟩ | ⟨g1, r', g2⟩⟩ := ih w' (by omega)
    · exact ⟨N + 1, .inl ⟨S2, wh_step (bym_cond S' m) (bym_turn (S := S) w' (by omega) m) g1, g2⟩⟩
    · exact ⟨N + 1, .inr ⟨g1, r', wh_step (bym_cond S' m) (bym_turn (S := S) w' (by omega) m) g2⟩⟩
theorem lt_tellM (n : Nat) (S : MS1) : ltD n (tellM S) = true := by
  obtain ⟨h, r, b, s⟩ := S
  cases h <;> cases r <;> simp [tellM]
theorem run_bym {p : RP} {f : Nat} (hp : pc p []) (hd : p.dp ≤ 29) (hkn : p.knots ≤ 300) (hf : f ≤ 1000000) (m : List SO) :
    run tb (k + 8) "by_machine" [enc p, .int f] m = some (tellR (lastS f p), m) := by
  have hps : pcs p [] := ⟨hp, by simp⟩
  obtain ⟨h, h1, h2, h3⟩ := first_ok hps
  have hck := run_chkb (k := k) hp hd hkn (f := f) (by omega) m
  have hfi := run_first (k := k + 4) hps h1 m
  have hmv := run_moved (k := k + 2) h2 m
  have he := m_ends f h2
  rw [h3] at he
  rw [run_at tb_by_machine (k + 7) rfl, bym_body]
  have e1 : (ex (k + 7) (run tb (k + 7)) (.expr (.call "check_both" (.cons (.var 0) (.cons (.var 1) .nil))))).x [some (enc p), some (.int f), none, none] m = some ((.nx, [some (enc p), some (.int f), none, none]), m) := by
    simp [ex, dst, ev, den, M.bnd, M.ret, hck]
  have e2 : (ex (k + 7) (run tb (k + 7)) (.set 2 (.call "first" (.cons (.var 0) .nil)))).x [some (enc p), some (.int f), none, none] m = some ((.nx, [some (enc p), some (.int f), some (encS (firstS p h)), none]), m) := by
    simp [ex, dst, ev, den, M.bnd, M.ret, hfi]
  have e3 : (ex (k + 7) (run tb (k + 7)) (.set 3 (.call "moved" (.cons (.var 2) .nil)))).x [some (enc p), some (.int f), some (encS (firstS p h)), none] m = some ((.nx, [some (enc p), some (.int f), some (encS (firstS p h)), some (encMv (move (firstS p h)))]), m) := by
    simp [ex, dst, ev, den, M.bnd, M.ret, hmv]
  show fini m ((ex (k + 7) (run tb (k + 7)) _).x [some (enc p), some (.int f), none, none] m) = _
  rw [ex_seq e1, ex_seq e2, ex_seq e3]
  obtain ⟨N, ⟨S', g1, g2, g3, g4⟩ | ⟨g1, r', g2⟩⟩ := bym_loop (k := k + 2) (m := m) (P := some (enc p)) (f := f) he h2 (by simp [firstS])
  · have ht := run_toldm (k := k + 5) g2 g3 m
    rw [ex_seq (ex_whl g1)]
    rw [g4] at ht
    have hlt : ltD m.length (tellR (lastS f p)) = true := by rw [← g4]; exact lt_tellM _ _
    simp [ex, dst, ev, den, M.bnd, M.ret, ht, fini, gc_same hlt]
  · rw [ex_seq_rt (ex_whl g2), g1]
    simp [fini, gc_same]
end K13
namespace K13
open PySem PySem.Spec PyProof.Rows L2 Mi
variable {m : List SO} {k : Nat}

/-! ### the plain term of a piece -/
theorem run_behr (K G : Si) {l : Nat} (hl : l < 1000000) (m : List SO) : run tb (k + 1) "behind_round" [encSi K, encSi G, .int l] m = some (encSi (.last (nmL 'r' l) (.pass K (nm 'r' l) G)), m) := by
  rw [run_at tb_behind_round k rfl]
  simp only [fn_behind_round]
  rw [ex_seq (ex_set (ev_fs (c := 'r') rfl rfl hl))]
  simp [ex, dst, ev, den, M.bnd, M.ret, newT, sizeLine, fini, encSi, encT, nm, gc_same, lt_encSi]
theorem run_kept_of (a : Int) (K : Si) {l : Nat} (hl : l < 1000000) (m : List SO) : run tb (k + 2) "kept_of" [.int a, encSi K, .int l] m = some (encSi (.code false a (nmL 'v' l) (nmL 'k' l) (nmL 'g' l) (.pass K (nm 'v' l) (.last (nmL 'r' l) (.pass (nm 'k' l) (nm 'r' l) (nm 'g' l))))), m) := by
  have h := run_behr (k := k) (nm 'k' l) (nm 'g' l) hl m
  rw [run_at tb_kept_of (k + 1) rfl]
  simp only [fn_kept_of]
  rw [ex_seq (ex_set (ev_fs (c := 'v') rfl rfl hl)), ex_seq (ex_set (ev_fs (c := 'k') rfl rfl hl)), ex_seq (ex_set (ev_fs (c := 'g') rfl rfl hl))]
  simp only [encSi, encT, nm] at h
  simp [ex, dst, ev, den, M.bnd, M.ret, newT, sizeLine, fini, encSi, encT, nm, gc_same, lt_encSi, h, wdC]
def Term (p : RP) (k : Nat) : Prop := ∀ (l : Nat) (K G : Si) (m : List SO), l + p.dp < 1000000 → run tb k "term_of" [enc p, encSi K, encSi G, .int l] m = some (encT (tmOf p K G l), m)
theorem lev1 (l : Nat) : (l : Int) + 1 = ((l + 1 : Nat) : Int) := by omega
theorem run_fun_of {b : RP} (ih : Term b k) (a : Int) (x : Str) {l : Nat} (hl : l + b.dp + 1 < 1000000) (m : List SO) : run tb (k + 1) "function_of" [.int a, .str x, enc b, .int l] m = some (encSi (.code true a x (nmL 'k' l) (nmL 'g' l) (tmOf b (nm 'k' l) (nm 'g' l) (l + 1))), m) := by
  have h := ih (l + 1) (nm 'k' l) (nm 'g' l) m (by omega)
  rw [run_at tb_function_of k rfl]
  simp only [fn_function_of]
  rw [ex_seq (ex_set (ev_fs (c := 'k') rfl rfl (by omega))), ex_seq (ex_set (ev_fs (c := 'g') rfl rfl (by omega)))]
  simp only [encSi, nm] at h
  simp [ex, dst, ev, den, M.bnd, M.ret, newT, sizeLine, fini, encSi, nm, gc_same, lt_encSi, lt_encT, lev1, h, wdC, -Int.natCast_add]
theorem run_in_turn {f g : RP} (ihf : Term f k) (ihg : Term g k) (c : Bool) (a : Int) (K G : Si) {l : Nat} (hl : l + (max f.dp g.dp) + 1 < 1000000) (m : List SO) :
    run tb (k + 1) "in_turn" [.tup [.str (Str.ofString (wdB c)), .int a, enc f, enc g], encSi K, encSi G, .int l] m = some (encT (.let_ (nmL 'k' l) (.thn (nmL 'a' l) (nmL 'g' l) (.let_ (nmL 'l' l) (.thn (nmL 'b' l) (nmL 'h' l) (.both c a (nm 'a' l) (nm 'b' l) K (nm 'h' l))) (tmOf g (nm 'l' l) (nm 'g' l) (l + 1)))) (tmOf f (nm 'k' l) G (l + 1))), m) := by
  have h1 := ihg (l + 1) (nm 'l' l) (nm 'g' l) m (by omega)
  have h2 := ihf (l + 1) (nm 'k' l) G m (by omega)
  rw [run_at tb_in_turn k rfl]
  simp only [fn_in_turn]
  rw [ex_seq (ex_unp (ev_var rfl) rfl), ex_seq (ex_set (ev_fs (c := 'a') rfl rfl (by omega))), ex_seq (ex_set (ev_fs (c := 'b') rfl rfl (by omega))), ex_seq (ex_set (ev_fs (c := 'k') rfl rfl (by omega))), ex_seq (ex_set (ev_fs (c := 'l') rfl rfl (by omega))),
    ex_seq (ex_set (ev_fs (c := 'g') rfl rfl (by omega))), ex_seq (ex_set (ev_fs (c := 'h') rfl rfl (by omega)))]
  simp only [encSi, nm] at h1 h2
  simp [ex, dst, ev, den, M.bnd, M.ret, newT, sizeLine, fini, encSi, encT, nm, gc_same, lt_encSi, lt_encT, lev1, h1, h2, -Int.natCast_add]
theorem run_picking {c f g : RP} (ihc : Term c k) (ihf : Term f k) (ihg : Term g k) (a : Int) (K G : Si) {l : Nat} (hl : l + (max c.dp (max f.dp g.dp)) + 1 < 1000000) (m : List SO) :
    run tb (k + 1) "picking" [.tup [.str "pick", .int a, enc c, enc f, enc g], encSi K, encSi G, .int l] m = some (encT (.let_ (nmL 'k' l) (.thn (nmL 'c' l) (nmL 'g' l) (.pick a (nm 'c' l) (tmOf f K (nm 'g' l) (l + 1)) (tmOf g K (nm 'g' l) (l + 1)))) (tmOf c (nm 'k' l) G (l + 1))), m) := by
  have h0 := ihc (l + 1) (nm 'k' l) G m (by omega)
  have h1 := ihf (l + 1) K (nm 'g' l) m (by omega)
  have h2 := ihg (l + 1) K (nm 'g' l) m (by omega)
  rw [run_at tb_picking k rfl]
  simp only [fn_picking]
  rw [ex_seq (ex_unp (ev_var rfl) rfl), ex_seq (ex_set (ev_fs (c := 'c') rfl rfl (by omega))), ex_seq (ex_set (ev_fs (c := 'k') rfl rfl (by omega))), ex_seq (ex_set (ev_fs (c := 'g') rfl rfl (by omega)))]
  simp only [encSi, nm] at h0 h1 h2
  simp [ex, dst, ev, den, M.bnd, M.ret, newT, sizeLine, fini, encSi, encT, nm, gc_same, lt_encSi, lt_encT, lev1, h0, h1, h2, -Int.natCast_add]
theorem enc_leaver : encSi leaverS = .tup [.str "then", .str "v0", .str "g0", .tup [.str "leave", .tup [.str "name", .str "g0"], .tup [.str "name", .str "v0"]]] := by
  simp [leaverS, encSi, encT]
theorem run_term : ∀ (n : Nat) (p : RP) (sc : List Str) (k : Nat), p.dp ≤ n → 2 * n + 3 ≤ k → pc p sc → Term p k
  | n, p, sc, k, hn, hk, hp => by
    intro l K G m hl
    obtain ⟨k, rfl⟩ : ∃ k', k = k' + 3 := ⟨k - 3, by omega⟩
    rw [run_at tb_term_of (k + 2) rfl]
    have e0 : ([enc p, encSi K, encSi G, .int l].map some ++ List.replicate (fn_term_of.N.length - [enc p, encSi K, encSi G, .int l].length) none) = [some (enc p), some (encSi K), some (encSi G), some (.int l), none, none, none, none, none] := rfl
    rw [e0]
    simp only [fn_term_of]
    rw [ex_mtch rfl]
    cases p with
    | shut _ _ _ => simp only [pc] at hp
    | kept _ _ => simp only [pc] at hp
    | num i =>
      simp only [enc]
      rw [case_ne rfl, case_altN rfl, case_ne rfl, case_ne rfl, case_ne rfl, case_any]
      simp [ex, dst, ev, den, M.bnd, M.ret, newT, sizeLine, fini, tmOf, encT, encSi, gc_same, lt_encSi]
    | name x =>
      simp only [enc]
      rw [case_ne rfl, case_altN rfl, case_ne rfl, case_ne rfl, case_ne rfl, case_any]
      simp [ex, dst, ev, den, M.bnd, M.ret, newT, sizeLine, fini, tmOf, encT, encSi, gc_same, lt_encSi]
    | fun_ a x b =>
      simp only [RP.dp] at hn hl
      simp only [pc] at hp
      cases n with
      | zero => omega
      | succ n =>
        have h := run_fun_of (run_term n b _ (k + 1) (by omega) (by omega) hp.2.2) a x (by omega) m
        simp only [enc]
        rw [case_hit rfl rfl]
        simp [ex, dst, ev, den, M.bnd, M.ret, newT, sizeLine, fini, tmOf, encT, gc_same, lt_encSi, h]
    | call a f g =>
      simp only [RP.dp] at hn hl
      simp only [pc] at hp
      cases n with
      | zero => omega
      | succ n =>
        have h := run_in_turn (run_term n f _ (k + 1) (by omega) (by omega) hp.2.1) (run_term n g _ (k + 1) (by omega) (by omega) hp.2.2) true a K G (by omega) m
        simp only [wdB, if_true] at h
        simp only [enc]
        rw [case_ne rfl, case_alt rfl rfl rfl]
        simp [ex, dst, ev, den, M.bnd, M.ret, newT, sizeLine, fini, tmOf, gc_same, lt_encT, h]
    | plus a f g =>
      simp only [RP.dp] at hn hl
      simp only [pc] at hp
      cases n with
      | zero => omega
      | succ n =>
        have h := run_in_turn (run_term n f _ (k + 1) (by omega) (by omega) hp.2.1) (run_term n g _ (k + 1) (by omega) (by omega) hp.2.2) false a K G (by omega) m
        simp only [wdB, Bool.false_eq_true, if_false] at h
        simp only [enc]
        rw [case_ne rfl, case_alt rfl rfl rfl]
        simp [ex, dst, ev, den, M.bnd, M.ret, newT, sizeLine, fini, tmOf, gc_same, lt_encT, h]
    | pick a c f g =>
      simp only [RP.dp] at hn hl
      simp only [pc] at hp
      cases n with
      | zero => omega
      | succ n =>
        have h := run_picking (run_term n c _ (k + 1) (by omega) (by omega) hp.2.1) (run_term n f _ (k + 1) (by omega) (by omega) hp.2.2.1) (run_term n g _ (k + 1) (by omega) (by omega) hp.2.2.2) a K G (by omega) m
        simp only [enc]
        rw [case_ne rfl, case_altN rfl, case_hit rfl rfl]
        simp [ex, dst, ev, den, M.bnd, M.ret, newT, sizeLine, fini, tmOf, gc_same, lt_encT, h]
    | round b =>
      simp only [RP.dp] at hn hl
      simp only [pc] at hp
      cases n with
      | zero => omega
      | succ n =>
        have h1 := run_behr (k := k + 1) K G (l := l) (by omega) m
        have h2 := run_term n b _ (k + 2) (by omega) (by omega) hp (l + 1) leaverS (nm 'g' l) m (by omega)
        rw [enc_leaver] at h2
        simp only [nm, encSi] at h2
        simp only [enc]
        rw [case_ne rfl, case_altN rfl, case_ne rfl, case_hit rfl rfl, ex_seq (ex_set (ev_fs (c := 'g') rfl rfl (by omega)))]
        simp [ex, dst, ev, den, M.bnd, M.ret, newT, sizeLine, fini, tmOf, encT, nm, gc_same, lt_encT, lt_encSi, lev1, h1, h2, -Int.natCast_add]
    | take a x b =>
      simp only [RP.dp] at hn hl
      simp only [pc] at hp
      cases n with
      | zero => omega
      | succ n =>
        have h1 := run_kept_of (k := k) a K (l := l) (by omega) m
        have h2 := run_term n b _ (k + 2) (by omega) (by omega) hp.2.2 (l + 1) leaverS G m (by omega)
        rw [enc_leaver] at h2
        simp only [enc]
        rw [case_ne rfl, case_altN rfl, case_ne rfl, case_ne rfl, case_hit rfl rfl]
        simp [ex, dst, ev, den, M.bnd, M.ret, newT, sizeLine, fini, tmOf, encT, gc_same, lt_encT, lt_encSi, lev1, h1, h2, -Int.natCast_add]
theorem run_plain_ {p : RP} (hp : pc p []) (hd : p.dp ≤ 29) (hkn : p.knots ≤ 300) (hk : 61 ≤ k) (m : List SO) : run tb (k + 1) "plain" [enc p] m = some (encT (tmOf p .halt .fin 1), m) := by
  obtain ⟨k, rfl⟩ : ∃ k', k = k' + 6 := ⟨k - 6, by omega⟩
  have hck := run_chkp (k := k) hp hd hkn m
  have h := run_term 29 p [] (k + 6) hd (by omega) hp 1 .halt .fin m (by omega)
  simp only [encSi] at h
  rw [run_at tb_plain (k + 6) rfl]
  have h' : run tb (k + 6) "term_of" [enc p, .tup [.str "halt"], .tup [.str "end"], .int 1] m = some (encT (tmOf p .halt .fin 1), m) := h
  simp [fn_plain, ex, dst, ev, den, M.bnd, M.ret, hck, h', fini, gc_same, lt_encT]
end K13
namespace Mi
open PySem PySem.Spec PyProof.Rows L2

/-! ### the texts in terms are texts -/
mutual
def Si.ok : Si → Bool
  | .name w => PyData.strOk w
  | .code _ _ w k g t => PyData.strOk w && PyData.strOk k && PyData.strOk g && t.ok
  | .thn w g t => PyData.strOk w && PyData.strOk g && t.ok
  | .last w t => PyData.strOk w && t.ok
  | _ => true
def Tm.ok : Tm → Bool
  | .pass k p g => k.ok && p.ok && g.ok
  | .leave g p => g.ok && p.ok
  | .shut p k g => p.ok && k.ok && g.ok
  | .both _ _ p q k g => p.ok && q.ok && k.ok && g.ok
  | .pick _ p t u => p.ok && t.ok && u.ok
  | .ask _ g t => g.ok && t.ok
  | .let_ w p t => PyData.strOk w && p.ok && t.ok
end
mutual
def PV.ok : PV → Bool
  | .mk f ns => f.ok && ns.ok
def PN.ok : PN → Bool
  | .nil => true
  | .cons w v ns => PyData.strOk w && v.ok && ns.ok
end
theorem get_okP : ∀ {ns : PN} {y : Str} {v : PV}, ns.ok = true → ns.get y = some v → v.ok = true
  | .nil, y, v, _, h => by simp [PN.get] at h
  | .cons w u ns, y, v, ho, h => by
    simp only [PN.ok, Bool.and_eq_true] at ho
    simp only [PN.get] at h
    split at h
    · cases h; exact ho.1.2
    · exact get_okP ho.2 h
theorem meant_ok {s : Si} {ns : PN} {v : PV} (hs : s.ok = true) (hn : ns.ok = true) (h : meant s ns = some v) : v.ok = true := by
  cases s <;> simp only [meant] at h
  case name => exact get_okP hn h
  all_goals (simp only [Option.some.injEq] at h; subst h; simp [PV.ok, PN.ok, Si.ok] at hs ⊢) <;> simp_all
theorem given_ok {k p g : PV} (hk : k.ok = true) (hp : p.ok = true) (hg : g.ok = true) {t : Tm} {ns : PN} (h : givenF k p g = .to t ns) : t.ok = true ∧ ns.ok = true := by
  simp only [givenF, Fo.to.injEq] at h
  obtain ⟨rfl, rfl⟩ := h
  simp [givingT, Tm.ok, Si.ok, PN.ok, hk, hp, hg]
theorem fol_ok {t t' : Tm} {ns ns' : PN} (ht : t.ok = true) (hn : ns.ok = true) (h : fol t ns = .to t' ns') : t'.ok = true ∧ ns'.ok = true := by
  cases t with
  | let_ w p t =>
    simp only [Tm.ok, Bool.and_eq_true] at ht
    simp only [fol] at h
    split at h
    · rename_i v hv
      have := meant_ok ht.1.2 hn hv
      simp only [Fo.to.injEq] at h
      obtain ⟨rfl, rfl⟩ := h
      simp [PN.ok, ht, hn, this]
    · cases h
  | pass k p g =>
    simp only [Tm.ok, Bool.and_eq_true] at ht
    simp only [fol] at h
    split at h
    · rename_i K P G h1 h2 h3
      have o1 := meant_ok ht.1.1 hn h1
      have o2 := meant_ok ht.1.2 hn h2
      have o3 := meant_ok ht.2 hn h3
      unfold passedF at h
      split at h
      · cases h
      · simp only [Fo.to.injEq] at h
        obtain ⟨rfl, rfl⟩ := h
        simp [PV.ok, Si.ok] at o1
        simp [PN.ok, o1, o2, o3]
      · cases h
    · cases h
  | leave g p =>
    simp only [Tm.ok, Bool.and_eq_true] at ht
    simp only [fol] at h
    split at h
    · rename_i G P h1 h2
      have o1 := meant_ok ht.1 hn h1
      have o2 := meant_ok ht.2 hn h2
      unfold leftF at h
      split at h
      · simp only [Fo.to.injEq] at h
        obtain ⟨rfl, rfl⟩ := h
        simp [PV.ok, Si.ok] at o1
        simp [PN.ok, o1, o2]
      · cases h
    · cases h
  | shut p k g =>
    simp only [Tm.ok, Bool.and_eq_true] at ht
    simp only [fol] at h
    split at h
    · rename_i K P G h1 h2 h3
      exact given_ok (meant_ok ht.1.2 hn h1) (meant_ok ht.1.1 hn h2) (meant_ok ht.2 hn h3) h
    · cases h
  | both c a p q k g =>
    simp only [Tm.ok, Bool.and_eq_true] at ht
    simp only [fol] at h
    split at h
    · rename_i P Q K G h1 h2 h3 h4
      have o1 := meant_ok ht.1.1.1 hn h1
      have o2 := meant_ok ht.1.1.2 hn h2
      have o3 := meant_ok ht.1.2 hn h3
      have o4 := meant_ok ht.2 hn h4
      cases c with
      | true =>
        simp only [bothF] at h
        split at h
        · simp only [Fo.to.injEq] at h
          obtain ⟨rfl, rfl⟩ := h
          simp [PV.ok, Si.ok] at o1
          simp [PN.ok, o1, o2, o3, o4]
        · cases h
      | false =>
        simp only [bothF] at h
        split at h
        · exact given_ok o3 (by simp [PV.ok, Si.ok, PN.ok]) o4 h
        · cases h
    · cases h
  | pick a p t u =>
    simp only [Tm.ok, Bool.and_eq_true] at ht
    simp only [fol] at h
    split at h
    · unfold pickF at h
      split at h
      · simp only [Fo.to.injEq] at h
        obtain ⟨rfl, rfl⟩ := h
        refine ⟨?_, hn⟩
        split
        · exact ht.1.2
        · exact ht.2
      · cases h
    · cases h
  | ask a g t =>
    simp only [Tm.ok, Bool.and_eq_true] at ht
    simp only [fol] at h
    split at h
    · unfold askF at h
      split at h
      · cases h
      · simp only [Fo.to.injEq] at h
        obtain ⟨rfl, rfl⟩ := h
        exact ⟨ht.2, hn⟩
    · cases h
theorem PEnds.nb {e : Nat} {t : Tm} {ns : PN} {d : D} (h : PEnds e t ns d) : fol t ns ≠ .bad := by
  cases h with
  | stop h _ => rw [h]; nofun
  | adm _ h _ => rw [h]; nofun
  | dry _ h => rw [h]; nofun
  | step _ h _ => rw [h]; nofun
theorem sok_iff {x : Str} : PyData.strOk x = true ↔ ∀ c ∈ x.cps.toList, c < 0x110000 := by
  unfold PyData.strOk
  rw [Array.all_eq_true]
  constructor
  · intro h c hc
    obtain ⟨i, hi, rfl⟩ := List.getElem_of_mem hc
    have := h i (by simpa using hi)
    simpa using this
  · intro h i hi
    have := h x.cps[i] (Array.getElem_mem_toList hi)
    simpa using this
theorem nmL_ok (c : Char) (l : Nat) : PyData.strOk (nmL c l) = true := by
  rw [sok_iff]
  intro x hx
  unfold nmL at hx
  rw [app_cps] at hx
  rcases List.mem_append.mp hx with hx | hx
  · exact sok_iff.mp (sok_of _) x hx
  · exact sok_iff.mp (sok_of _) x hx
theorem leaver_ok : leaverS.ok = true := by simp [leaverS, Si.ok, Tm.ok]
theorem tmOf_ok : ∀ {p : RP} {sc : List Str} {K G : Si} {l : Nat}, pcs p sc → K.ok = true → G.ok = true → (tmOf p K G l).ok = true
  | .num i, sc, K, G, l, _, hk, hg => by simp [tmOf, Tm.ok, Si.ok, hk, hg]
  | .name x, sc, K, G, l, hp, hk, hg => by
    have : x ∈ sc := by simpa [pc] using hp.1
    simp [tmOf, Tm.ok, Si.ok, hk, hg, (hp.2 x this).sok]
  | .fun_ a x b, sc, K, G, l, hp, hk, hg => by
    have hx : Nm x := by have := hp.1; simp only [pc] at this; exact this.2.1
    have hb := tmOf_ok (p := b) (K := nm 'k' l) (G := nm 'g' l) (l := l + 1) (pcs_kids hp (by simp [kids])) (by simp [nm, Si.ok, nmL_ok]) (by simp [nm, Si.ok, nmL_ok])
    simp [tmOf, Tm.ok, Si.ok, hk, hg, hx.sok, nmL_ok, hb]
  | .take a x b, sc, K, G, l, hp, hk, hg => by
    have hx : Nm x := by have := hp.1; simp only [pc] at this; exact this.2.1
    have hb := tmOf_ok (p := b) (K := leaverS) (G := G) (l := l + 1) (pcs_kids hp (by simp [kids])) leaver_ok hg
    simp [tmOf, Tm.ok, Si.ok, nm, hk, hg, hx.sok, nmL_ok, hb]
  | .round b, sc, K, G, l, hp, hk, hg => by
    have hb := tmOf_ok (p := b) (K := leaverS) (G := nm 'g' l) (l := l + 1) (pcs_kids hp (by simp [kids])) leaver_ok (by simp [nm, Si.ok, nmL_ok])
    simp [tmOf, Tm.ok, Si.ok, nm, hk, hg, nmL_ok] at hb ⊢
    exact hb
  | .call a f c, sc, K, G, l, hp, hk, hg => by
    have h1 := tmOf_ok (p := f) (K := nm 'k' l) (G := G) (l := l + 1) (pcs_kids hp (by simp [kids])) (by simp [nm, Si.ok, nmL_ok]) hg
    have h2 := tmOf_ok (p := c) (K := nm 'l' l) (G := nm 'g' l) (l := l + 1) (pcs_kids hp (by simp [kids])) (by simp [nm, Si.ok, nmL_ok]) (by simp [nm, Si.ok, nmL_ok])
    simp [tmOf, Tm.ok, Si.ok, nm, hk, hg, nmL_ok] at h1 h2 ⊢
    exact ⟨h2, h1⟩
  | .plus a f c, sc, K, G, l, hp, hk, hg => by
    have h1 := tmOf_ok (p := f) (K := nm 'k' l) (G := G) (l := l + 1) (pcs_kids hp (by simp [kids])) (by simp [nm, Si.ok, nmL_ok]) hg
    have h2 := tmOf_ok (p := c) (K := nm 'l' l) (G := nm 'g' l) (l := l + 1) (pcs_kids hp (by simp [kids])) (by simp [nm, Si.ok, nmL_ok]) (by simp [nm, Si.ok, nmL_ok])
    simp [tmOf, Tm.ok, Si.ok, nm, hk, hg, nmL_ok] at h1 h2 ⊢
    exact ⟨h2, h1⟩
  | .pick a c x y, sc, K, G, l, hp, hk, hg => by
    have h0 := tmOf_ok (p := c) (K := nm 'k' l) (G := G) (l := l + 1) (pcs_kids hp (by simp [kids])) (by simp [nm, Si.ok, nmL_ok]) hg
    have h1 := tmOf_ok (p := x) (K := K) (G := nm 'g' l) (l := l + 1) (pcs_kids hp (by simp [kids])) hk (by simp [nm, Si.ok, nmL_ok])
    have h2 := tmOf_ok (p := y) (K := K) (G := nm 'g' l) (l := l + 1) (pcs_kids hp (by simp [kids])) hk (by simp [nm, Si.ok, nmL_ok])
    simp [tmOf, Tm.ok, Si.ok, nm, hk, hg, nmL_ok] at h0 h1 h2 ⊢
    exact ⟨⟨h1, h2⟩, h0⟩
  | .shut _ _ _, sc, K, G, l, hp, hk, hg => absurd hp.1 (by simp [pc])
  | .kept _ _, sc, K, G, l, hp, hk, hg => absurd hp.1 (by simp [pc])
/-! ### words at the front -/
def wordSi : Si → String
  | .num _ => "num" | .name _ => "name" | .code _ _ _ _ _ _ => "code" | .thn _ _ _ => "then" | .last _ _ => "last" | .halt => "halt" | .fin => "end"
def wordT : Tm → String
  | .pass _ _ _ => "pass" | .leave _ _ => "leave" | .shut _ _ _ => "shut" | .both c _ _ _ _ _ => wdB c | .pick _ _ _ _ => "pick" | .ask _ _ _ => "ask" | .let_ _ _ _ => "let"
theorem idx_si (s : Si) (m : List SO) : idxD (encSi s) (.int 0) m = some (.str (Str.ofString (wordSi s)), m) := by
  cases s <;> (simp only [encSi]; exact idx_hd _ _ _)
theorem idx_tm (s : Tm) (m : List SO) : idxD (encT s) (.int 0) m = some (.str (Str.ofString (wordT s)), m) := by
  cases s <;> (simp only [encT]; exact idx_hd _ _ _)
theorem idx_pv (v : PV) (m : List SO) : ∃ f ns, v = .mk f ns ∧ idxD (encPV v) (.int 0) m = some (encSi f, m) := by
  obtain ⟨f, ns⟩ := v
  exact ⟨f, ns, rfl, by rw [encPV]; exact idx_hd _ _ _⟩
end Mi
namespace K13
open PySem PySem.Spec PyProof.Rows L2 Mi
variable {m : List SO} {k : Nat}

/-! ### running a plain term -/
def encFo : Fo → D
  | .to t ns => .tup [encT t, encPN ns]
  | _ => .non
theorem lt_encFo (n : Nat) (x : Fo) : ltD n (encFo x) = true := by cases x <;> simp [encFo, lt_encT, lt_encPN]
theorem meanP_loop {y : Str} (hy : PyData.strOk y = true) : ∀ {e : PN} {h : PV}, e.ok = true → e.get y = some h → ∃ N x r, whN (fun r => (ev k (run tb k) mcond r).t) (ex k (run tb k) mbody).x N [some (.str y), some (encPN e)] m = some ((.nx, [some (.str y), some (.tup [x, encPV h, r])]), m)
  | .nil, h, _, hg => by simp [PN.get] at hg
  | .cons x g e, h, w, hg => by
    simp only [PN.ok, Bool.and_eq_true] at w
    simp only [PN.get] at hg
    have hc := mean_cond (k := k) x y (encPV g) (encPN e) w.1.1 hy m
    by_cases hx : (x == y) = true
    · rw [if_pos hx] at hg
      cases hg
      exact ⟨1, .str x, encPN e, by rw [encPN]; exact wh_end (by rw [hc, hx]; rfl)⟩
    · rw [if_neg hx] at hg
      have hx' : (x == y) = false := by simpa using hx
      obtain ⟨N, x', r, ih⟩ := meanP_loop hy w.2 hg
      exact ⟨N + 1, x', r, by rw [encPN]; exact wh_step (by rw [hc, hx']; rfl) (mean_body1 x y _ _ m) ih⟩
theorem run_meaningP {y : Str} (hy : PyData.strOk y = true) {e : PN} {h : PV} (w : e.ok = true) (hg : e.get y = some h) (m : List SO) : run tb (k + 1) "meaning" [.str y, encPN e] m = some (encPV h, m) := by
  obtain ⟨N, x, r, hl⟩ := meanP_loop (k := k) (m := m) hy w hg
  rw [run_at tb_meaning k rfl, mean_body]
  show fini m ((ex k (run tb k) _).x [some (.str y), some (encPN e)] m) = _
  rw [ex_seq (ex_whl hl)]
  simp [ex, dst, ev, den, M.bnd, M.ret, idx_t1, fini, gc_same, lt_encPV]
theorem bare_in (s : Si) (m : List SO) : cmpM k .in_ (.str (Str.ofString (wordSi s))) (.tup [.str "num", .str "halt", .str "end"]) m = some (("num" == wordSi s || ("halt" == wordSi s || "end" == wordSi s)), m) := by
  simp [cmpM, cmpD, seqOf, flatD, inD, eqF]
theorem run_meant {s : Si} {ns : PN} {v : PV} (hs : s.ok = true) (hn : ns.ok = true) (h : meant s ns = some v) (m : List SO) : run tb (k + 2) "meant" [encSi s, encPN ns] m = some (encPV v, m) := by
  rw [run_at tb_meant (k + 1) rfl]
  cases s with
  | name w =>
    have := run_meaningP (k := k) (by simpa [Si.ok] using hs) hn (by simpa [meant] using h) m
    simp [fn_meant, encSi, ex, dst, ev, den, denB, M.bnd, M.ret, idx_hd, idx_t1, cmp_eqs, this, fini, gc_same, lt_encPV]
  | num i =>
    cases h
    have hb := bare_in (k := k + 1) (.num i) m
    simp [wordSi] at hb
    simp [fn_meant, encSi, encPV, encPN, ex, dst, ev, den, denB, M.bnd, M.ret, idx_hd, cmp_eqs, hb, newT, sizeLine, fini, gc_same]
  | halt =>
    cases h
    have hb := bare_in (k := k + 1) .halt m
    simp [wordSi] at hb
    simp [fn_meant, encSi, encPV, encPN, ex, dst, ev, den, denB, M.bnd, M.ret, idx_hd, cmp_eqs, hb, newT, sizeLine, fini, gc_same]
  | fin =>
    cases h
    have hb := bare_in (k := k + 1) .fin m
    simp [wordSi] at hb
    simp [fn_meant, encSi, encPV, encPN, ex, dst, ev, den, denB, M.bnd, M.ret, idx_hd, cmp_eqs, hb, newT, sizeLine, fini, gc_same]
  | code fn a w kk g t =>
    cases h
    have hb := bare_in (k := k + 1) (.code fn a w kk g t) m
    simp [wordSi] at hb
    simp [fn_meant, encSi, encPV, ex, dst, ev, den, denB, M.bnd, M.ret, idx_hd, cmp_eqs, hb, newT, sizeLine, fini, gc_same, lt_encT, lt_encPN]
  | thn w g t =>
    cases h
    have hb := bare_in (k := k + 1) (.thn w g t) m
    simp [wordSi] at hb
    simp [fn_meant, encSi, encPV, ex, dst, ev, den, denB, M.bnd, M.ret, idx_hd, cmp_eqs, hb, newT, sizeLine, fini, gc_same, lt_encT, lt_encPN]
  | last w t =>
    cases h
    have hb := bare_in (k := k + 1) (.last w t) m
    simp [wordSi] at hb
    simp [fn_meant, encSi, encPV, ex, dst, ev, den, denB, M.bnd, M.ret, idx_hd, cmp_eqs, hb, newT, sizeLine, fini, gc_same, lt_encT, lt_encPN]
def isNumP : PV → Bool
  | .mk (.num _) _ => true
  | _ => false
theorem run_isnp (v : PV) (m : List SO) : run tb (k + 1) "is_number_running" [encPV v] m = some (.bl (isNumP v), m) := by
  obtain ⟨f, ns, rfl, h⟩ := idx_pv v m
  rw [run_at tb_is_number_running k rfl]
  have e : isNumP (.mk f ns) = (wordSi f == "num") := by cases f <;> rfl
  rw [e]
  simp [fn_is_number_running, ex, dst, ev, den, denB, M.bnd, M.ret, h, idx_si, cmp_eqs, fini, gc_same]
theorem enc_giving : encT givingT = .tup [.str "pass", .tup [.str "name", .str "k"], .tup [.str "name", .str "p"], .tup [.str "name", .str "g"]] := by
  simp [givingT, encT, encSi]
theorem run_given (K P G : PV) (m : List SO) : run tb (k + 1) "given" [encPV K, encPV P, encPV G] m = some (encFo (givenF K P G), m) := by
  rw [run_at tb_given k rfl]
  simp [fn_given, givenF, encFo, enc_giving, encPN, ex, dst, ev, den, denB, M.bnd, M.ret, newT, sizeLine, fini, gc_same, lt_encPV]
theorem run_passed {K P G : PV} (h : passedF K P G ≠ .bad) (m : List SO) : run tb (k + 1) "passed" [encPV K, encPV P, encPV G] m = some (encFo (passedF K P G), m) := by
  rw [run_at tb_passed k rfl]
  obtain ⟨f, ns⟩ := K
  cases f with
  | halt => simp [fn_passed, passedF, encFo, encPV, encSi, ex, dst, ev, den, denB, M.bnd, M.ret, tgt, setsR, idx_hd, cmp_eqs, fini, gc_same]
  | thn w x t => simp [fn_passed, passedF, encFo, encPV, encPN, encSi, ex, dst, ev, den, denB, M.bnd, M.ret, tgt, setsR, idx_hd, cmp_eqs, newT, sizeLine, fini, gc_same, lt_encPV, lt_encPN, lt_encT]
  | _ => exact absurd rfl h
theorem run_left {G P : PV} (h : leftF G P ≠ .bad) (m : List SO) : run tb (k + 1) "left" [encPV G, encPV P] m = some (encFo (leftF G P), m) := by
  rw [run_at tb_left k rfl]
  obtain ⟨f, ns⟩ := G
  cases f with
  | last w t => simp [fn_left, leftF, encFo, encPV, encPN, encSi, ex, dst, ev, den, denB, M.bnd, M.ret, tgt, setsN, setsR, newT, sizeLine, fini, gc_same, lt_encPV, lt_encPN, lt_encT]
  | _ => exact absurd rfl h
theorem run_calledr (P Q K G : PV) (m : List SO) : run tb (k + 1) "called_running" [encPV P, encPV Q, encPV K, encPV G] m = some (encFo (bothF true P Q K G), m) := by
  rw [run_at tb_called_running k rfl]
  obtain ⟨f, ns⟩ := P
  cases f with
  | code fn a w x y t => simp [fn_called_running, bothF, encFo, encPV, encPN, encSi, ex, dst, ev, den, denB, M.bnd, M.ret, tgt, setsR, idx_hd, cmp_nes, newT, sizeLine, fini, gc_same, lt_encPV, lt_encPN, lt_encT]
  | _ => simp [fn_called_running, bothF, encFo, encPV, encSi, ex, dst, ev, den, denB, M.bnd, M.ret, tgt, setsR, idx_hd, cmp_nes, fini, gc_same]
theorem idx_pnum (i : Int) (ns : PN) (m : List SO) : idxD (encPV (.mk (.num i) ns)) (.int 0) m = some (.tup [.str "num", .int i], m) := by
  rw [encPV, encSi]; exact idx_hd _ _ _
theorem run_added (P Q K G : PV) (m : List SO) : run tb (k + 2) "added" [encPV P, encPV Q, encPV K, encPV G] m = some (encFo (bothF false P Q K G), m) := by
  have h1 := run_isnp (k := k) P m
  have h2 := run_isnp (k := k) Q m
  rw [run_at tb_added (k + 1) rfl]
  cases hp : isNumP P with
  | false =>
    have hr : bothF false P Q K G = .stop := by
      obtain ⟨f, ns⟩ := P
      cases f <;> first | (simp [isNumP] at hp; done) | rfl
    rw [hp] at h1
    simp [fn_added, ex, dst, ev, den, denB, M.bnd, M.ret, truthM, h1, fini, gc_same, hr, encFo]
  | true =>
    rw [hp] at h1
    cases hq : isNumP Q with
    | false =>
      have hr : bothF false P Q K G = .stop := by
        obtain ⟨f, ns⟩ := P
        obtain ⟨f2, ns2⟩ := Q
        cases f <;> cases f2 <;> first | (simp [isNumP] at hq; done) | rfl
      rw [hq] at h2
      simp [fn_added, ex, dst, ev, den, denB, M.bnd, M.ret, truthM, h1, h2, fini, gc_same, hr, encFo]
    | true =>
      rw [hq] at h2
      obtain ⟨f, ns⟩ := P
      obtain ⟨f2, ns2⟩ := Q
      cases f <;> first | (simp [isNumP] at hp; done) | skip
      cases f2 <;> first | (simp [isNumP] at hq; done) | skip
      rename_i i j
      have hg := run_given (k := k) K (.mk (.num (i + j)) .nil) G m
      simp only [encPV, encPN, encSi] at hg
      simp only [encPV, encSi] at h1 h2
      simp [fn_added, encPV, encSi, ex, dst, ev, den, denB, M.bnd, M.ret, truthM, h1, h2, idx_hd, idx_t1, newT, sizeLine, hg, fini, gc_same, bothF, lt_encFo]
theorem run_picked (a : Int) (p : Si) (t u : Mi.Tm) (P : PV) (ns : PN) (m : List SO) : run tb (k + 2) "picked" [encT (.pick a p t u), encPV P, encPN ns] m = some (encFo (pickF P t u ns), m) := by
  have h1 := run_isnp (k := k) P m
  rw [run_at tb_picked (k + 1) rfl]
  cases hp : isNumP P with
  | false =>
    have hr : pickF P t u ns = .stop := by
      obtain ⟨f, ns⟩ := P
      cases f <;> first | (simp [isNumP] at hp; done) | rfl
    rw [hp] at h1
    simp [fn_picked, ex, dst, ev, den, denB, M.bnd, M.ret, truthM, h1, fini, gc_same, hr, encFo]
  | true =>
    rw [hp] at h1
    obtain ⟨f, n2⟩ := P
    cases f <;> first | (simp [isNumP] at hp; done) | skip
    rename_i i
    simp only [encPV, encSi] at h1
    by_cases hi : i = 0
    · subst hi
      simp [fn_picked, encT, encPV, encSi, ex, dst, ev, den, denB, M.bnd, M.ret, truthM, h1, tgt, setsR, idx_hd, idx_t1, cmp_ints, newT, sizeLine, fini, gc_same, pickF, encFo, lt_encT, lt_encPN]
    · simp [fn_picked, encT, encPV, encSi, ex, dst, ev, den, denB, M.bnd, M.ret, truthM, h1, tgt, setsR, idx_hd, idx_t1, cmp_ints, hi, newT, sizeLine, fini, gc_same, pickF, encFo, lt_encT, lt_encPN]
theorem run_fol {t : Mi.Tm} {ns : PN} (ht : t.ok = true) (hn : ns.ok = true) (h : fol t ns ≠ .bad) (m : List SO) : run tb (k + 3) "followed" [encT t, encPN ns] m = some (encFo (fol t ns), m) := by
  rw [run_at tb_followed (k + 2) rfl]
  have e0 : ([encT t, encPN ns].map some ++ List.replicate (fn_followed.N.length - [encT t, encPN ns].length) none) = [some (encT t), some (encPN ns), none, none, none, none, none, none, none, none] := rfl
  rw [e0]
  simp only [fn_followed]
  rw [ex_mtch rfl]
  cases t with
  | let_ w p t =>
    simp only [Tm.ok, Bool.and_eq_true] at ht
    simp only [fol] at h ⊢
    cases h1 : meant p ns with
    | none => rw [h1] at h; exact absurd rfl h
    | some v =>
      have m1 := run_meant (k := k) ht.1.2 hn h1 m
      simp only [encT]
      rw [case_hit rfl rfl]
      simp [ex, dst, ev, den, denB, M.bnd, M.ret, m1, newT, sizeLine, fini, gc_same, encFo, encPN, lt_encPV, lt_encPN, lt_encT]
  | pass K P G =>
    simp only [Tm.ok, Bool.and_eq_true] at ht
    simp only [fol] at h ⊢
    cases h1 : meant K ns with
    | none => rw [h1] at h; exact absurd rfl h
    | some v1 =>
    cases h2 : meant P ns with
    | none => rw [h1, h2] at h; exact absurd rfl h
    | some v2 =>
    cases h3 : meant G ns with
    | none => rw [h1, h2, h3] at h; exact absurd rfl h
    | some v3 =>
      rw [h1, h2, h3] at h
      have m1 := run_meant (k := k) ht.1.1 hn h1 m
      have m2 := run_meant (k := k) ht.1.2 hn h2 m
      have m3 := run_meant (k := k) ht.2 hn h3 m
      have m4 := run_passed (k := k + 1) h m
      simp only [encT]
      rw [case_ne rfl, case_hit rfl rfl]
      simp [ex, dst, ev, den, denB, M.bnd, M.ret, m1, m2, m3, m4, fini, gc_same, lt_encFo]
  | leave G P =>
    simp only [Tm.ok, Bool.and_eq_true] at ht
    simp only [fol] at h ⊢
    cases h1 : meant G ns with
    | none => rw [h1] at h; exact absurd rfl h
    | some v1 =>
    cases h2 : meant P ns with
    | none => rw [h1, h2] at h; exact absurd rfl h
    | some v2 =>
      rw [h1, h2] at h
      have m1 := run_meant (k := k) ht.1 hn h1 m
      have m2 := run_meant (k := k) ht.2 hn h2 m
      have m4 := run_left (k := k + 1) h m
      simp only [encT]
      rw [case_ne rfl, case_ne rfl, case_hit rfl rfl]
      simp [ex, dst, ev, den, denB, M.bnd, M.ret, m1, m2, m4, fini, gc_same, lt_encFo]
  | shut P K G =>
    simp only [Tm.ok, Bool.and_eq_true] at ht
    simp only [fol] at h ⊢
    cases h1 : meant K ns with
    | none => rw [h1] at h; exact absurd rfl h
    | some v1 =>
    cases h2 : meant P ns with
    | none => rw [h1, h2] at h; exact absurd rfl h
    | some v2 =>
    cases h3 : meant G ns with
    | none => rw [h1, h2, h3] at h; exact absurd rfl h
    | some v3 =>
      have m1 := run_meant (k := k) ht.1.2 hn h1 m
      have m2 := run_meant (k := k) ht.1.1 hn h2 m
      have m3 := run_meant (k := k) ht.2 hn h3 m
      have m4 := run_given (k := k + 1) v1 v2 v3 m
      simp only [encT]
      rw [case_ne rfl, case_ne rfl, case_ne rfl, case_hit rfl rfl]
      simp [ex, dst, ev, den, denB, M.bnd, M.ret, m1, m2, m3, m4, fini, gc_same, lt_encFo]
  | both c a P Q K G =>
    simp only [Tm.ok, Bool.and_eq_true] at ht
    simp only [fol] at h ⊢
    cases h1 : meant P ns with
    | none => rw [h1] at h; exact absurd rfl h
    | some v1 =>
    cases h2 : meant Q ns with
    | none => rw [h1, h2] at h; exact absurd rfl h
    | some v2 =>
    cases h3 : meant K ns with
    | none => rw [h1, h2, h3] at h; exact absurd rfl h
    | some v3 =>
    cases h4 : meant G ns with
    | none => rw [h1, h2, h3, h4] at h; exact absurd rfl h
    | some v4 =>
      have m1 := run_meant (k := k) ht.1.1.1 hn h1 m
      have m2 := run_meant (k := k) ht.1.1.2 hn h2 m
      have m3 := run_meant (k := k) ht.1.2 hn h3 m
      have m4 := run_meant (k := k) ht.2 hn h4 m
      cases c with
      | true =>
        have m5 := run_calledr (k := k + 1) v1 v2 v3 v4 m
        simp only [encT, wdB, if_true]
        rw [case_ne rfl, case_ne rfl, case_ne rfl, case_ne rfl, case_hit rfl rfl]
        simp [ex, dst, ev, den, denB, M.bnd, M.ret, m1, m2, m3, m4, m5, fini, gc_same, lt_encFo]
      | false =>
        have m5 := run_added (k := k) v1 v2 v3 v4 m
        simp only [encT, wdB, Bool.false_eq_true, if_false]
        rw [case_ne rfl, case_ne rfl, case_ne rfl, case_ne rfl, case_ne rfl, case_hit rfl rfl]
        simp [ex, dst, ev, den, denB, M.bnd, M.ret, m1, m2, m3, m4, m5, fini, gc_same, lt_encFo]
  | pick a P t u =>
    simp only [Tm.ok, Bool.and_eq_true] at ht
    simp only [fol] at h ⊢
    cases h1 : meant P ns with
    | none => rw [h1] at h; exact absurd rfl h
    | some v1 =>
      have m1 := run_meant (k := k) ht.1.1 hn h1 m
      have m2 := run_picked (k := k) a P t u v1 ns m
      simp only [encT] at m2 ⊢
      rw [case_ne rfl, case_ne rfl, case_ne rfl, case_ne rfl, case_ne rfl, case_ne rfl, case_hit rfl rfl]
      simp [ex, dst, ev, den, denB, M.bnd, M.ret, m1, m2, fini, gc_same, lt_encFo]
  | ask a G t =>
    simp only [Tm.ok, Bool.and_eq_true] at ht
    simp only [fol] at h ⊢
    cases h1 : meant G ns with
    | none => rw [h1] at h; exact absurd rfl h
    | some v1 =>
      have m1 := run_meant (k := k) ht.1 hn h1 m
      obtain ⟨f, n2⟩ := v1
      simp only [encPV] at m1
      simp only [encT]
      rw [case_ne rfl, case_ne rfl, case_ne rfl, case_ne rfl, case_ne rfl, case_ne rfl, case_ne rfl, case_wl rfl rfl]
      cases f <;> simp [ex, dst, ev, den, denB, M.bnd, M.ret, m1, tgt, setsR, idx_si, wordSi, cmp_eqs, newT, sizeLine, fini, gc_same, lt_encFo, askF, encFo, lt_encT, lt_encPN]
theorem isNon_encFo (x : Fo) : Mi.isNon (encFo x) = (match x with | .to _ _ => false | _ => true) := by cases x <;> rfl
theorem steps_in (t : Mi.Tm) (m : List SO) : cmpM k .in_ (.str (Str.ofString (wordT t))) (.tup [.str "shut", .str "call", .str "plus", .str "pick", .str "ask", .str "leave"]) m = some (isStp t, m) := by
  have : ∀ w : String, cmpM k .in_ (.str (Str.ofString w)) (.tup [.str "shut", .str "call", .str "plus", .str "pick", .str "ask", .str "leave"]) m = some (("shut" == w || ("call" == w || ("plus" == w || ("pick" == w || ("ask" == w || "leave" == w))))), m) := fun w => by
    simp [cmpM, cmpD, seqOf, flatD, inD, eqF]
  rw [this]
  cases t with
  | both c _ _ _ _ _ => cases c <;> rfl
  | _ => rfl
def pbody : Sm := match fn_run_plain.body with
  | .seq _ (.seq _ (.seq _ (.seq _ (.seq (.whl _ b) _)))) => b
  | s => s
theorem runp_body : fn_run_plain.body = .seq (.expr (.call "check_fuel" (.cons (.var 1) .nil))) (.seq (.set 2 (.cst .non)) (.seq (.set 3 (.cst (.int 0))) (.seq (.set 4 (.call "followed" (.cons (.var 0) (.cons (.var 2) .nil)))) (.seq (.whl (.cmp .notN (.var 4) (.cst .non)) pbody) (.ret (.call "told_running" (.cons (.var 0) (.cons (.var 2) .nil)))))))) := rfl
def pif : Sm := sq1 pbody
def prst : Sm := sq2 pbody
theorem pbody_eq : pbody = .seq pif prst := rfl
theorem p_cond (T F N M1 : Option D) (x : Fo) (m : List SO) : (ev (k + 3) (run tb (k + 3)) (.cmp .notN (.var 4) (.cst .non)) [T, F, N, M1, some (encFo x)]).t m = some ((match x with | .to _ _ => true | _ => false), m) := by
  have := isNon_encFo x
  cases x <;> simp [ev, den, denB, M.bnd, M.ret, cmp_notN, this]
theorem p_rest {t : Mi.Tm} {ns : PN} {T F N M1 : Option D} (ht : t.ok = true) (hn : ns.ok = true) (h : fol t ns ≠ .bad) (m : List SO) : (ex (k + 3) (run tb (k + 3)) prst).x [T, F, N, M1, some (encFo (.to t ns))] m = some ((.nx, [some (encT t), F, some (encPN ns), M1, some (encFo (fol t ns))]), m) := by
  have := run_fol (k := k) ht hn h m
  simp only [prst, pbody, fn_run_plain, sq2]
  simp [encFo, ex, dst, ev, den, denB, M.bnd, M.ret, tgt, setsR, this]
theorem p_if0 {t : Mi.Tm} {F N M1 X : Option D} (hs : isStp t = false) (m : List SO) : (ex (k + 3) (run tb (k + 3)) pif).x [some (encT t), F, N, M1, X] m = some ((.nx, [some (encT t), F, N, M1, X]), m) := by
  have h := steps_in (k := k + 3) t m
  rw [hs] at h
  simp only [pif, pbody, fn_run_plain, sq1]
  simp [ex, dst, ev, den, denB, M.bnd, M.ret, idx_tm, h]
theorem p_if1 {t : Mi.Tm} {N X : Option D} {f j : Nat} (hs : isStp t = true) (hj : j < f) (m : List SO) : (ex (k + 3) (run tb (k + 3)) pif).x [some (encT t), some (.int f), N, some (.int j), X] m = some ((.nx, [some (encT t), some (.int f), N, some (.int ((j + 1 : Nat) : Int)), X]), m) := by
  have h := steps_in (k := k + 3) t m
  rw [hs] at h
  have : ¬ ((j : Int) = f) := by omega
  simp only [pif, pbody, fn_run_plain, sq1]
  simp [ex, dst, ev, den, denB, M.bnd, M.ret, idx_tm, h, cmp_ints, this]
theorem p_ifd {t : Mi.Tm} {N X : Option D} {f : Nat} (hs : isStp t = true) (m : List SO) : (ex (k + 3) (run tb (k + 3)) pif).x [some (encT t), some (.int f), N, some (.int f), X] m = some ((.rt (.tup [.str "dry"]), [some (encT t), some (.int f), N, some (.int f), X]), m) := by
  have h := steps_in (k := k + 3) t m
  rw [hs] at h
  simp only [pif, pbody, fn_run_plain, sq1]
  simp [ex, dst, ev, den, denB, M.bnd, M.ret, idx_tm, h, cmp_ints, newT, sizeLine]
theorem p_loop {f : Nat} {e : Nat} {t : Mi.Tm} {ns : PN} {d : D} (h : PEnds e t ns d) : ∀ (j : Nat), t.ok = true → ns.ok = true → j + e = f →
    ∃ N, (∃ t' ns' M1, whN (fun r => (ev (k + 3) (run tb (k + 3)) (.cmp .notN (.var 4) (.cst .non)) r).t) (ex (k + 3) (run tb (k + 3)) pbody).x N [some (encT t), some (.int f), some (encPN ns), some (.int j), some (encFo (fol t ns))] m = some ((.nx, [some (encT t'), some (.int f), some (encPN ns'), M1, some .non]), m) ∧ t'.ok = true ∧ ns'.ok = true ∧ tellT t' ns' = some d) ∨
      (d = .tup [.str "dry"] ∧ ∃ r', whN (fun r => (ev (k + 3) (run tb (k + 3)) (.cmp .notN (.var 4) (.cst .non)) r).t) (ex (k + 3) (run tb (k + 3)) pbody).x N [some (encT t), some (.int f), some (encPN ns), some (.int j), some (encFo (fol t ns))] m = some ((.rt (.tup [.str "dry"]), r'), m)) := by
  induction h with
  | @stop e t ns d hf hd =>
    intro j ht hn hj
    rw [hf]
    exact ⟨1, .inl ⟨t, ns, some (.int j), wh_end (p_cond _ _ _ _ .stop m), ht, hn, hd⟩⟩
  | @adm e t ns t' ns' d hs hf hE ih =>
    intro j ht hn hj
    obtain ⟨ht', hn'⟩ := fol_ok ht hn hf
    rw [hf]
    have hb : (ex (k + 3) (run tb (k + 3)) pbody).x [some (encT t), some (.int f), some (encPN ns), some (.int j), some (encFo (.to t' ns'))] m = some ((.nx, [some (encT t'), some (.int f), some (encPN ns'), some (.int j), some (encFo (fol t' ns'))]), m) := by
      rw [pbody_eq, ex_seq (p_if0 hs m), p_rest ht' hn' hE.nb m]
    obtain ⟨N, ⟨t2, n2, M1, g1, g2⟩ | ⟨g1, r', g2⟩⟩ := ih j ht' hn' hj
    · exact ⟨N + 1, .inl ⟨t2, n2, M1, wh_step (p_cond _ _ _ _ (.to t' ns') m) hb g1, g2⟩⟩
    · exact ⟨N + 1, .inr ⟨g1, r', wh_step (p_cond _ _ _ _ (.to t' ns') m) hb g2⟩⟩
  | @dry t ns t' ns' hs hf =>
    intro j ht hn hj
    rw [hf]
    have : j = f := by omega
    subst this
    refine ⟨1, .inr ⟨rfl, [some (encT t), some (.int j), some (encPN ns), some (.int j), some (encFo (.to t' ns'))], wh_rt (p_cond _ _ _ _ (.to t' ns') m) ?_⟩⟩
    rw [pbody_eq]
    exact ex_seq_rt (p_ifd hs m)
  | @step e t ns t' ns' d hs hf hE ih =>
    intro j ht hn hj
    obtain ⟨ht', hn'⟩ := fol_ok ht hn hf
    rw [hf]
    have hb : (ex (k + 3) (run tb (k + 3)) pbody).x [some (encT t), some (.int f), some (encPN ns), some (.int j), some (encFo (.to t' ns'))] m = some ((.nx, [some (encT t'), some (.int f), some (encPN ns'), some (.int ((j + 1 : Nat) : Int)), some (encFo (fol t' ns'))]), m) := by
      rw [pbody_eq, ex_seq (p_if1 hs (by omega) m), p_rest ht' hn' hE.nb m]
    obtain ⟨N, ⟨t2, n2, M1, g1, g2⟩ | ⟨g1, r', g2⟩⟩ := ih (j + 1) ht' hn' (by omega)
    · exact ⟨N + 1, .inl ⟨t2, n2, M1, wh_step (p_cond _ _ _ _ (.to t' ns') m) hb g1, g2⟩⟩
    · exact ⟨N + 1, .inr ⟨g1, r', wh_step (p_cond _ _ _ _ (.to t' ns') m) hb g2⟩⟩
theorem run_toldr {t : Mi.Tm} {ns : PN} {d : D} (ht : t.ok = true) (hn : ns.ok = true) (h : tellT t ns = some d) (m : List SO) : run tb (k + 3) "told_running" [encT t, encPN ns] m = some (d, m) ∧ ltD m.length d = true := by
  rw [run_at tb_told_running (k + 2) rfl]
  cases t with
  | pass K P G =>
    simp only [Tm.ok, Bool.and_eq_true] at ht
    simp only [tellT] at h
    cases h1 : meant P ns with
    | none => rw [h1] at h; cases h
    | some v =>
      rw [h1] at h
      have m1 := run_meant (k := k) ht.1.2 hn h1 m
      obtain ⟨f, n2⟩ := v
      cases f <;> simp [tellV] at h <;> subst h
      · simp only [encPV, encSi] at m1
        simp [fn_told_running, encT, ex, dst, ev, den, denB, M.bnd, M.ret, tgt, setsR, idx_hd, idx_t1, idx_t2, cmp_nes, cmp_eqs, m1, newT, sizeLine, fini, gc_same]
      · simp only [encPV, encSi] at m1
        simp [fn_told_running, encT, ex, dst, ev, den, denB, M.bnd, M.ret, tgt, setsR, idx_hd, idx_t1, idx_t2, cmp_nes, cmp_eqs, m1, newT, sizeLine, fini, gc_same]
  | both c a P Q K G =>
    simp [tellT, isMk, markT] at h
    subst h
    cases c <;> simp [fn_told_running, encT, wdB, ex, dst, ev, den, denB, M.bnd, M.ret, idx_hd, idx_t1, cmp_nes, newT, sizeLine, fini, gc_same]
  | pick a P t u =>
    simp [tellT, isMk, markT] at h
    subst h
    simp [fn_told_running, encT, ex, dst, ev, den, denB, M.bnd, M.ret, idx_hd, idx_t1, cmp_nes, newT, sizeLine, fini, gc_same]
  | ask a G t =>
    simp [tellT, isMk, markT] at h
    subst h
    simp [fn_told_running, encT, ex, dst, ev, den, denB, M.bnd, M.ret, idx_hd, idx_t1, cmp_nes, newT, sizeLine, fini, gc_same]
  | _ => simp [tellT, isMk] at h
theorem run_runp {t : Mi.Tm} {f : Nat} {d : D} (ht : t.ok = true) (hf : f ≤ 1000000) (h : PEnds f t .nil d) (m : List SO) : run tb (k + 5) "run_plain" [encT t, .int f] m = some (d, m) := by
  have hck := run_chkf (k := k + 2) (f := (f : Int)) (by omega) m
  have hfo := run_fol (k := k + 1) (ns := .nil) ht (by simp [PN.ok]) h.nb m
  simp only [encPN] at hfo
  rw [run_at tb_run_plain (k + 4) rfl, runp_body]
  have e1 : (ex (k + 4) (run tb (k + 4)) (.expr (.call "check_fuel" (.cons (.var 1) .nil)))).x [some (encT t), some (.int f), none, none, none] m = some ((.nx, [some (encT t), some (.int f), none, none, none]), m) := by
    simp [ex, dst, ev, den, M.bnd, M.ret, hck]
  have e2 : (ex (k + 4) (run tb (k + 4)) (.set 2 (.cst .non))).x [some (encT t), some (.int f), none, none, none] m = some ((.nx, [some (encT t), some (.int f), some .non, none, none]), m) := by
    simp [ex, dst, ev, den, M.bnd, M.ret]
  have e3 : (ex (k + 4) (run tb (k + 4)) (.set 3 (.cst (.int 0)))).x [some (encT t), some (.int f), some .non, none, none] m = some ((.nx, [some (encT t), some (.int f), some .non, some (.int ((0 : Nat) : Int)), none]), m) := by
    simp [ex, dst, ev, den, M.bnd, M.ret]
  have e4 : (ex (k + 4) (run tb (k + 4)) (.set 4 (.call "followed" (.cons (.var 0) (.cons (.var 2) .nil))))).x [some (encT t), some (.int f), some .non, some (.int ((0 : Nat) : Int)), none] m = some ((.nx, [some (encT t), some (.int f), some (encPN .nil), some (.int ((0 : Nat) : Int)), some (encFo (fol t .nil))]), m) := by
    simp [ex, dst, ev, den, M.bnd, M.ret, hfo, encPN]
  show fini m ((ex (k + 4) (run tb (k + 4)) _).x [some (encT t), some (.int f), none, none, none] m) = _
  rw [ex_seq e1, ex_seq e2, ex_seq e3, ex_seq e4]
  obtain ⟨N, ⟨t2, n2, M1, g1, g2, g3, g4⟩ | ⟨g1, r', g2⟩⟩ := p_loop (k := k + 1) (m := m) (f := f) h 0 ht (by simp [PN.ok]) (by omega)
  · obtain ⟨htl, hlt⟩ := run_toldr (k := k + 1) g2 g3 g4 m
    rw [ex_seq (ex_whl g1)]
    simp [ex, dst, ev, den, M.bnd, M.ret, htl, fini, gc_same hlt]
  · rw [ex_seq_rt (ex_whl g2), g1]
    simp [fini, gc_same]
theorem run_byplain {p : RP} {f : Nat} (hp : pc p []) (hd : p.dp ≤ 29) (hkn : p.knots ≤ 300) (hf : f ≤ 1000000) (hk : 62 ≤ k) (m : List SO) :
    run tb (k + 1) "by_plain" [enc p, .int f] m = some (tellR (lastS f p), m) := by
  obtain ⟨k, rfl⟩ : ∃ k', k = k' + 5 := ⟨k - 5, by omega⟩
  have hps : pcs p [] := ⟨hp, by simp⟩
  have h1 := run_plain_ (k := k + 4) hp hd hkn (by omega) m
  have h2 := run_runp (k := k) (tmOf_ok hps rfl rfl) hf (p_ends hps f) m
  have hlt : ltD m.length (tellR (lastS f p)) = true := by
    cases lastS f p with
    | val v => cases v <;> simp [tellR]
    | stuck a => simp [tellR]
    | step q => simp [tellR]
  rw [run_at tb_by_plain (k + 5) rfl]
  simp [fn_by_plain, ex, dst, ev, den, M.bnd, M.ret, h1, h2, fini, gc_same hlt]
end K13
namespace K13
open PySem PySem.Spec PyProof.Rows L2 Mi
variable {m : List SO} {k : Nat}

theorem run_done {j n : Nat} {p : RP} (h : LInv j p) (hj : j ≤ 1000) (hm : getL m n = some (encFs (fnd p []).2.reverse)) : run tb (k + 2) "is_done" [enc (fnd p []).1, .loc n] m = some (.bl (doneR (stepR p)), m) := by
  rw [run_at tb_is_done (k + 1) rfl]
  have hisv := fun q => run_isv (k := k) q m
  rcases step_cases2 h hj with ⟨h1, h2, h3⟩ | ⟨h1, h2, h3, ⟨a, ha, hs⟩ | ⟨q, fs, ha, hs⟩⟩
  · rw [h2, h3]
    simp [fn_is_done, ex, dst, ev, den, M.bnd, M.ret, truthM, hisv, h1, fini, gc_same, doneR]
  · have hst := run_stuck (k := k) (fnd p []).1 (fnd p []).2 h2 h3 hm
    have hsb : stuckB (fnd p []).1 (fnd p []).2 = true := by unfold stuckB; rw [ha]
    rw [hsb] at hst
    rw [hs]
    simp [fn_is_done, ex, dst, ev, den, M.bnd, M.ret, truthM, hisv, h3, hst, fini, gc_same, doneR]
  · have hst := run_stuck (k := k) (fnd p []).1 (fnd p []).2 h2 h3 hm
    have hsb : stuckB (fnd p []).1 (fnd p []).2 = false := by unfold stuckB; rw [ha]
    rw [hsb] at hst
    rw [hs]
    simp [fn_is_done, ex, dst, ev, den, M.bnd, M.ret, truthM, hisv, h3, hst, fini, gc_same, doneR]
theorem run_outc {j : Nat} {p : RP} (h : LInv j p) (hj : j ≤ 1000) (hd : doneR (stepR p) = true) : run tb (k + 1) "outcome" [enc (fnd p []).1] m = some (tellR (stepR p), m) := by
  rw [run_at tb_outcome k rfl]
  rcases step_cases2 h hj with ⟨h1, h2, h3⟩ | ⟨h1, h2, h3, ⟨a, ha, hs⟩ | ⟨q, fs, ha, hs⟩⟩
  · rw [h2, h3]
    cases p <;> simp [RP.isVal] at h1
    · simp only [fn_outcome]
      rw [ex_mtch rfl]
      simp only [enc]
      rw [case_hit rfl rfl]
      simp [ex, ev, dst, den, denB, M.bnd, M.ret, M.no, newT, newL, fini, truthM, truth, Mi.isNon, bltD, tgt, setsR, wipeR, ptO, isiD, sizeLine, getL_app0, tellR, gc_same]
    · simp only [fn_outcome]
      rw [ex_mtch rfl]
      simp only [enc]
      rw [case_ne rfl, case_hit rfl rfl]
      simp [ex, ev, dst, den, denB, M.bnd, M.ret, M.no, newT, newL, fini, truthM, truth, Mi.isNon, bltD, tgt, setsR, wipeR, ptO, isiD, sizeLine, getL_app0, tellR, gc_same]
    · simp only [fn_outcome]
      rw [ex_mtch rfl]
      simp only [enc]
      rw [case_ne rfl, case_ne rfl, case_hit rfl rfl]
      simp [ex, ev, dst, den, denB, M.bnd, M.ret, M.no, newT, newL, fini, truthM, truth, Mi.isNon, bltD, tgt, setsR, wipeR, ptO, isiD, sizeLine, getL_app0, tellR, gc_same]
  · obtain ⟨w, xs, e, e1, e2, e3⟩ := stuck_word ha
    have hi := stuck_mark ha m
    rw [hs]
    rw [e] at hi ⊢
    simp only [fn_outcome]
    rw [ex_mtch rfl, case_ne (by simpa using e1), case_ne (by simpa using e2), case_ne (by simpa using e3), case_any]
    simp [ex, ev, dst, den, denB, M.bnd, M.ret, M.no, newT, newL, fini, truthM, truth, Mi.isNon, bltD, tgt, setsR, wipeR, ptO, isiD, sizeLine, getL_app0, tellR, gc_same, hi]
  · rw [hs] at hd
    cases hd
theorem run_step {j n : Nat} {p p' : RP} (h : LInv j p) (hj : j ≤ 1000) (hs : stepR p = .step p') (hk : 28 ≤ k) (hm : getL m n = some (encFs (fnd p []).2.reverse)) :
    ∃ (q' : RP) (fs' : List Fr), run tb (k + 3) "changed" [enc (fnd p []).1, .loc n] m = some (enc q', m.set n (.lst (encFs fs'.reverse))) ∧
      ∀ M, getL M n = some (encFs fs'.reverse) → run tb (k + 3) "found" [enc q', .loc n] M = some (enc (fnd p' []).1, M.set n (.lst (encFs (fnd p' []).2.reverse))) := by
  obtain ⟨T, V, E, z, hT, hE⟩ := h.at2 hj
  rcases step_cases2 h hj with ⟨h1, h2, h3⟩ | ⟨h1, h2, h3, ⟨a, ha, hs2⟩ | ⟨q, fs, ha, hs2⟩⟩
  · rw [h3] at hs; cases hs
  · rw [hs2] at hs; cases hs
  · rw [hs2] at hs
    cases hs
    obtain ⟨T', E', hte, z3⟩ := z.act h2 ha
    have hpr : ∀ f ∈ fs, prF f = true := fun f hf => (gdFs_mem.mp z3.f f hf).pr
    have hE' : hgt q.dp fs < 16200000 := by have := z3.e; omega
    refine ⟨q, fs, run_changed z hT hE h2 ha hk hm, fun M hM => ?_⟩
    have := run_found (k := k + 1) q fs M hE' hpr hM
    rwa [fnd_plug hpr] at this
end K13
namespace K13
open PySem PySem.Spec PyProof.Rows L2 Mi
variable {m : List SO} {k : Nat}

/-! ### by putting in -/
def zbody : Sm := match fn_by_putting.body with
  | .seq _ (.seq _ (.seq _ (.seq _ (.seq (.whl _ b) _)))) => b
  | s => s
theorem byp_body : fn_by_putting.body = .seq (.expr (.call "check_both" (.cons (.var 0) (.cons (.var 1) .nil)))) (.seq (.set 2 (.lst .nil)) (.seq (.set 3 (.call "found" (.cons (.var 0) (.cons (.var 2) .nil)))) (.seq (.set 4 (.cst (.int 0))) (.seq (.whl (.not (.call "is_done" (.cons (.var 3) (.cons (.var 2) .nil)))) zbody) (.ret (.call "outcome" (.cons (.var 3) .nil))))))) := rfl
def bS (m : List SO) (fs : List Fr) : List SO := m ++ [.lst (encFs fs.reverse)]
theorem bS_frs (fs : List Fr) : getL (bS m fs) m.length = some (encFs fs.reverse) := by simp [bS]
theorem bS_set (fs gs : List Fr) : (bS m fs).set m.length (.lst (encFs gs.reverse)) = bS m gs := by simp [bS]
theorem byp_loop {P : Option D} {f : Nat} (hk : 28 ≤ k) : ∀ (e r j : Nat) (p : RP), j + e = f → j + r ≤ 1000 → (e ≤ r ∨ doneR (lastS r p) = true) → LInv j p →
    ∃ N fs, (∃ q j', j' ≤ 1000 ∧ LInv j' q ∧ lastS e p = stepR q ∧ doneR (stepR q) = true ∧ fs = (fnd q []).2 ∧ ∃ r4, whN (fun r => (ev (k + 3) (run tb (k + 3)) (.not (.call "is_done" (.cons (.var 3) (.cons (.var 2) .nil)))) r).t) (ex (k + 3) (run tb (k + 3)) zbody).x N [P, some (.int f), some (.loc m.length), some (enc (fnd p []).1), some (.int j)] (bS m (fnd p []).2)
      = some ((.nx, [P, some (.int f), some (.loc m.length), some (enc (fnd q []).1), r4]), bS m fs)) ∨
      (lastS e p = .step (match lastS e p with | .step q => q | _ => p) ∧ ∃ r', whN (fun r => (ev (k + 3) (run tb (k + 3)) (.not (.call "is_done" (.cons (.var 3) (.cons (.var 2) .nil)))) r).t) (ex (k + 3) (run tb (k + 3)) zbody).x N [P, some (.int f), some (.loc m.length), some (enc (fnd p []).1), some (.int j)] (bS m (fnd p []).2)
      = some ((.rt (.tup [.str "dry"]), r'), bS m fs))
  | e, r, j, p, hj, hr2, hr, hI => by
    have hdn := run_done (k := k + 1) (m := bS m (fnd p []).2) hI (by omega) (bS_frs (fnd p []).2)
    cases hd : doneR (stepR p) with
    | true =>
      rw [hd] at hdn
      have hl : lastS e p = stepR p := by
        cases e with
        | zero => rfl
        | succ e =>
          unfold lastS
          cases hs : stepR p with
          | step q => rw [hs] at hd; cases hd
          | val _ => rfl
          | stuck _ => rfl
      refine ⟨1, (fnd p []).2, .inl ⟨p, j, by omega, hI, hl, hd, rfl, some (.int j), wh_end ?_⟩⟩
      simp [ev, den, denB, M.bnd, M.ret, hdn, truthM]
    | false =>
      rw [hd] at hdn
      obtain ⟨p', hs⟩ : ∃ p', stepR p = .step p' := by
        cases hs : stepR p with
        | step q => exact ⟨q, rfl⟩
        | val _ => rw [hs] at hd; cases hd
        | stuck _ => rw [hs] at hd; cases hd
      have hc : (ev (k + 3) (run tb (k + 3)) (.not (.call "is_done" (.cons (.var 3) (.cons (.var 2) .nil)))) [P, some (.int f), some (.loc m.length), some (enc (fnd p []).1), some (.int j)]).t (bS m (fnd p []).2) = some (true, bS m (fnd p []).2) := by
        simp [ev, den, denB, M.bnd, M.ret, hdn, truthM]
      cases e with
      | zero =>
        have hjf : (j : Int) = f := by omega
        refine ⟨1, (fnd p []).2, .inr ⟨?_, [P, some (.int f), some (.loc m.length), some (enc (fnd p []).1), some (.int j)], wh_rt hc ?_⟩⟩
        · show stepR p = .step (match stepR p with | .step q => q | _ => p)
          rw [hs]
        · simp only [zbody, fn_by_putting]
          simp [ex, dst, ev, den, denB, M.bnd, M.ret, cmp_ints, hjf, newT, sizeLine]
      | succ e =>
        have hjf : ¬ (j : Int) = f := by omega
        obtain ⟨r, rfl⟩ : ∃ r', r = r' + 1 := by
          cases r with
          | succ r => exact ⟨r, rfl⟩
          | zero =>
            exfalso
            rcases hr with hr | hr
            · omega
            · rw [show lastS 0 p = stepR p from rfl, hd] at hr; cases hr
        have hlr : lastS (r + 1) p = lastS r p' := by rw [lastS, hs]
        rw [hlr] at hr
        obtain ⟨q', fs', h1, h3⟩ := run_step (k := k) (m := bS m (fnd p []).2) hI (by omega) hs hk (bS_frs (fnd p []).2)
        rw [bS_set] at h1
        have h3 := h3 (bS m fs') (bS_frs fs')
        rw [bS_set] at h3
        have hl : lastS (e + 1) p = lastS e p' := by
          rw [lastS, hs]
        have hb : (ex (k + 3) (run tb (k + 3)) zbody).x [P, some (.int f), some (.loc m.length), some (enc (fnd p []).1), some (.int j)] (bS m (fnd p []).2) = some ((.nx, [P, some (.int f), some (.loc m.length), some (enc (fnd p' []).1), some (.int ((j + 1 : Nat) : Int))]), bS m (fnd p' []).2) := by
          simp only [zbody, fn_by_putting]
          simp [ex, dst, ev, den, denB, M.bnd, M.ret, cmp_ints, hjf, h1, h3]
        rw [hl]
        obtain ⟨N, fs, ih⟩ := byp_loop (f := f) hk e r (j + 1) p' (by omega) (by omega) (hr.imp (fun h => by omega) id) (hI.step hs)
        refine ⟨N + 1, fs, ?_⟩
        rcases ih with ⟨q, j', g1, g2, g3, g4, g5, r4, ih⟩ | ⟨g, r', ih⟩
        · exact .inl ⟨q, j', g1, g2, g3, g4, g5, r4, wh_step hc hb ih⟩
        · refine .inr ⟨?_, r', wh_step hc hb ih⟩
          cases hq : lastS e p' with
          | step q => rfl
          | val q => rw [hq] at g; cases g
          | stuck q => rw [hq] at g; cases g
theorem run_byp {p : RP} {f : Nat} (hp : pc p []) (hd : p.dp ≤ 28) (hkn : p.knots ≤ 300) (hI : LInv 0 p) (hf1 : f ≤ 1000000) {r : Nat} (hr : r ≤ 1000) (hf : f ≤ r ∨ doneR (lastS r p) = true) (hk : 28 ≤ k) (m : List SO) :
    run tb (k + 7) "by_putting" [enc p, .int f] m = some (tellR (lastS f p), m) := by
  obtain ⟨k, rfl⟩ : ∃ k', k = k' + 1 := ⟨k - 1, by omega⟩
  rw [run_at tb_by_putting (k + 7) rfl, byp_body]
  have hck := run_chkb (k := k) hp (by omega) hkn (f := f) (by omega) m
  have hfd := run_found (k := k + 5) p [] (n := m.length) (bS m []) (by simp only [hgt]; omega) (by simp) (by rw [bS_frs])
  rw [bS_set] at hfd
  have e1 : (ex (k + 7) (run tb (k + 7)) (.expr (.call "check_both" (.cons (.var 0) (.cons (.var 1) .nil))))).x ([enc p, .int f].map some ++ List.replicate (fn_by_putting.N.length - [enc p, .int f].length) none) m = some ((.nx, [some (enc p), some (.int f), none, none, none]), m) := by
    simp only [fn_by_putting]
    simp [ex, dst, ev, den, M.bnd, M.ret, hck]
  have e2 : (ex (k + 7) (run tb (k + 7)) (.set 2 (.lst .nil))).x [some (enc p), some (.int f), none, none, none] m = some ((.nx, [some (enc p), some (.int f), some (.loc m.length), none, none]), bS m []) := by
    simp [ex, dst, ev, den, M.bnd, M.ret, newL, sizeLine, bS, encFs]
  have e3 : (ex (k + 7) (run tb (k + 7)) (.set 3 (.call "found" (.cons (.var 0) (.cons (.var 2) .nil))))).x [some (enc p), some (.int f), some (.loc m.length), none, none] (bS m []) = some ((.nx, [some (enc p), some (.int f), some (.loc m.length), some (enc (fnd p []).1), none]), bS m (fnd p []).2) := by
    simp [ex, dst, ev, den, M.bnd, M.ret, hfd]
  have e4 : (ex (k + 7) (run tb (k + 7)) (.set 4 (.cst (.int 0)))).x [some (enc p), some (.int f), some (.loc m.length), some (enc (fnd p []).1), none] (bS m (fnd p []).2) = some ((.nx, [some (enc p), some (.int f), some (.loc m.length), some (enc (fnd p []).1), some (.int ((0 : Nat) : Int))]), bS m (fnd p []).2) := by
    simp [ex, dst, ev, den, M.bnd, M.ret]
  rw [ex_seq e1, ex_seq e2, ex_seq e3, ex_seq e4]
  obtain ⟨N, fs, ⟨q, j', g1, g2, g3, g4, g5, r4, hw⟩ | ⟨g, r', hw⟩⟩ := byp_loop (k := k + 4) (m := m) (P := some (enc p)) (f := f) (by omega) f r 0 p (by omega) (by omega) hf hI
  · rw [ex_seq (ex_whl hw), g3]
    have ho := run_outc (k := k + 6) (m := bS m fs) g2 (by omega) g4
    have hlt : ltD m.length (tellR (stepR q)) = true := by
      cases hs : stepR q with
      | val v => cases v <;> simp [tellR]
      | step v => simp [tellR]
      | stuck v => simp [tellR]
    have hg := gc_app (m := m) (l := [.lst (encFs fs.reverse)]) hlt
    simp only [bS] at ho
    simp [ex, dst, ev, den, M.bnd, M.ret, fini, bS, ho, hg]
  · rw [ex_seq_rt (ex_whl hw), g]
    have hg := gc_app (m := m) (l := [.lst (encFs fs.reverse)]) (d := .tup [.str "dry"]) (by simp)
    simp [fini, bS, hg, tellR]
end K13
namespace K13
open PySem PySem.Spec PyProof.Rows L2 Mi

/-! ### the piece that calls itself -/
def cLess : RP := .plus 6 (.name "n") (.num (-1))
def cBody (f : RP) : RP := .pick 3 (.name "n") (.num 0) (.plus 7 (.num 1) (.call 4 (.call 5 f f) cLess))
def cOwn : RP := .fun_ 1 "f" (.fun_ 2 "n" (cBody (.name "f")))
def cF : RP := .shut 1 "f" (.fun_ 2 "n" (cBody (.name "f")))
def cG : RP := .shut 2 "n" (cBody cF)
def cP (N : Int) : RP := .call 8 (.call 9 cOwn cOwn) (.num N)
def cN (N : Int) : RP := .pick 3 (.num N) (.num 0) (.plus 7 (.num 1) (.call 4 (.call 5 cF cF) (.plus 6 (.num N) (.num (-1)))))
theorem sne : (("n" : Str) == "f") = false ∧ (("f" : Str) == "n") = false := by constructor <;> decide
theorem put_f : RP.put "f" cF (.fun_ 2 "n" (cBody (.name "f"))) = .fun_ 2 "n" (cBody cF) := by
  simp [RP.put, cBody, cLess, sne]
theorem put_n (N : Int) : RP.put "n" (.num N) (cBody cF) = cN N := by
  simp [RP.put, cBody, cLess, cN, cF]
/-- F of F is G -/
theorem go_ff (a : Int) : Goes 2 (.call a cF cF) (.inl cG) := by
  have h1 : Goes 1 (.call a cF cF) (.inl (.fun_ 2 "n" (cBody cF))) := Goes.step rfl (by simp [ent, RP.isVal, cF]) (fun fs => by
    show Ac.go (RP.put "f" cF (.fun_ 2 "n" (cBody (.name "f")))) fs = _
    rw [put_f])
  have h2 : Goes 1 (.fun_ 2 "n" (cBody cF)) (.inl cG) := Goes.step rfl rfl (fun fs => rfl)
  exact h1.trans h2
/-- G of a number -/
theorem go_g (a N : Int) : Goes 1 (.call a cG (.num N)) (.inl (cN N)) := Goes.step rfl (by simp [ent, RP.isVal, cG]) (fun fs => by
  show Ac.go (RP.put "n" (.num N) (cBody cF)) fs = _
  rw [put_n])
theorem go_n : ∀ N : Nat, Goes (6 * N + 1) (cN N) (.inl (.num N))
  | 0 => Goes.step rfl (by simp [ent, RP.isVal, cN]) (fun fs => rfl)
  | N + 1 => by
    have h1 : Goes 1 (cN ((N + 1 : Nat) : Int)) (.inl (.plus 7 (.num 1) (.call 4 (.call 5 cF cF) (.plus 6 (.num ((N + 1 : Nat) : Int)) (.num (-1)))))) := Goes.step rfl (by simp [ent, RP.isVal, cN]) (fun fs => by
      show Ac.go (if ((N + 1 : Nat) : Int) = 0 then _ else _) fs = _
      rw [if_neg (by omega)])
    have h2 := ((go_ff 5).fr (f := .caller 4 (.plus 6 (.num ((N + 1 : Nat) : Int)) (.num (-1)))) rfl).fr (f := .added 7 (.num 1)) rfl
    have h3 : Goes 1 (.plus 6 (.num ((N + 1 : Nat) : Int)) (.num (-1))) (.inl (.num N)) := Goes.step rfl (by simp [ent, RP.isVal]) (fun fs => by
      show Ac.go (RP.num (((N + 1 : Nat) : Int) + -1)) fs = _
      rw [show ((N + 1 : Nat) : Int) + -1 = N by omega])
    have h3 := (h3.fr (f := .given 4 cG) rfl).fr (f := .added 7 (.num 1)) rfl
    have h4 := (go_g 4 N).fr (f := .added 7 (.num 1)) rfl
    have h5 := (go_n N).fr (f := .added 7 (.num 1)) rfl
    have h6 : Goes 1 (.plus 7 (.num 1) (.num N)) (.inl (.num ((N + 1 : Nat) : Int))) := Goes.step rfl (by simp [ent, RP.isVal]) (fun fs => by
      show Ac.go (RP.num (1 + (N : Int))) fs = _
      rw [show (1 : Int) + N = ((N + 1 : Nat) : Int) by omega])
    have := ((((h1.trans h2).trans h3).trans h4).trans h5).trans h6
    rw [show 6 * (N + 1) + 1 = 1 + (6 * N + 1 + (1 + (1 + (2 + 1)))) by omega]
    exact this
theorem go_p (N : Nat) : Goes (6 * N + 6) (cP N) (.inl (.num N)) := by
  have h0 : Goes 1 cOwn (.inl cF) := Goes.step rfl rfl (fun fs => rfl)
  have h1 := (h0.fr (f := .caller 9 cOwn) rfl).fr (f := .caller 8 (.num N)) rfl
  have h2 := (h0.fr (f := .given 9 cF) rfl).fr (f := .caller 8 (.num N)) rfl
  have h3 := (go_ff 9).fr (f := .caller 8 (.num N)) rfl
  have := (((h1.trans h2).trans h3).trans (go_g 8 N)).trans (go_n N)
  rw [show 6 * N + 6 = 6 * N + 1 + (1 + (2 + (1 + 1))) by omega]
  exact this
theorem nm_f : Nm "f" := ⟨by unfold Low; decide, by decide, by decide⟩
theorem nm_n : Nm "n" := ⟨by unfold Low; decide, by decide, by decide⟩
theorem p_pc {N : Int} (h : 0 ≤ N ∧ N < 10000) : pc (cP N) [] := by
  have ho : pc cOwn [] := by
    simp only [cOwn, cBody, cLess, pc, mkOk]
    refine ⟨by omega, nm_f, by omega, nm_n, by omega, by simp, by omega, by omega, by omega, by omega, ⟨by omega, by simp, by simp⟩, by omega, by simp, by omega⟩
  simp only [cP, pc, mkOk]
  exact ⟨by omega, ⟨by omega, ho, ho⟩, by omega⟩
theorem p_dp (N : Int) : (cP N).dp ≤ 28 ∧ (cP N).knots ≤ 300 := by
  simp [cP, cOwn, cBody, cLess, RP.dp, RP.knots]
theorem p_tell {N n : Nat} (h : 6 * N + 6 ≤ n) : tellR (lastS n (cP N)) = .tup [.str "number", .int N] := by
  rw [(go_p N).told (fun v hv => by cases hv; rfl) h]
  rfl
theorem run_count (k : Nat) (N : Int) (m : List SO) : run tb (k + 1) "_law_counting" [.int N] m = some (enc (cP N), m) := by
  rw [run_at tb__law_counting k rfl]
  simp [fn__law_counting, ex, ev, den, dst, M.bnd, M.ret, newT, sizeLine, fini, gc_same, cP, cOwn, cBody, cLess, enc]
def y (n : Nat) : Sm := nth n fn_law.body
def yend : Ex := match rst 6 fn_law.body with
  | .ret e => e
  | _ => .nil
theorem law_body : fn_law.body = .seq (y 0) (.seq (y 1) (.seq (y 2) (.seq (y 3) (.seq (y 4) (.seq (y 5) (.ret yend)))))) := rfl
theorem law_true [Mi.TabsC] (ns : List Int) (h : ns.length ≤ 63) : run tb 115 "law" [.fz (ns.map D.int)] [] = some (.bl true, []) := by
  have hcell : ∀ j Z, 0 ≤ j → run tb 114 "_law_cell_at" [.fz (ns.map .int), .int j] Z = some (.int (cell ns j), Z) := fun j Z hj => run_cell h hj
  have hmix : ∀ i Z, run tb 114 "_law_mixed" [.int i] Z = some (.int (mixed i), Z) := fun i Z => run_mixed i
  have hmany := run_many h
  obtain ⟨x, hx⟩ : ∃ x, x = mixed (cell ns 2) := ⟨_, rfl⟩
  obtain ⟨S, hS⟩ : ∃ S : D, S = .fz (ns.map D.int) := ⟨_, rfl⟩
  rw [← hS] at hcell hmany
  obtain ⟨N, hN⟩ : ∃ N : Nat, (N : Int) = 300 + x % 1100 := ⟨(300 + x % 1100).toNat, by omega⟩
  obtain ⟨W, hW⟩ : ∃ W : Nat, (W : Int) = 20 + x / 1100 % 100 := ⟨(20 + x / 1100 % 100).toNat, by omega⟩
  have hcN : ∀ Z, run tb 114 "_law_counting" [.int N] Z = some (enc (cP N), Z) := run_count 113 N
  have hcW : ∀ Z, run tb 114 "_law_counting" [.int W] Z = some (enc (cP W), Z) := run_count 113 W
  obtain ⟨d1, d2⟩ := p_dp (N : Int)
  obtain ⟨d3, d4⟩ := p_dp (W : Int)
  have q1 : pc (cP N) [] := p_pc (by omega)
  have q2 : pc (cP W) [] := p_pc (by omega)
  have w1 := fun Z => run_bym (k := 106) (f := 1000000) q1 (by omega) d2 (by omega) Z
  have w2 := fun Z => run_byplain (k := 113) (f := 1000000) q1 (by omega) d2 (by omega) (by omega) Z
  have w3 := fun Z => run_byp (k := 107) (f := 1000000) q2 d3 d4 (.first2 (q2.gd (by simp) (by omega)) d3) (by omega) (r := 1000) (by omega) (.inr (by
    rw [(go_p W).told (fun v hv => by cases hv; rfl) (by omega)]; rfl)) (by omega) Z
  rw [p_tell (by omega)] at w1 w2 w3
  have w1 : ∀ Z, run tb 114 "by_machine" [enc (cP N), .int 1000000] Z = some (.tup [.str "number", .int N], Z) := w1
  have w2 : ∀ Z, run tb 114 "by_plain" [enc (cP N), .int 1000000] Z = some (.tup [.str "number", .int N], Z) := w2
  have w3 : ∀ Z, run tb 114 "by_putting" [enc (cP W), .int 1000000] Z = some (.tup [.str "number", .int W], Z) := w3
  have eqn : ∀ (a : Int) Z, eqD 114 Z (.tup [.str "number", .int a]) (.tup [.str "number", .int a]) = some true := fun a Z => eqD_tell (.val (.num a))
  have hp : ∀ Z : List SO, binD .pow (.int 10) (.int 6) Z = some (.int 1000000, Z) := fun Z => by
    rw [bin_pow]
    · rfl
    · omega
  have e0 : (ex 114 (run tb 114) (y 0)).x [some S, none, none, none] [] = some ((.nx, [some S, some (.int x), none, none]), []) := by
    simp only [y, nth, fn_law, sq1]
    simp [ex, dst, ev, den, M.bnd, M.ret, hcell, hmix, hx]
  have e1 : (ex 114 (run tb 114) (y 1)).x [some S, some (.int x), none, none] [] = some ((.nx, [some S, some (.int x), none, none]), []) := by
    simp only [y, nth, fn_law, sq1, sq2]
    simp [ex, dst, ev, den, denB, M.bnd, M.ret, hmany, truthM, truth]
  have e2 : (ex 114 (run tb 114) (y 2)).x [some S, some (.int x), none, none] [] = some ((.nx, [some S, some (.int x), some (.int N), none]), []) := by
    simp only [y, nth, fn_law, sq1, sq2]
    simp [ex, dst, ev, den, M.bnd, M.ret, hN]
  have e3 : (ex 114 (run tb 114) (y 3)).x [some S, some (.int x), some (.int N), none] [] = some ((.nx, [some S, some (.int x), some (.int N), none]), []) := by
    simp only [y, nth, fn_law, sq1, sq2]
    simp [ex, dst, ev, den, denB, M.bnd, M.ret, hcN, hp, w1, newT, sizeLine, cmpM, cmpD, eqn]
  have e4 : (ex 114 (run tb 114) (y 4)).x [some S, some (.int x), some (.int N), none] [] = some ((.nx, [some S, some (.int x), some (.int N), some (.int W)]), []) := by
    simp only [y, nth, fn_law, sq1, sq2]
    simp [ex, dst, ev, den, M.bnd, M.ret, hW]
  have e5 : (ex 114 (run tb 114) (y 5)).x [some S, some (.int x), some (.int N), some (.int W)] [] = some ((.nx, [some S, some (.int x), some (.int N), some (.int W)]), []) := by
    simp only [y, nth, fn_law, sq1, sq2]
    simp [ex, dst, ev, den, denB, M.bnd, M.ret, hcN, hp, w2, newT, sizeLine, cmpM, cmpD, eqn]
  have e6 : (ev 114 (run tb 114) yend [some S, some (.int x), some (.int N), some (.int W)]).v [] = some (.bl true, []) := by
    simp only [yend, rst, fn_law, sq2]
    simp [ev, den, denB, M.bnd, M.ret, hcW, hp, w3, newT, sizeLine, cmpM, cmpD, eqn]
  rw [run_at tb_law 114 rfl, law_body, ← hS]
  show fini [] ((ex 114 (run tb 114) _).x [some S, none, none, none] []) = _
  rw [ex_seq e0, ex_seq e1, ex_seq e2, ex_seq e3, ex_seq e4, ex_seq e5, ex_ret e6]
  simp [fini, gc_same]
end K13
namespace Mi
open PySem PySem.Spec PyProof.Rows L2
variable [TabsC]

/-! ### constants, by looking -/
mutual
def rdB (K : PySem.W.Frag) : D → Value → Bool
  | .str x, u => match u with
    | .str y _ => x == y
    | _ => false
  | .int i, u => match u with
    | .int j _ => i == j
    | _ => false
  | .tup xs, u => match u with
    | .ref a => match K.lookup a with
      | some ⟨.type c, _, .seq its _, _⟩ => decide (c = "tuple") && (decide (its.size ≤ sizeLine) && rdsB K xs its.toList)
      | _ => false
    | _ => false
  | .non, _ => false
  | .bl _, _ => false
  | .loc _, _ => false
  | .dloc _, _ => false
  | .fz _, _ => false
  | .set0, _ => false
  | .fn _, _ => false
  | .nd _, _ => false
def rdsB (K : PySem.W.Frag) : List D → List Value → Bool
  | [], [] => true
  | x :: xs, u :: us => rdB K x u && rdsB K xs us
  | _, _ => false
end
mutual
theorem rdB_ok {K : PySem.W.Frag} : ∀ {d : D} {u : Value}, rdB K d u = true → ∃ v, RelV v u ∧ ∀ A H, RD K A H d v
  | .str x, u, h => by
    cases u with
    | str y t => exact ⟨.str x, ⟨t, by rw [eq_of_beq h]⟩, fun _ _ => rfl⟩
    | _ => cases h
  | .int i, u, h => by
    cases u with
    | int j t => exact ⟨.int i, ⟨t, by rw [eq_of_beq h]⟩, fun _ _ => rfl⟩
    | _ => cases h
  | .tup xs, u, h => by
    cases u with
    | ref a =>
      simp only [rdB] at h
      split at h
      · rename_i c od its n osl e
        rw [Bool.and_eq_true, Bool.and_eq_true] at h
        obtain ⟨h1, h2, h3⟩ := h
        obtain ⟨vs, k1, k2⟩ := rdsB_ok h3
        exact ⟨.ref a, rfl, fun A H => ⟨a, vs, rfl, .inr ⟨_, its, n, e, congrArg Value.type (of_decide_eq_true h1), rfl, of_decide_eq_true h2, k1⟩, k2 A H⟩⟩
      · cases h
    | _ => cases h
  | .non, u, h => by cases h
  | .bl _, u, h => by cases h
  | .loc _, u, h => by cases h
  | .fz _, u, h => by cases h
  | .dloc _, u, h => by cases h
  | .set0, u, h => by cases h
  | .fn _, u, h => by cases h
  | .nd _, u, h => by cases h
theorem rdsB_ok {K : PySem.W.Frag} : ∀ {ds : List D} {us : List Value}, rdsB K ds us = true → ∃ vs, Vals vs us ∧ ∀ A H, RDs K A H ds vs
  | [], us, h => by
    cases us with
    | nil => exact ⟨[], .nil, fun _ _ => rfl⟩
    | cons _ _ => cases h
  | x :: xs, us, h => by
    cases us with
    | nil => cases h
    | cons u us =>
      unfold rdsB at h
      rw [Bool.and_eq_true] at h
      obtain ⟨v, k1, k2⟩ := rdB_ok h.1
      obtain ⟨vs, k3, k4⟩ := rdsB_ok h.2
      exact ⟨v :: vs, .cons k1 k3, fun A H => ⟨v, vs, rfl, k2 A H, k4 A H⟩⟩
end
/-- a constant of the top, or a def as a value -/
def glB0 (K : PySem.W.Frag) (x : Str) (d : D) : Bool := match PySem.W.nsIn K mainGlobals x with
  | some (some u) => rdB K d u
  | _ => false
def glB (K : PySem.W.Frag) (x : Str) (d : D) : Bool := match d with
  | .fn y => x == y && (match PySem.W.nsIn K mainGlobals x with
    | some (some (.ref _)) => true
    | _ => false)
  | d => glB0 K x d
theorem glB0_ok {K : PySem.W.Frag} {h : Heap} {mg : Str → Option Value} {x : Str} {d : D} (X : K.In h) (G : h.Ns mainGlobals mg) (c : glB0 K x d = true) : ∃ u v, mg x = some u ∧ RelV v u ∧ ∀ A H, RD K A H d v := by
  unfold glB0 at c
  split at c
  · rename_i u e
    obtain ⟨v, h1, h2⟩ := rdB_ok c
    exact ⟨u, v, PySem.W.mg_of X G e, h1, h2⟩
  · cases c
theorem glB_ok {K : PySem.W.Frag} {h : Heap} {mg : Str → Option Value} {x : Str} {d : D} (X : K.In h) (G : h.Ns mainGlobals mg) (c : glB K x d = true) : ∃ u v, mg x = some u ∧ RelV v u ∧ ∀ A H, RD K A H d v := by
  unfold glB at c
  split at c
  · rename_i y
    rw [Bool.and_eq_true] at c
    obtain ⟨c1, c2⟩ := c
    have c1 : x = y := eq_of_beq c1
    subst c1
    split at c2
    · rename_i a e
      exact ⟨.ref a, .ref a, PySem.W.mg_of X G e, rfl, fun _ _ => ⟨a, rfl, e⟩⟩
    · cases c2
  · exact glB0_ok X G c
end Mi
namespace Mi
open PySem PySem.Spec PyProof.Rows L2
section
variable [TabsC]
/-- a dict's entries, one by one -/
def entsB (K : PySem.W.Frag) : List (Str × D) → List DictEntry → Bool
  | [], [] => true
  | p :: ps, e :: es => (match e.key with
    | .str x _ => x == p.1 && rdB K p.2 e.val
    | _ => false) && entsB K ps es
  | _, _ => false
theorem entsB_ok {K : PySem.W.Frag} : ∀ {kvs : List (Str × D)} {es : List DictEntry}, entsB K kvs es = true → Paired (fun (p : Str × D) (e : DictEntry) => (∃ t, e.key = .str p.1 t) ∧ ∃ v, RelV v e.val ∧ ∀ A H, RD K A H p.2 v) kvs es
  | [], es, h => by
    cases es with
    | nil => exact .nil
    | cons _ _ => cases h
  | p :: ps, es, h => by
    cases es with
    | nil => cases h
    | cons e es =>
      unfold entsB at h
      rw [Bool.and_eq_true] at h
      obtain ⟨h1, h2⟩ := h
      split at h1
      · rename_i x t hk
        rw [Bool.and_eq_true] at h1
        refine .cons ⟨⟨t, ?_⟩, rdB_ok h1.2⟩ (entsB_ok h2)
        rw [hk, eq_of_beq h1.1]
      · cases h1
def gdB (K : PySem.W.Frag) (x : Str) (kvs : List (Str × D)) : Bool := He.eqO (PySem.W.nsIn K mainGlobals x) (some (some (.ref (He.ga K x)))) && (match K.lookup (He.ga K x) with
  | some ⟨_, _, .dict es _, _⟩ => entsB K kvs es.toList
  | _ => false)
theorem gdB_ok {K : PySem.W.Frag} {w : World} {h : Heap} {mg : Str → Option Value} {x : Str} {kvs : List (Str × D)} (X : K.In h) (G : h.Ns mainGlobals mg) (c : gdB K x kvs = true) (k : ∃ es n, KDict K w (He.ga K x) es n) :
    ∃ a, mg x = some (.ref a) ∧ WDict K w a kvs := by
  unfold gdB at c
  rw [Bool.and_eq_true] at c
  obtain ⟨es, n, k⟩ := k
  have c2 := c.2
  rw [k.at_] at c2
  exact ⟨_, PySem.W.mg_of X G (He.eqO_ok c.1), wdict_mk k.at_ k.lit k.low (entsB_ok c2)⟩
end
/-- the constants of the top by looking -/
def exB (gl : List (Str × D)) (gd : List (Str × List (Str × D))) (K : PySem.W.Frag) : Bool := (gl.all fun p => glB K p.1 p.2) && gd.all fun p => gdB K p.1 p.2
def tsOf (gd : List (Str × List (Str × D))) : List He.Tab := gd.map fun p => (fun K => He.ga K p.1, p.2.map (·.1))
/-- a def of the head -/
def dfd (at_ nm : Str) (st : Stmt) : He.DefD := ⟨(at_, none), nm, nm, defArgs st, defBody st, defScope st, [], []⟩
def faOf (blt : List Str) (fns : List Str) : List He.Fa := (blt.map He.Fa.free) ++ fns.map He.Fa.glo
theorem top_of {S : Sx} {tb : Str → Option Fn} {w : World} {K : PySem.W.Frag} {h : Heap} {mg : Str → Option Value} {fn : List He.DefD} {tf : List He.Defn} (X : K.In h) (G : h.Ns mainGlobals mg)
    (Y : He.SaysX (faOf S.blt S.fns) fn (tsOf S.gd) tf (exB S.gl S.gd) w h K) (hd : ∀ f ∈ S.fns, @DefOk ⟨tf.map (He.cT K), w⟩ S tb K mg f) (hns : ∀ f ∈ S.nfns, f ∈ S.fns) : @Top ⟨tf.map (He.cT K), w⟩ S tb w K mg := by
  letI : TabsC := ⟨tf.map (He.cT K), w⟩
  have e := Y.more
  unfold exB at e
  rw [Bool.and_eq_true, List.all_eq_true, List.all_eq_true] at e
  refine ⟨fun x hx => ?_, fun p hp => glB_ok X G (e.1 p hp), fun p hp => ?_, hd, hns⟩
  · exact He.free_ok X G (Y.t.d.facts (List.mem_append.mpr (.inl (List.mem_map.mpr ⟨x, hx, rfl⟩))))
  · refine gdB_ok X G (e.2 p hp) ?_
    obtain ⟨i, hi, q⟩ := List.mem_iff_getElem.mp hp
    have := Y.t.tab (ts := tsOf S.gd) i (t := (fun K => He.ga K p.1, p.2.map (·.1))) (by unfold tsOf; rw [List.getElem?_map, List.getElem?_eq_getElem hi, q]; rfl)
    exact this
/-- a def by its place in the head -/
theorem def_of {S : Sx} {tb : Str → Option Fn} {w : World} {K : PySem.W.Frag} {h : Heap} {mg : Str → Option Value} {fn : List He.DefD} {tf : List He.Defn} {ts : List He.Tab} {ex : PySem.W.Frag → Bool} (X : K.In h) (G : h.Ns mainGlobals mg)
    (Y : He.SaysX (faOf S.blt S.fns) fn ts tf ex w h K) {f q : Str} {st : Stmt} {n : Fn} (hf : f ∈ S.fns) (hd : dfd f q st ∈ fn) (ht : tb f = some n) (sc : FnScope n.N n.ps (defScope st))
    (hb : ∀ (kV doc pm : Value) (an : Option Addr) (cdv ct : Value) (us : List Value), us.length = n.ps.length → bindArgs (PySem.W.fnOf q q (defArgs st) (defBody st) (defScope st) .none kV doc pm an cdv ct) ⟨us, []⟩ = pure (n.ps.zip us))
    (hc : (chkS (sxOf S n) n.N true (defScope st).names n.body).b (defBody st) = true) (hg : n.gen = true → (f, none) ∈ tf) : @DefOk ⟨tf.map (He.cT K), w⟩ S tb K mg f := by
  obtain ⟨fd, F⟩ := Y.t.d.defs hd
  have F' : FunD K q q (defArgs st) (defBody st) (defScope st) [] [] (He.fAd K (f, none)) fd := F
  have g := He.glo_ok X G (x := f) (Y.t.d.facts (List.mem_append.mpr (.inr (List.mem_map.mpr ⟨f, hf, rfl⟩))))
  have b : Binds K fd n.ps [] := FunD.bindsN F' hb
  refine @defOk_D ⟨tf.map (He.cT K), w⟩ _ _ _ _ _ _ _ _ _ _ ht g F' sc b hc fun z => ?_
  refine ⟨He.cT K (f, none), List.mem_map.mpr ⟨_, hg z, rfl⟩, ?_⟩
  obtain ⟨oc, od, dV, kV, doc, pm, an, cdv, ct, osl, e, l, c, _, _⟩ := F'.ex
  obtain ⟨cc, ec⟩ := He.codeIn_ref c
  have : fd.code = .ref cc := by rw [e]; exact ec
  rw [this]
  congr 1
  exact (He.codeOf_eq (p := (f, none)) l this).symm
/-- the law's own def at the end -/
theorem lawAt_of {l : PySem.W.OpenLaw} {S : Sx} {tb : Str → Option Fn} {w : World} {K : PySem.W.Frag} {h : Heap} {mg : Str → Option Value} {fn : List He.DefD} {tf : List He.Defn} (X : K.In h) (G : h.Ns mainGlobals mg)
    (Y : He.SaysX (faOf S.blt S.fns) fn (tsOf S.gd) tf (exB S.gl S.gd) w h K) (DD : ∀ f ∈ S.fns, @DefOk ⟨tf.map (He.cT K), w⟩ S tb K mg f) {fa : Addr} {k m : Nat} {x : Str} {st : Stmt} {n : Fn} (hf : ("law" : Str) ∈ S.fns) (hd : dfd "law" "law" st ∈ fn) (ht : tb "law" = some n) (sc : FnScope n.N n.ps (defScope st))
    (hb : ∀ (kV doc pm : Value) (an : Option Addr) (cdv ct : Value) (us : List Value), us.length = n.ps.length → bindArgs (PySem.W.fnOf "law" "law" (defArgs st) (defBody st) (defScope st) .none kV doc pm an cdv ct) ⟨us, []⟩ = pure (n.ps.zip us))
    (hc : (chkS (sxOf S n) n.N true (defScope st).names n.body).b (defBody st) = true) (hg : n.gen = false) (hp : n.ps = [x]) (hmg : mg "law" = some (.ref fa))
    (tr : ∀ (C : TabsC) (ns : List Int), ns.length ≤ m → (∀ z ∈ ns, Builtin.Int.intBits z ≤ 1048576) → run tb (k + 1) "law" [.fz (ns.map D.int)] [] = some (.bl true, [])) (hnn : n.nn = false := by rfl) (hnf : ∀ f ∈ S.nfns, f ∈ S.fns := by decide) : LamX.LawAtS l w K CX0 (2 * (k + 1)) m x mg fa h := by
  obtain ⟨fd, F⟩ := Y.t.d.defs hd
  have F' : FunD K "law" "law" (defArgs st) (defBody st) (defScope st) [] [] (He.fAd K ("law", none)) fd := F
  have g := He.glo_ok X G (x := "law") (Y.t.d.facts (List.mem_append.mpr (.inr (List.mem_map.mpr ⟨"law", hf, rfl⟩))))
  have e : He.fAd K ("law", none) = fa := by
    have := hmg.symm.trans g
    injection this with q
    injection q with q
    exact q.symm
  letI : TabsC := ⟨tf.map (He.cT K), w⟩
  have b : ∀ (s : Shared) (us : List Value), us.length = n.ps.length → BindsTo s fd ⟨us, []⟩ (n.ps.zip us) := FunD.bindsA (ps := n.ps) F' hb
  have cs2 : ∀ {P : Addr × Addr → Prop}, (∀ p ∈ tf, P (He.cT K p)) → ∀ p ∈ tf.map (He.cT K), P p := fun z p hp => by
    obtain ⟨q, hq, rfl⟩ := List.mem_map.mp hp
    exact z q hq
  refine ⟨fd, tf.map (He.cT K), spD K (run tb (k + 1) "law"), cs2 Y.empty, cs2 Y.out, cs2 (P := fun p => PySem.W.CodeHd h p.1 p.2) fun p hp => PySem.W.codeHd_of_K X (Y.hd p hp), fun s v => ?_, fun H a ns hl hbt hH hS => ?_, fun base hK hns hTB => ?_⟩
  · have := b s [v] (by rw [hp]; rfl)
    rw [hp] at this
    exact this
  · refine law_sp _ (fun p hp => ⟨#[], hH p hp, ?_⟩) hS (tr ⟨tf.map (He.cT K), w⟩ ns hl hbt)
    exact trivial
  · have T := top_of X G Y DD hnf
    have hTB' : ∀ p ∈ TabsC.C, GxR.TabB base mg p.1 p.2 := fun p hp => ⟨(hTB p hp).code, (hTB p hp).bm, (hTB p hp).gP⟩
    rw [← hp]
    subst e
    exact ok_at T (all_ok T hTB' rfl k) ht (.ofD F') sc hc (fun z => by rw [hg] at z; cases z) hTB' rfl hnn

/-! ### the written part of k_head, empty tables left out -/
def cutT (K : PySem.W.Frag) : PySem.W.Frag := K.filter fun q => !He.emptyTab q.2
def ascB : List Nat → Bool
  | a :: b :: r => Nat.blt a b && ascB (b :: r)
  | _ => true
theorem ascB_lt : ∀ {l : List Nat} {a : Nat}, ascB (a :: l) = true → ∀ b ∈ l, a < b
  | [], _, _, b, h => by cases h
  | c :: r, a, h, b, hb => by
    have h' : (Nat.blt a c && ascB (c :: r)) = true := h
    rw [Bool.and_eq_true] at h'
    have h1 : a < c := Nat.le_of_ble_eq_true h'.1
    rcases List.mem_cons.mp hb with rfl | hb
    · exact h1
    · exact Nat.lt_trans h1 (ascB_lt h'.2 b hb)
theorem lookup_asc {a : Addr} {o : Obj} : ∀ {K : List (Addr × Obj)}, ascB (K.map (·.1)) = true → (a, o) ∈ K → K.lookup a = some o
  | [], _, h => by cases h
  | (b, u) :: r, hn, h => by
    rw [List.lookup_cons]
    rcases List.mem_cons.mp h with h | h
    · cases h
      rw [beq_self_eq_true]
    · have hlt := ascB_lt hn a (List.mem_map.mpr ⟨_, h, rfl⟩)
      have hb : (a == b) = false := beq_eq_false_iff_ne.mpr fun e => Nat.lt_irrefl b (e ▸ hlt)
      rw [hb]
      refine lookup_asc ?_ h
      cases r with
      | nil => rfl
      | cons c r =>
        have h' : (Nat.blt b c.1 && ascB ((c :: r).map (·.1))) = true := hn
        rw [Bool.and_eq_true] at h'
        exact h'.2
theorem cutT_in {K : PySem.W.Frag} {h : Heap} (hn : ascB (K.map (·.1)) = true) (X : K.In h) : (cutT K).In h := fun a o e => by
  obtain ⟨h1, _⟩ := List.mem_filter.mp (He.lookup_mem e)
  exact X a o (lookup_asc hn h1)
def obsK (fa : List He.Fa) (fn : List He.DefD) (ts : List He.Tab) (tf : List He.Defn) (ex : PySem.W.Frag → Bool) (K0 : PySem.W.Frag) : He.AlX :=
  (He.obsT fa fn ts (cutT K0), ascB (K0.map (·.1)) && (ex (cutT K0) && tf.all fun p => PySem.W.codeHdIn (cutT K0) (He.cT (cutT K0) p).1 (He.cT (cutT K0) p).2 && ((match (cutT K0).lookup (He.cT (cutT K0) p).2 with
    | some _ => false
    | none => true) && (match K0.lookup (He.cT (cutT K0) p).2 with
    | some o => He.emptyTab o
    | none => false))))
theorem saysK {fa : List He.Fa} {fn : List He.DefD} {ts : List He.Tab} {tf : List He.Defn} {ex : PySem.W.Frag → Bool} {w : World} {h : Heap} {K0 : PySem.W.Frag} (X : K0.In h) (e : obsK fa fn ts tf ex K0 = He.valX fn ts w) :
    (cutT K0).In h ∧ He.SaysX fa fn ts tf ex w h (cutT K0) := by
  have e1 : He.obsT fa fn ts (cutT K0) = He.valT fn ts w := congrArg (fun z : He.AlX => z.1) e
  have e2 := congrArg (fun z : He.AlX => z.2) e
  simp only [obsK, He.valX, Bool.and_eq_true, List.all_eq_true] at e2
  obtain ⟨e3, e4, e5⟩ := e2
  refine ⟨cutT_in e3 X, ⟨e1, e4, fun p hp => (e5 p hp).1, fun p hp => ?_, fun p hp => ?_⟩⟩
  · have := (e5 p hp).2.1
    split at this
    · cases this
    · assumption
  · have := (e5 p hp).2.2
    split at this
    · rename_i o q
      rw [X _ _ q, He.emptyTab_eq this]
    · cases this
theorem walk_end {l : PySem.W.OpenLaw} {n k : Nat} {q : Program} {loose : List Str} {XP : (Str → Option Value) → Heap → Prop} {YP : World → Heap → Prop} {d : DefRec} {x : Str} {K0 : Params → PySem.W.Frag}
    {fa : List He.Fa} {fn : List He.DefD} {ts : List He.Tab} {tf : List He.Defn} {ex : PySem.W.Frag → Bool}
    (hn : l.most = some n) (hn2 : n ≤ sizeLine) (hdf : d.params.defaults = []) (hr : Room k callerA) (hY : ∀ (w : World) (h : Heap), YP w h → (K0 w.params).In h) (hd : d.name = "law")
    (e : ∀ w : World, obsK fa fn ts tf ex (K0 w.params) = He.valX fn ts w)
    (F : ∀ {w : World} {K : PySem.W.Frag} {h : Heap} {mg : Str → Option Value}, K.In h → h.Ns mainGlobals mg → He.SaysX fa fn ts tf ex w h K → ∀ {f : Addr}, mg "law" = some (.ref f) → LamX.LawAtS l w K CX0 k n x mg f h) :
    PySem.W.WalkO q loose XP YP l.row.toRowW d [] (fun f vs => PySem.call f vs) := by
  refine LamX.walk_ofTsE (l := l) (n := n) (k := k) (x := x) (CX := fun _ => CX0) hn hn2 hdf hr ?_ (fun _ _ _ _ _ z => z)
  intro w mg f h Y G hmg
  obtain ⟨h1, h2⟩ := saysK (hY w h Y) (e w)
  rw [hd] at hmg
  exact ⟨cutT (K0 w.params), h1, F h1 G h2 hmg⟩
end Mi
namespace K13
open PySem PySem.Spec PyProof.Rows L2 Mi
def fnl : List He.DefD := [dfd "is_piece" "is_piece" (topS 12), dfd "is_closed" "is_closed" (topS 13), dfd "free_names" "free_names" (topS 14), dfd "parts_of" "parts_of" (topS 15), dfd "is_knot" "is_knot" (topS 16), dfd "fits" "fits" (topS 17), dfd "is_whole" "is_whole" (topS 18), dfd "is_name" "is_name" (topS 19), dfd "check_piece" "check_piece" (topS 22), dfd "check_fuel" "check_fuel" (topS 23), dfd "check_both" "check_both" (topS 24), dfd "put_in" "put_in" (topS 27), dfd "stepped" "stepped" (topS 28), dfd "by_putting" "by_putting" (topS 29), dfd "outcome" "outcome" (topS 30), dfd "is_value_putting" "is_value" (topS 31), dfd "is_done" "is_done" (topS 33), dfd "is_stuck" "is_stuck" (topS 34), dfd "found" "found" (topS 35), dfd "entered_putting" "entered" (topS 36), dfd "filled" "filled" (topS 38), dfd "surrounded" "surrounded" (topS 39), dfd "changed" "changed" (topS 40), dfd "called_putting" "called" (topS 41), dfd "taken_putting" "taken" (topS 43), dfd "by_machine" "by_machine" (topS 46), dfd "first" "first" (topS 47), dfd "holding" "holding" (topS 48), dfd "number" "number" (topS 49), dfd "meaning" "meaning" (topS 50), dfd "told_machine" "told" (topS 51), dfd "is_value_machine" "is_value" (topS 53), dfd "is_number_machine" "is_number" (topS 55), dfd "moved" "moved" (topS 57), dfd "entered_machine" "entered" (topS 58), dfd "taken_machine" "taken" (topS 60), dfd "returned" "returned" (topS 62), dfd "called_machine" "called" (topS 63), dfd "plain" "plain" (topS 69), dfd "term_of" "term_of" (topS 70), dfd "function_of" "function_of" (topS 71), dfd "kept_of" "kept_of" (topS 72), dfd "behind_round" "behind_round" (topS 73), dfd "in_turn" "in_turn" (topS 74), dfd "picking" "picking" (topS 75), dfd "run_plain" "run_plain" (topS 80), dfd "by_plain" "by_plain" (topS 81), dfd "told_running" "told" (topS 82), dfd "meant" "meant" (topS 84), dfd "is_number_running" "is_number" (topS 85), dfd "followed" "followed" (topS 87), dfd "passed" "passed" (topS 88), dfd "left" "left" (topS 89), dfd "given" "given" (topS 90), dfd "called_running" "called" (topS 91), dfd "added" "added" (topS 93), dfd "picked" "picked" (topS 94), dfd "_law_cell_at" "_law_cell_at" (topS 96), dfd "_law_mixed" "_law_mixed" (topS 97), dfd "_law_frame_by" "_law_frame_by" (topS 98), dfd "_law_about" "_law_about" (topS 99), dfd "_law_in" "_law_in" (topS 100), dfd "_law_same" "_law_same" (topS 101), dfd "_law_goes" "_law_goes" (topS 102), dfd "_law_many_frames" "_law_many_frames" (topS 103), dfd "_law_counting" "_law_counting" (topS 104), dfd "law" "law" (topS 105)]
def tfl : List He.Defn := [("is_knot", none), ("is_name", none), ("is_stuck", none)]
section
variable {w : World} {K : PySem.W.Frag} {h : Heap} {mg : Str → Option Value} (X : K.In h) (G : h.Ns mainGlobals mg) (Y : He.SaysX (faOf sx.blt sx.fns) fnl (tsOf sx.gd) tfl (exB sx.gl sx.gd) w h K)
include X G Y in
theorem dd_is_piece : @DefOk ⟨tfl.map (He.cT K), w⟩ sx tb K mg "is_piece" :=
  def_of X G Y (List.mem_of_getElem? (i := 0) rfl) (List.mem_of_getElem? (i := 0) rfl) tb_is_piece sc_is_piece (fun _ _ _ _ _ _ us hl => match us, hl with | [_], _ => rfl) ck_is_piece (fun h => by cases h)
include X G Y in
theorem dd_is_closed : @DefOk ⟨tfl.map (He.cT K), w⟩ sx tb K mg "is_closed" :=
  def_of X G Y (List.mem_of_getElem? (i := 1) rfl) (List.mem_of_getElem? (i := 1) rfl) tb_is_closed sc_is_closed (fun _ _ _ _ _ _ us hl => match us, hl with | [_], _ => rfl) ck_is_closed (fun h => by cases h)
include X G Y in
theorem dd_free_names : @DefOk ⟨tfl.map (He.cT K), w⟩ sx tb K mg "free_names" :=
  def_of X G Y (List.mem_of_getElem? (i := 2) rfl) (List.mem_of_getElem? (i := 2) rfl) tb_free_names sc_free_names (fun _ _ _ _ _ _ us hl => match us, hl with | [_], _ => rfl) ck_free_names (fun h => by cases h)
include X G Y in
theorem dd_parts_of : @DefOk ⟨tfl.map (He.cT K), w⟩ sx tb K mg "parts_of" :=
  def_of X G Y (List.mem_of_getElem? (i := 3) rfl) (List.mem_of_getElem? (i := 3) rfl) tb_parts_of sc_parts_of (fun _ _ _ _ _ _ us hl => match us, hl with | [_], _ => rfl) ck_parts_of (fun h => by cases h)
include X G Y in
theorem dd_is_knot : @DefOk ⟨tfl.map (He.cT K), w⟩ sx tb K mg "is_knot" :=
  def_of X G Y (List.mem_of_getElem? (i := 4) rfl) (List.mem_of_getElem? (i := 4) rfl) tb_is_knot sc_is_knot (fun _ _ _ _ _ _ us hl => match us, hl with | [_], _ => rfl) ck_is_knot (fun _ => List.mem_of_getElem? (i := 0) rfl)
include X G Y in
theorem dd_fits : @DefOk ⟨tfl.map (He.cT K), w⟩ sx tb K mg "fits" :=
  def_of X G Y (List.mem_of_getElem? (i := 5) rfl) (List.mem_of_getElem? (i := 5) rfl) tb_fits sc_fits (fun _ _ _ _ _ _ us hl => match us, hl with | [_, _], _ => rfl) ck_fits (fun h => by cases h)
include X G Y in
theorem dd_is_whole : @DefOk ⟨tfl.map (He.cT K), w⟩ sx tb K mg "is_whole" :=
  def_of X G Y (List.mem_of_getElem? (i := 6) rfl) (List.mem_of_getElem? (i := 6) rfl) tb_is_whole sc_is_whole (fun _ _ _ _ _ _ us hl => match us, hl with | [_], _ => rfl) ck_is_whole (fun h => by cases h)
include X G Y in
theorem dd_is_name : @DefOk ⟨tfl.map (He.cT K), w⟩ sx tb K mg "is_name" :=
  def_of X G Y (List.mem_of_getElem? (i := 7) rfl) (List.mem_of_getElem? (i := 7) rfl) tb_is_name sc_is_name (fun _ _ _ _ _ _ us hl => match us, hl with | [_], _ => rfl) ck_is_name (fun _ => List.mem_of_getElem? (i := 1) rfl)
include X G Y in
theorem dd_check_piece : @DefOk ⟨tfl.map (He.cT K), w⟩ sx tb K mg "check_piece" :=
  def_of X G Y (List.mem_of_getElem? (i := 8) rfl) (List.mem_of_getElem? (i := 8) rfl) tb_check_piece sc_check_piece (fun _ _ _ _ _ _ us hl => match us, hl with | [_], _ => rfl) ck_check_piece (fun h => by cases h)
include X G Y in
theorem dd_check_fuel : @DefOk ⟨tfl.map (He.cT K), w⟩ sx tb K mg "check_fuel" :=
  def_of X G Y (List.mem_of_getElem? (i := 9) rfl) (List.mem_of_getElem? (i := 9) rfl) tb_check_fuel sc_check_fuel (fun _ _ _ _ _ _ us hl => match us, hl with | [_], _ => rfl) ck_check_fuel (fun h => by cases h)
include X G Y in
theorem dd_check_both : @DefOk ⟨tfl.map (He.cT K), w⟩ sx tb K mg "check_both" :=
  def_of X G Y (List.mem_of_getElem? (i := 10) rfl) (List.mem_of_getElem? (i := 10) rfl) tb_check_both sc_check_both (fun _ _ _ _ _ _ us hl => match us, hl with | [_, _], _ => rfl) ck_check_both (fun h => by cases h)
include X G Y in
theorem dd_put_in : @DefOk ⟨tfl.map (He.cT K), w⟩ sx tb K mg "put_in" :=
  def_of X G Y (List.mem_of_getElem? (i := 11) rfl) (List.mem_of_getElem? (i := 11) rfl) tb_put_in sc_put_in (fun _ _ _ _ _ _ us hl => match us, hl with | [_, _, _], _ => rfl) ck_put_in (fun h => by cases h)
include X G Y in
theorem dd_stepped : @DefOk ⟨tfl.map (He.cT K), w⟩ sx tb K mg "stepped" :=
  def_of X G Y (List.mem_of_getElem? (i := 12) rfl) (List.mem_of_getElem? (i := 12) rfl) tb_stepped sc_stepped (fun _ _ _ _ _ _ us hl => match us, hl with | [_], _ => rfl) ck_stepped (fun h => by cases h)
include X G Y in
theorem dd_by_putting : @DefOk ⟨tfl.map (He.cT K), w⟩ sx tb K mg "by_putting" :=
  def_of X G Y (List.mem_of_getElem? (i := 13) rfl) (List.mem_of_getElem? (i := 13) rfl) tb_by_putting sc_by_putting (fun _ _ _ _ _ _ us hl => match us, hl with | [_, _], _ => rfl) ck_by_putting (fun h => by cases h)
include X G Y in
theorem dd_outcome : @DefOk ⟨tfl.map (He.cT K), w⟩ sx tb K mg "outcome" :=
  def_of X G Y (List.mem_of_getElem? (i := 14) rfl) (List.mem_of_getElem? (i := 14) rfl) tb_outcome sc_outcome (fun _ _ _ _ _ _ us hl => match us, hl with | [_], _ => rfl) ck_outcome (fun h => by cases h)
include X G Y in
theorem dd_is_value_putting : @DefOk ⟨tfl.map (He.cT K), w⟩ sx tb K mg "is_value_putting" :=
  def_of X G Y (List.mem_of_getElem? (i := 15) rfl) (List.mem_of_getElem? (i := 15) rfl) tb_is_value_putting sc_is_value_putting (fun _ _ _ _ _ _ us hl => match us, hl with | [_], _ => rfl) ck_is_value_putting (fun h => by cases h)
include X G Y in
theorem dd_is_done : @DefOk ⟨tfl.map (He.cT K), w⟩ sx tb K mg "is_done" :=
  def_of X G Y (List.mem_of_getElem? (i := 16) rfl) (List.mem_of_getElem? (i := 16) rfl) tb_is_done sc_is_done (fun _ _ _ _ _ _ us hl => match us, hl with | [_, _], _ => rfl) ck_is_done (fun h => by cases h)
include X G Y in
theorem dd_is_stuck : @DefOk ⟨tfl.map (He.cT K), w⟩ sx tb K mg "is_stuck" :=
  def_of X G Y (List.mem_of_getElem? (i := 17) rfl) (List.mem_of_getElem? (i := 17) rfl) tb_is_stuck sc_is_stuck (fun _ _ _ _ _ _ us hl => match us, hl with | [_, _], _ => rfl) ck_is_stuck (fun _ => List.mem_of_getElem? (i := 2) rfl)
include X G Y in
theorem dd_found : @DefOk ⟨tfl.map (He.cT K), w⟩ sx tb K mg "found" :=
  def_of X G Y (List.mem_of_getElem? (i := 18) rfl) (List.mem_of_getElem? (i := 18) rfl) tb_found sc_found (fun _ _ _ _ _ _ us hl => match us, hl with | [_, _], _ => rfl) ck_found (fun h => by cases h)
include X G Y in
theorem dd_entered_putting : @DefOk ⟨tfl.map (He.cT K), w⟩ sx tb K mg "entered_putting" :=
  def_of X G Y (List.mem_of_getElem? (i := 19) rfl) (List.mem_of_getElem? (i := 19) rfl) tb_entered_putting sc_entered_putting (fun _ _ _ _ _ _ us hl => match us, hl with | [_], _ => rfl) ck_entered_putting (fun h => by cases h)
include X G Y in
theorem dd_filled : @DefOk ⟨tfl.map (He.cT K), w⟩ sx tb K mg "filled" :=
  def_of X G Y (List.mem_of_getElem? (i := 20) rfl) (List.mem_of_getElem? (i := 20) rfl) tb_filled sc_filled (fun _ _ _ _ _ _ us hl => match us, hl with | [_, _], _ => rfl) ck_filled (fun h => by cases h)
include X G Y in
theorem dd_surrounded : @DefOk ⟨tfl.map (He.cT K), w⟩ sx tb K mg "surrounded" :=
  def_of X G Y (List.mem_of_getElem? (i := 21) rfl) (List.mem_of_getElem? (i := 21) rfl) tb_surrounded sc_surrounded (fun _ _ _ _ _ _ us hl => match us, hl with | [_, _], _ => rfl) ck_surrounded (fun h => by cases h)
include X G Y in
theorem dd_changed : @DefOk ⟨tfl.map (He.cT K), w⟩ sx tb K mg "changed" :=
  def_of X G Y (List.mem_of_getElem? (i := 22) rfl) (List.mem_of_getElem? (i := 22) rfl) tb_changed sc_changed (fun _ _ _ _ _ _ us hl => match us, hl with | [_, _], _ => rfl) ck_changed (fun h => by cases h)
include X G Y in
theorem dd_called_putting : @DefOk ⟨tfl.map (He.cT K), w⟩ sx tb K mg "called_putting" :=
  def_of X G Y (List.mem_of_getElem? (i := 23) rfl) (List.mem_of_getElem? (i := 23) rfl) tb_called_putting sc_called_putting (fun _ _ _ _ _ _ us hl => match us, hl with | [_, _, _], _ => rfl) ck_called_putting (fun h => by cases h)
include X G Y in
theorem dd_taken_putting : @DefOk ⟨tfl.map (He.cT K), w⟩ sx tb K mg "taken_putting" :=
  def_of X G Y (List.mem_of_getElem? (i := 24) rfl) (List.mem_of_getElem? (i := 24) rfl) tb_taken_putting sc_taken_putting (fun _ _ _ _ _ _ us hl => match us, hl with | [_, _], _ => rfl) ck_taken_putting (fun h => by cases h)
include X G Y in
theorem dd_by_machine : @DefOk ⟨tfl.map (He.cT K), w⟩ sx tb K mg "by_machine" :=
  def_of X G Y (List.mem_of_getElem? (i := 25) rfl) (List.mem_of_getElem? (i := 25) rfl) tb_by_machine sc_by_machine (fun _ _ _ _ _ _ us hl => match us, hl with | [_, _], _ => rfl) ck_by_machine (fun h => by cases h)
include X G Y in
theorem dd_first : @DefOk ⟨tfl.map (He.cT K), w⟩ sx tb K mg "first" :=
  def_of X G Y (List.mem_of_getElem? (i := 26) rfl) (List.mem_of_getElem? (i := 26) rfl) tb_first sc_first (fun _ _ _ _ _ _ us hl => match us, hl with | [_], _ => rfl) ck_first (fun h => by cases h)
include X G Y in
theorem dd_holding : @DefOk ⟨tfl.map (He.cT K), w⟩ sx tb K mg "holding" :=
  def_of X G Y (List.mem_of_getElem? (i := 27) rfl) (List.mem_of_getElem? (i := 27) rfl) tb_holding sc_holding (fun _ _ _ _ _ _ us hl => match us, hl with | [_, _], _ => rfl) ck_holding (fun h => by cases h)
include X G Y in
theorem dd_number : @DefOk ⟨tfl.map (He.cT K), w⟩ sx tb K mg "number" :=
  def_of X G Y (List.mem_of_getElem? (i := 28) rfl) (List.mem_of_getElem? (i := 28) rfl) tb_number sc_number (fun _ _ _ _ _ _ us hl => match us, hl with | [_], _ => rfl) ck_number (fun h => by cases h)
include X G Y in
theorem dd_meaning : @DefOk ⟨tfl.map (He.cT K), w⟩ sx tb K mg "meaning" :=
  def_of X G Y (List.mem_of_getElem? (i := 29) rfl) (List.mem_of_getElem? (i := 29) rfl) tb_meaning sc_meaning (fun _ _ _ _ _ _ us hl => match us, hl with | [_, _], _ => rfl) ck_meaning (fun h => by cases h)
include X G Y in
theorem dd_told_machine : @DefOk ⟨tfl.map (He.cT K), w⟩ sx tb K mg "told_machine" :=
  def_of X G Y (List.mem_of_getElem? (i := 30) rfl) (List.mem_of_getElem? (i := 30) rfl) tb_told_machine sc_told_machine (fun _ _ _ _ _ _ us hl => match us, hl with | [_], _ => rfl) ck_told_machine (fun h => by cases h)
include X G Y in
theorem dd_is_value_machine : @DefOk ⟨tfl.map (He.cT K), w⟩ sx tb K mg "is_value_machine" :=
  def_of X G Y (List.mem_of_getElem? (i := 31) rfl) (List.mem_of_getElem? (i := 31) rfl) tb_is_value_machine sc_is_value_machine (fun _ _ _ _ _ _ us hl => match us, hl with | [_], _ => rfl) ck_is_value_machine (fun h => by cases h)
include X G Y in
theorem dd_is_number_machine : @DefOk ⟨tfl.map (He.cT K), w⟩ sx tb K mg "is_number_machine" :=
  def_of X G Y (List.mem_of_getElem? (i := 32) rfl) (List.mem_of_getElem? (i := 32) rfl) tb_is_number_machine sc_is_number_machine (fun _ _ _ _ _ _ us hl => match us, hl with | [_], _ => rfl) ck_is_number_machine (fun h => by cases h)
include X G Y in
theorem dd_moved : @DefOk ⟨tfl.map (He.cT K), w⟩ sx tb K mg "moved" :=
  def_of X G Y (List.mem_of_getElem? (i := 33) rfl) (List.mem_of_getElem? (i := 33) rfl) tb_moved sc_moved (fun _ _ _ _ _ _ us hl => match us, hl with | [_], _ => rfl) ck_moved (fun h => by cases h)
include X G Y in
theorem dd_entered_machine : @DefOk ⟨tfl.map (He.cT K), w⟩ sx tb K mg "entered_machine" :=
  def_of X G Y (List.mem_of_getElem? (i := 34) rfl) (List.mem_of_getElem? (i := 34) rfl) tb_entered_machine sc_entered_machine (fun _ _ _ _ _ _ us hl => match us, hl with | [_], _ => rfl) ck_entered_machine (fun h => by cases h)
include X G Y in
theorem dd_taken_machine : @DefOk ⟨tfl.map (He.cT K), w⟩ sx tb K mg "taken_machine" :=
  def_of X G Y (List.mem_of_getElem? (i := 35) rfl) (List.mem_of_getElem? (i := 35) rfl) tb_taken_machine sc_taken_machine (fun _ _ _ _ _ _ us hl => match us, hl with | [_], _ => rfl) ck_taken_machine (fun h => by cases h)
include X G Y in
theorem dd_returned : @DefOk ⟨tfl.map (He.cT K), w⟩ sx tb K mg "returned" :=
  def_of X G Y (List.mem_of_getElem? (i := 36) rfl) (List.mem_of_getElem? (i := 36) rfl) tb_returned sc_returned (fun _ _ _ _ _ _ us hl => match us, hl with | [_], _ => rfl) ck_returned (fun h => by cases h)
include X G Y in
theorem dd_called_machine : @DefOk ⟨tfl.map (He.cT K), w⟩ sx tb K mg "called_machine" :=
  def_of X G Y (List.mem_of_getElem? (i := 37) rfl) (List.mem_of_getElem? (i := 37) rfl) tb_called_machine sc_called_machine (fun _ _ _ _ _ _ us hl => match us, hl with | [_, _, _, _], _ => rfl) ck_called_machine (fun h => by cases h)
include X G Y in
theorem dd_plain : @DefOk ⟨tfl.map (He.cT K), w⟩ sx tb K mg "plain" :=
  def_of X G Y (List.mem_of_getElem? (i := 38) rfl) (List.mem_of_getElem? (i := 38) rfl) tb_plain sc_plain (fun _ _ _ _ _ _ us hl => match us, hl with | [_], _ => rfl) ck_plain (fun h => by cases h)
include X G Y in
theorem dd_term_of : @DefOk ⟨tfl.map (He.cT K), w⟩ sx tb K mg "term_of" :=
  def_of X G Y (List.mem_of_getElem? (i := 39) rfl) (List.mem_of_getElem? (i := 39) rfl) tb_term_of sc_term_of (fun _ _ _ _ _ _ us hl => match us, hl with | [_, _, _, _], _ => rfl) ck_term_of (fun h => by cases h)
include X G Y in
theorem dd_function_of : @DefOk ⟨tfl.map (He.cT K), w⟩ sx tb K mg "function_of" :=
  def_of X G Y (List.mem_of_getElem? (i := 40) rfl) (List.mem_of_getElem? (i := 40) rfl) tb_function_of sc_function_of (fun _ _ _ _ _ _ us hl => match us, hl with | [_, _, _, _], _ => rfl) ck_function_of (fun h => by cases h)
include X G Y in
theorem dd_kept_of : @DefOk ⟨tfl.map (He.cT K), w⟩ sx tb K mg "kept_of" :=
  def_of X G Y (List.mem_of_getElem? (i := 41) rfl) (List.mem_of_getElem? (i := 41) rfl) tb_kept_of sc_kept_of (fun _ _ _ _ _ _ us hl => match us, hl with | [_, _, _], _ => rfl) ck_kept_of (fun h => by cases h)
include X G Y in
theorem dd_behind_round : @DefOk ⟨tfl.map (He.cT K), w⟩ sx tb K mg "behind_round" :=
  def_of X G Y (List.mem_of_getElem? (i := 42) rfl) (List.mem_of_getElem? (i := 42) rfl) tb_behind_round sc_behind_round (fun _ _ _ _ _ _ us hl => match us, hl with | [_, _, _], _ => rfl) ck_behind_round (fun h => by cases h)
include X G Y in
theorem dd_in_turn : @DefOk ⟨tfl.map (He.cT K), w⟩ sx tb K mg "in_turn" :=
  def_of X G Y (List.mem_of_getElem? (i := 43) rfl) (List.mem_of_getElem? (i := 43) rfl) tb_in_turn sc_in_turn (fun _ _ _ _ _ _ us hl => match us, hl with | [_, _, _, _], _ => rfl) ck_in_turn (fun h => by cases h)
include X G Y in
theorem dd_picking : @DefOk ⟨tfl.map (He.cT K), w⟩ sx tb K mg "picking" :=
  def_of X G Y (List.mem_of_getElem? (i := 44) rfl) (List.mem_of_getElem? (i := 44) rfl) tb_picking sc_picking (fun _ _ _ _ _ _ us hl => match us, hl with | [_, _, _, _], _ => rfl) ck_picking (fun h => by cases h)
include X G Y in
theorem dd_run_plain : @DefOk ⟨tfl.map (He.cT K), w⟩ sx tb K mg "run_plain" :=
  def_of X G Y (List.mem_of_getElem? (i := 45) rfl) (List.mem_of_getElem? (i := 45) rfl) tb_run_plain sc_run_plain (fun _ _ _ _ _ _ us hl => match us, hl with | [_, _], _ => rfl) ck_run_plain (fun h => by cases h)
include X G Y in
theorem dd_by_plain : @DefOk ⟨tfl.map (He.cT K), w⟩ sx tb K mg "by_plain" :=
  def_of X G Y (List.mem_of_getElem? (i := 46) rfl) (List.mem_of_getElem? (i := 46) rfl) tb_by_plain sc_by_plain (fun _ _ _ _ _ _ us hl => match us, hl with | [_, _], _ => rfl) ck_by_plain (fun h => by cases h)
include X G Y in
theorem dd_told_running : @DefOk ⟨tfl.map (He.cT K), w⟩ sx tb K mg "told_running" :=
  def_of X G Y (List.mem_of_getElem? (i := 47) rfl) (List.mem_of_getElem? (i := 47) rfl) tb_told_running sc_told_running (fun _ _ _ _ _ _ us hl => match us, hl with | [_, _], _ => rfl) ck_told_running (fun h => by cases h)
include X G Y in
theorem dd_meant : @DefOk ⟨tfl.map (He.cT K), w⟩ sx tb K mg "meant" :=
  def_of X G Y (List.mem_of_getElem? (i := 48) rfl) (List.mem_of_getElem? (i := 48) rfl) tb_meant sc_meant (fun _ _ _ _ _ _ us hl => match us, hl with | [_, _], _ => rfl) ck_meant (fun h => by cases h)
include X G Y in
theorem dd_is_number_running : @DefOk ⟨tfl.map (He.cT K), w⟩ sx tb K mg "is_number_running" :=
  def_of X G Y (List.mem_of_getElem? (i := 49) rfl) (List.mem_of_getElem? (i := 49) rfl) tb_is_number_running sc_is_number_running (fun _ _ _ _ _ _ us hl => match us, hl with | [_], _ => rfl) ck_is_number_running (fun h => by cases h)
include X G Y in
theorem dd_followed : @DefOk ⟨tfl.map (He.cT K), w⟩ sx tb K mg "followed" :=
  def_of X G Y (List.mem_of_getElem? (i := 50) rfl) (List.mem_of_getElem? (i := 50) rfl) tb_followed sc_followed (fun _ _ _ _ _ _ us hl => match us, hl with | [_, _], _ => rfl) ck_followed (fun h => by cases h)
include X G Y in
theorem dd_passed : @DefOk ⟨tfl.map (He.cT K), w⟩ sx tb K mg "passed" :=
  def_of X G Y (List.mem_of_getElem? (i := 51) rfl) (List.mem_of_getElem? (i := 51) rfl) tb_passed sc_passed (fun _ _ _ _ _ _ us hl => match us, hl with | [_, _, _], _ => rfl) ck_passed (fun h => by cases h)
include X G Y in
theorem dd_left : @DefOk ⟨tfl.map (He.cT K), w⟩ sx tb K mg "left" :=
  def_of X G Y (List.mem_of_getElem? (i := 52) rfl) (List.mem_of_getElem? (i := 52) rfl) tb_left sc_left (fun _ _ _ _ _ _ us hl => match us, hl with | [_, _], _ => rfl) ck_left (fun h => by cases h)
include X G Y in
theorem dd_given : @DefOk ⟨tfl.map (He.cT K), w⟩ sx tb K mg "given" :=
  def_of X G Y (List.mem_of_getElem? (i := 53) rfl) (List.mem_of_getElem? (i := 53) rfl) tb_given sc_given (fun _ _ _ _ _ _ us hl => match us, hl with | [_, _, _], _ => rfl) ck_given (fun h => by cases h)
include X G Y in
theorem dd_called_running : @DefOk ⟨tfl.map (He.cT K), w⟩ sx tb K mg "called_running" :=
  def_of X G Y (List.mem_of_getElem? (i := 54) rfl) (List.mem_of_getElem? (i := 54) rfl) tb_called_running sc_called_running (fun _ _ _ _ _ _ us hl => match us, hl with | [_, _, _, _], _ => rfl) ck_called_running (fun h => by cases h)
include X G Y in
theorem dd_added : @DefOk ⟨tfl.map (He.cT K), w⟩ sx tb K mg "added" :=
  def_of X G Y (List.mem_of_getElem? (i := 55) rfl) (List.mem_of_getElem? (i := 55) rfl) tb_added sc_added (fun _ _ _ _ _ _ us hl => match us, hl with | [_, _, _, _], _ => rfl) ck_added (fun h => by cases h)
include X G Y in
theorem dd_picked : @DefOk ⟨tfl.map (He.cT K), w⟩ sx tb K mg "picked" :=
  def_of X G Y (List.mem_of_getElem? (i := 56) rfl) (List.mem_of_getElem? (i := 56) rfl) tb_picked sc_picked (fun _ _ _ _ _ _ us hl => match us, hl with | [_, _, _], _ => rfl) ck_picked (fun h => by cases h)
include X G Y in
theorem dd__law_cell_at : @DefOk ⟨tfl.map (He.cT K), w⟩ sx tb K mg "_law_cell_at" :=
  def_of X G Y (List.mem_of_getElem? (i := 57) rfl) (List.mem_of_getElem? (i := 57) rfl) tb__law_cell_at sc__law_cell_at (fun _ _ _ _ _ _ us hl => match us, hl with | [_, _], _ => rfl) ck__law_cell_at (fun h => by cases h)
include X G Y in
theorem dd__law_mixed : @DefOk ⟨tfl.map (He.cT K), w⟩ sx tb K mg "_law_mixed" :=
  def_of X G Y (List.mem_of_getElem? (i := 58) rfl) (List.mem_of_getElem? (i := 58) rfl) tb__law_mixed sc__law_mixed (fun _ _ _ _ _ _ us hl => match us, hl with | [_], _ => rfl) ck__law_mixed (fun h => by cases h)
include X G Y in
theorem dd__law_frame_by : @DefOk ⟨tfl.map (He.cT K), w⟩ sx tb K mg "_law_frame_by" :=
  def_of X G Y (List.mem_of_getElem? (i := 59) rfl) (List.mem_of_getElem? (i := 59) rfl) tb__law_frame_by sc__law_frame_by (fun _ _ _ _ _ _ us hl => match us, hl with | [_], _ => rfl) ck__law_frame_by (fun h => by cases h)
include X G Y in
theorem dd__law_about : @DefOk ⟨tfl.map (He.cT K), w⟩ sx tb K mg "_law_about" :=
  def_of X G Y (List.mem_of_getElem? (i := 60) rfl) (List.mem_of_getElem? (i := 60) rfl) tb__law_about sc__law_about (fun _ _ _ _ _ _ us hl => match us, hl with | [_, _], _ => rfl) ck__law_about (fun h => by cases h)
include X G Y in
theorem dd__law_in : @DefOk ⟨tfl.map (He.cT K), w⟩ sx tb K mg "_law_in" :=
  def_of X G Y (List.mem_of_getElem? (i := 61) rfl) (List.mem_of_getElem? (i := 61) rfl) tb__law_in sc__law_in (fun _ _ _ _ _ _ us hl => match us, hl with | [_, _], _ => rfl) ck__law_in (fun h => by cases h)
include X G Y in
theorem dd__law_same : @DefOk ⟨tfl.map (He.cT K), w⟩ sx tb K mg "_law_same" :=
  def_of X G Y (List.mem_of_getElem? (i := 62) rfl) (List.mem_of_getElem? (i := 62) rfl) tb__law_same sc__law_same (fun _ _ _ _ _ _ us hl => match us, hl with | [_, _, _], _ => rfl) ck__law_same (fun h => by cases h)
include X G Y in
theorem dd__law_goes : @DefOk ⟨tfl.map (He.cT K), w⟩ sx tb K mg "_law_goes" :=
  def_of X G Y (List.mem_of_getElem? (i := 63) rfl) (List.mem_of_getElem? (i := 63) rfl) tb__law_goes sc__law_goes (fun _ _ _ _ _ _ us hl => match us, hl with | [_, _, _], _ => rfl) ck__law_goes (fun h => by cases h)
include X G Y in
theorem dd__law_many_frames : @DefOk ⟨tfl.map (He.cT K), w⟩ sx tb K mg "_law_many_frames" :=
  def_of X G Y (List.mem_of_getElem? (i := 64) rfl) (List.mem_of_getElem? (i := 64) rfl) tb__law_many_frames sc__law_many_frames (fun _ _ _ _ _ _ us hl => match us, hl with | [_], _ => rfl) ck__law_many_frames (fun h => by cases h)
include X G Y in
theorem dd__law_counting : @DefOk ⟨tfl.map (He.cT K), w⟩ sx tb K mg "_law_counting" :=
  def_of X G Y (List.mem_of_getElem? (i := 65) rfl) (List.mem_of_getElem? (i := 65) rfl) tb__law_counting sc__law_counting (fun _ _ _ _ _ _ us hl => match us, hl with | [_], _ => rfl) ck__law_counting (fun h => by cases h)
include X G Y in
theorem dd_law : @DefOk ⟨tfl.map (He.cT K), w⟩ sx tb K mg "law" :=
  def_of X G Y (List.mem_of_getElem? (i := 66) rfl) (List.mem_of_getElem? (i := 66) rfl) tb_law sc_law (fun _ _ _ _ _ _ us hl => match us, hl with | [_], _ => rfl) ck_law (fun h => by cases h)
include X G Y in
theorem dd_all : ∀ f ∈ sx.fns, @DefOk ⟨tfl.map (He.cT K), w⟩ sx tb K mg f := by
  intro f hf
  simp only [sx, List.cons_append, List.nil_append, List.mem_cons, List.not_mem_nil, or_false] at hf
  rcases hf with rfl | rfl | rfl | rfl | rfl | rfl | rfl | rfl | rfl | rfl | rfl | rfl | rfl | rfl | rfl | rfl | rfl | rfl | rfl | rfl | rfl | rfl | rfl | rfl | rfl | rfl | rfl | rfl | rfl | rfl | rfl | rfl | rfl | rfl | rfl | rfl | rfl | rfl | rfl | rfl | rfl | rfl | rfl | rfl | rfl | rfl | rfl | rfl | rfl | rfl | rfl | rfl | rfl | rfl | rfl | rfl | rfl | rfl | rfl | rfl | rfl | rfl | rfl | rfl | rfl | rfl | rfl
  · exact dd_is_piece X G Y
  · exact dd_is_closed X G Y
  · exact dd_free_names X G Y
  · exact dd_parts_of X G Y
  · exact dd_is_knot X G Y
  · exact dd_fits X G Y
  · exact dd_is_whole X G Y
  · exact dd_is_name X G Y
  · exact dd_check_piece X G Y
  · exact dd_check_fuel X G Y
  · exact dd_check_both X G Y
  · exact dd_put_in X G Y
  · exact dd_stepped X G Y
  · exact dd_by_putting X G Y
  · exact dd_outcome X G Y
  · exact dd_is_value_putting X G Y
  · exact dd_is_done X G Y
  · exact dd_is_stuck X G Y
  · exact dd_found X G Y
  · exact dd_entered_putting X G Y
  · exact dd_filled X G Y
  · exact dd_surrounded X G Y
  · exact dd_changed X G Y
  · exact dd_called_putting X G Y
  · exact dd_taken_putting X G Y
  · exact dd_by_machine X G Y
  · exact dd_first X G Y
  · exact dd_holding X G Y
  · exact dd_number X G Y
  · exact dd_meaning X G Y
  · exact dd_told_machine X G Y
  · exact dd_is_value_machine X G Y
  · exact dd_is_number_machine X G Y
  · exact dd_moved X G Y
  · exact dd_entered_machine X G Y
  · exact dd_taken_machine X G Y
  · exact dd_returned X G Y
  · exact dd_called_machine X G Y
  · exact dd_plain X G Y
  · exact dd_term_of X G Y
  · exact dd_function_of X G Y
  · exact dd_kept_of X G Y
  · exact dd_behind_round X G Y
  · exact dd_in_turn X G Y
  · exact dd_picking X G Y
  · exact dd_run_plain X G Y
  · exact dd_by_plain X G Y
  · exact dd_told_running X G Y
  · exact dd_meant X G Y
  · exact dd_is_number_running X G Y
  · exact dd_followed X G Y
  · exact dd_passed X G Y
  · exact dd_left X G Y
  · exact dd_given X G Y
  · exact dd_called_running X G Y
  · exact dd_added X G Y
  · exact dd_picked X G Y
  · exact dd__law_cell_at X G Y
  · exact dd__law_mixed X G Y
  · exact dd__law_frame_by X G Y
  · exact dd__law_about X G Y
  · exact dd__law_in X G Y
  · exact dd__law_same X G Y
  · exact dd__law_goes X G Y
  · exact dd__law_many_frames X G Y
  · exact dd__law_counting X G Y
  · exact dd_law X G Y
include X G Y in
theorem at_law {fa : Addr} (hmg : mg "law" = some (.ref fa)) : LamX.LawAtS PySem.Challenge.rw_cutback_k13_many_frames w K CX0 230 63 "_law_script" mg fa h :=
  lawAt_of (x := "_law_script") X G Y (dd_all X G Y) (List.mem_of_getElem? (i := 66) rfl) (List.mem_of_getElem? (i := 66) rfl) tb_law sc_law (fun _ _ _ _ _ _ us hl => match us, hl with | [_], _ => rfl) ck_law rfl rfl hmg fun C ns hl hb => @law_true C ns hl
end
end K13
open PySem PySem.W PyProof.Rows
set_option maxHeartbeats 0 in
theorem PySem.Challenge.cw_cutback_k13_many_frames_holds : PySem.Challenge.rw_cutback_k13_many_frames.Holds := by
  w_on; o_law; x_head; (case hw => w_witness2)
  k_fill
  exact Mi.walk_end (l := PySem.Challenge.rw_cutback_k13_many_frames) (n := 63) (k := 230) (x := "_law_script") rfl (by decide) rfl ⟨rfl, by decide, by decide⟩ (fun w h Y => PySem.W.kIn_of Y) rfl (fun w => by kernel_rfl) (fun X G Y => K13.at_law X G Y)
