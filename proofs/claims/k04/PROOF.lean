import PyProof.Rows.All
import Wide.All
import OpenK.AllK
import Wide.FinOn
import HandS.ForMost
import HandS.ForExc
import HandS.IsInst
import HandS.Small
import HandS.Wide
import HandS.EndBits
import HandS.Lambda
import HandS.EndTab
import PyProof.Rows.MatchSeqLen
import HandS.Conv
import HandS.TupAny
import HandS.Flow
import HandS.TupMul
import HandS.Nested
import PyProof.P3Eq
import HandS.ExcIs
import PySem.Challenge.RW_pausewright_k04_whole_played
set_option Elab.async false
set_option linter.all false
set_option autoImplicit false
set_option maxRecDepth 100000
set_option maxHeartbeats 2000000
/-! Sh: programs of the model mimicked by plain functions over values by content (tuples are values) and a store of mutable objects. -/
namespace Sh
open PySem PySem.Spec PyProof.Rows L2

/-- the types that are asked of -/
inductive Ty where
  | none | bool | int | str | tuple | list | dict
  deriving DecidableEq
def Ty.name : Ty → String
  | .none => "NoneType"
  | .bool => "bool"
  | .int => "int"
  | .str => "str"
  | .tuple => "tuple"
  | .list => "list"
  | .dict => "dict"
/-- a value by content -/
inductive D where
  | non | bl (b : Bool) | int (i : Int) | wd (n : Nat) | str (x : Str) | ty (t : Ty) | obj (i : Nat)
  | tup (xs : List D) | frl (xs : List D)
/-- an object of the store -/
inductive O where
  | lst (xs : List D)
  | ins (c : Nat) (fs : List (Option D))
  /-- a dict by words: its keys, what stands there -/
  | dct (kds : List (Nat × D))
abbrev M := List O
abbrev Sl := List (Option D)
/-- a lambda that a def was handed: the slot and the address of its function, its code object and that one's name, what it captured -/
structure Pin where
  i : Nat
  f : Addr
  c : Addr
  q : Str
  caps : List (D × V)
/-- the words (texts of the program), classes and their fields, exceptions and their fields -/
structure Tb where
  wds : List Str
  cls : Nat → Str
  flds : Nat → List Str
  exn : Nat → Str
  exf : Nat → List Str
  /-- the tables of code objects in which lambdas are found, and their qualified names -/
  tabs : List (Addr × Str) := []
  pin : Option Pin := none

/-- a list that nobody writes -/
def Fz (K : PySem.W.Frag) (H : Hp) (a : Addr) (vs : List V) : Prop :=
  (∃ o, H a = some (.frz o (.lst vs))) ∨
    ∃ (o : Obj) (its : Array Value) (n : Nat), K.lookup a = some o ∧ o.cls = .type "list" ∧ o.dict = none ∧ o.data = .seq its n ∧ its.size ≤ sizeLine ∧ Vals vs its.toList
theorem Fz.sq {K : PySem.W.Frag} {H : Hp} {a : Addr} {vs : List V} (h : Fz K H a vs) : SqL K H a vs := by
  rcases h with ⟨o, h⟩ | h
  · exact .inl (.inr ⟨o, h⟩)
  · exact .inr h

section
variable (K : PySem.W.Frag) (T : Tb) (ρ : List Addr) (H : Hp)
mutual
/-- the value v of the heap H is the value by content -/
def RD : D → V → Prop
  | .non, v => v = .non
  | .bl b, v => v = .bl b
  | .int i, v => v = .int i
  | .wd n, v => ∃ x, T.wds[n]? = some x ∧ v = .str x
  | .str x, v => v = .str x
  | .ty t, v => v = .ty t.name
  | .obj i, v => ∃ a, ρ[i]? = some a ∧ v = .ref a
  | .tup xs, v => ∃ a vs, v = .ref a ∧ SqT K H a vs ∧ RDs xs vs
  | .frl xs, v => ∃ a vs, v = .ref a ∧ Fz K H a vs ∧ RDs xs vs
def RDs : List D → List V → Prop
  | [], vs => vs = []
  | x :: xs, vs => ∃ v r, vs = v :: r ∧ RD x v ∧ RDs xs r
end
end

/-- what stays of the heap -/
structure Ext (K : PySem.W.Frag) (ρ : List Addr) (H : Hp) (ρ' : List Addr) (H' : Hp) : Prop where
  pre : ∃ t, ρ' = ρ ++ t ∧ ∀ a ∈ t, H a = none
  tup : ∀ a xs, SqT K H a xs → SqT K H' a xs
  frz : ∀ a xs, Fz K H a xs → Fz K H' a xs
  frm : ∀ a o, H a = some o → a ∉ ρ → (∀ ps, o ≠ .tbl ps) → H' a = some o
  kp : ∀ a, H a ≠ none → H' a ≠ none

section
variable {K : PySem.W.Frag} {T : Tb} {ρ ρ' ρ1 ρ2 : List Addr} {H H' H1 H2 : Hp}
theorem Ext.refl : Ext K ρ H ρ H := ⟨⟨[], by simp, by simp⟩, fun _ _ h => h, fun _ _ h => h, fun _ _ h _ _ => h, fun _ h => h⟩
theorem Ext.trans (a : Ext K ρ H ρ1 H1) (b : Ext K ρ1 H1 ρ2 H2) : Ext K ρ H ρ2 H2 := by
  obtain ⟨t, e, ht⟩ := a.pre
  obtain ⟨u, e', hu⟩ := b.pre
  have kn : ∀ x, H1 x = none → H x = none := fun x hx => by
    cases q : H x with
    | none => rfl
    | some o => exact absurd hx (a.kp x (by rw [q]; simp))
  refine ⟨⟨t ++ u, by rw [e', e, List.append_assoc], fun x hx => ?_⟩, fun x xs h => b.tup x xs (a.tup x xs h), fun x xs h => b.frz x xs (a.frz x xs h), fun x o h hn hnt => ?_, fun x h => b.kp x (a.kp x h)⟩
  · rcases List.mem_append.mp hx with h | h
    · exact ht x h
    · exact kn x (hu x h)
  · refine b.frm x o (a.frm x o h hn hnt) ?_ hnt
    rw [e]
    intro hm
    rcases List.mem_append.mp hm with z | z
    · exact hn z
    · rw [ht x z] at h; cases h
theorem Ext.get (a : Ext K ρ H ρ' H') {i : Nat} {x : Addr} (h : ρ[i]? = some x) : ρ'[i]? = some x := by
  obtain ⟨t, e, _⟩ := a.pre
  rw [e]
  rw [List.getElem?_append_left (List.getElem?_eq_some_iff.mp h).1]
  exact h
mutual
theorem RD.ext (e : Ext K ρ H ρ' H') : ∀ (d : D) (v : V), RD K T ρ H d v → RD K T ρ' H' d v
  | .non, v, h => h
  | .bl _, v, h => h
  | .int _, v, h => h
  | .wd _, v, h => h
  | .str _, v, h => h
  | .ty _, v, h => h
  | .obj i, v, h => by
    obtain ⟨a, h1, h2⟩ := h
    exact ⟨a, e.get h1, h2⟩
  | .tup xs, v, h => by
    obtain ⟨a, vs, h1, h2, h3⟩ := h
    exact ⟨a, vs, h1, e.tup _ _ h2, RDs.ext e xs vs h3⟩
  | .frl xs, v, h => by
    obtain ⟨a, vs, h1, h2, h3⟩ := h
    exact ⟨a, vs, h1, e.frz _ _ h2, RDs.ext e xs vs h3⟩
theorem RDs.ext (e : Ext K ρ H ρ' H') : ∀ (xs : List D) (vs : List V), RDs K T ρ H xs vs → RDs K T ρ' H' xs vs
  | [], vs, h => h
  | x :: xs, vs, h => by
    obtain ⟨v, r, h1, h2, h3⟩ := h
    exact ⟨v, r, h1, RD.ext e x v h2, RDs.ext e xs r h3⟩
end
theorem RDs.len : ∀ {xs : List D} {vs : List V}, RDs K T ρ H xs vs → vs.length = xs.length
  | [], vs, h => by
    have h' : vs = [] := h
    subst h'; rfl
  | x :: xs, vs, h => by
    obtain ⟨v, r, h1, h2, h3⟩ := h
    subst h1
    rw [List.length_cons, List.length_cons, RDs.len h3]
theorem RDs.get : ∀ {xs : List D} {vs : List V} {i : Nat} {x : D}, RDs K T ρ H xs vs → xs[i]? = some x → ∃ v, vs[i]? = some v ∧ RD K T ρ H x v
  | [], vs, i, x, h, e => by simp at e
  | y :: xs, vs, 0, x, h, e => by
    obtain ⟨v, r, h1, h2, h3⟩ := h
    simp at e; subst e; subst h1
    exact ⟨v, rfl, h2⟩
  | y :: xs, vs, i + 1, x, h, e => by
    obtain ⟨v, r, h1, h2, h3⟩ := h
    subst h1
    obtain ⟨u, q1, q2⟩ := RDs.get (i := i) h3 (by simpa using e)
    exact ⟨u, by simpa using q1, q2⟩
theorem RDs.app : ∀ {xs ys : List D} {vs ws : List V}, RDs K T ρ H xs vs → RDs K T ρ H ys ws → RDs K T ρ H (xs ++ ys) (vs ++ ws)
  | [], ys, vs, ws, h, g => by
    have h' : vs = [] := h
    subst h'; exact g
  | x :: xs, ys, vs, ws, h, g => by
    obtain ⟨v, r, h1, h2, h3⟩ := h
    subst h1
    exact ⟨v, r ++ ws, rfl, h2, RDs.app h3 g⟩
theorem RDs.one {x : D} {v : V} (h : RD K T ρ H x v) : RDs K T ρ H [x] [v] := ⟨v, [], rfl, h, rfl⟩
theorem RDs.set : ∀ {xs : List D} {vs : List V} {x : D} {v : V} (i : Nat), RDs K T ρ H xs vs → RD K T ρ H x v → RDs K T ρ H (xs.set i x) (vs.set i v)
  | [], vs, x, v, i, h, g => by
    have h' : vs = [] := h
    subst h'; exact rfl
  | y :: xs, vs, x, v, 0, h, g => by
    obtain ⟨u, r, h1, h2, h3⟩ := h
    subst h1
    exact ⟨v, r, rfl, g, h3⟩
  | y :: xs, vs, x, v, i + 1, h, g => by
    obtain ⟨u, r, h1, h2, h3⟩ := h
    subst h1
    exact ⟨u, r.set i v, rfl, h2, RDs.set i h3 g⟩
theorem RDs.drop : ∀ {xs : List D} {vs : List V} (n : Nat), RDs K T ρ H xs vs → RDs K T ρ H (xs.drop n) (vs.drop n)
  | xs, vs, 0, h => by simpa using h
  | [], vs, n + 1, h => by
    have h' : vs = [] := h
    subst h'; exact rfl
  | x :: xs, vs, n + 1, h => by
    obtain ⟨u, r, h1, h2, h3⟩ := h
    subst h1
    simpa using RDs.drop n h3
theorem RDs.take : ∀ {xs : List D} {vs : List V} (n : Nat), RDs K T ρ H xs vs → RDs K T ρ H (xs.take n) (vs.take n)
  | xs, vs, 0, h => by simp; exact rfl
  | [], vs, n + 1, h => by
    have h' : vs = [] := h
    subst h'; exact rfl
  | x :: xs, vs, n + 1, h => by
    obtain ⟨u, r, h1, h2, h3⟩ := h
    subst h1
    rw [List.take_succ_cons, List.take_succ_cons]
    exact ⟨u, _, rfl, h2, RDs.take n h3⟩
theorem RDs.cons_inv {x : D} {xs : List D} {vs : List V} (h : RDs K T ρ H (x :: xs) vs) : ∃ v r, vs = v :: r ∧ RD K T ρ H x v ∧ RDs K T ρ H xs r := h
theorem RDs.nil_inv {vs : List V} (h : RDs K T ρ H [] vs) : vs = [] := h
end

def lastL : List (Nat × D) → Nat → Option D
  | [], _ => none
  | (k, d) :: r, n => match lastL r n with
    | some x => some x
    | none => if k = n then some d else none
/-- how an object of the store stands in the heap -/
def RO (K : PySem.W.Frag) (mg : Str → Option Value) (T : Tb) (ρ : List Addr) (H : Hp) : O → Addr → Prop
  | .lst xs, a => ∃ vs, H a = some (.lst vs) ∧ RDs K T ρ H xs vs
  | .ins c fs, a => ∃ C dx vs, mg (T.cls c) = some (.ref C) ∧ H a = some (.ins C dx vs) ∧ fs.length = (T.flds c).length ∧ (vs.map (·.1)).Nodup ∧ (∀ p ∈ vs, p.1 ∈ T.flds c) ∧
      ∀ (k : Nat) (f : Str) (d : D), (T.flds c)[k]? = some f → fs[k]? = some (some d) → ∃ v, vs.lookup f = some v ∧ RD K T ρ H d v
  | .dct kds, a => ∃ kvs, H a = some (.dK kvs) ∧ kvs.length ≤ 1000 ∧ ∀ (n : Nat) (d : D), lastL kds n = some d → ∃ x v, T.wds[n]? = some x ∧ valV kvs (.inr x) = some v ∧ RD K T ρ H d v
structure Rep (K : PySem.W.Frag) (mg : Str → Option Value) (T : Tb) (ρ : List Addr) (m : M) (H : Hp) : Prop where
  nd : ρ.Nodup
  len : ρ.length = m.length
  at_ : ∀ (i : Nat) (o : O) (a : Addr), m[i]? = some o → ρ[i]? = some a → RO K mg T ρ H o a
  tab : LamX.Tabs T.tabs H
/-- the slots -/
def RSl (K : PySem.W.Frag) (T : Tb) (ρ : List Addr) (H : Hp) (τ : Sl) (σ : L2.St) : Prop :=
  τ.length = σ.length ∧ (∀ (i : Nat) (d : D), τ[i]? = some (some d) → ∃ v, σ[i]? = some (some v) ∧ RD K T ρ H d v) ∧
    ∀ p, T.pin = some p → (τ[p.i]? = some none → σ[p.i]? = some (some (.ref p.f))) ∧ (∀ x ∈ p.caps, RD K T ρ H x.1 x.2) ∧ H p.c = some (LamX.CodeO p.c p.q) ∧ p.c ∉ ρ
/-- an exception: its class by number, its payload -/
def RX (K : PySem.W.Frag) (mg : Str → Option Value) (T : Tb) (ρ : List Addr) (H : Hp) (x : Nat) (p : List D) (C : Value) (dd : Option Addr) : Prop :=
  (∃ c, mg (T.exn x) = some (.ref c) ∧ C = .ref c) ∧ (p ≠ [] → ∃ a fs, dd = some a ∧ a ∉ ρ ∧ H a = some (.xd fs) ∧ ∀ (k : Nat) (f : Str) (d : D), (T.exf x)[k]? = some f → p[k]? = some d → ∃ v, fs.lookup f = some v ∧ RD K T ρ H d v)

section
variable {K : PySem.W.Frag} {mg : Str → Option Value} {T : Tb} {ρ ρ' ρ1 ρ2 : List Addr} {H H' H1 H2 : Hp} {m : M}
theorem RSl.ext {τ : Sl} {σ : L2.St} (h : RSl K T ρ H τ σ) (e : Ext K ρ H ρ' H') : RSl K T ρ' H' τ σ :=
  ⟨h.1, fun i d q => let ⟨v, a, b⟩ := h.2.1 i d q; ⟨v, a, RD.ext e d v b⟩, fun p hp => by
    obtain ⟨h1, h2, h3, h4⟩ := h.2.2 p hp
    refine ⟨h1, fun x hx => RD.ext e _ _ (h2 x hx), e.frm _ _ h3 h4 (fun ps z => by unfold LamX.CodeO at z; cases z), fun hm => ?_⟩
    obtain ⟨t, et, ht⟩ := e.pre
    rw [et] at hm
    rcases List.mem_append.mp hm with z | z
    · exact h4 z
    · rw [ht _ z] at h3; cases h3⟩
theorem RSl.set {τ : Sl} {σ : L2.St} {d : D} {v : V} (h : RSl K T ρ H τ σ) (i : Nat) (r : RD K T ρ H d v) : RSl K T ρ H (τ.set i (some d)) (σ.set i (some v)) := by
  refine ⟨by simpa using h.1, fun j e q => ?_, fun p hp => ⟨fun q => ?_, (h.2.2 p hp).2⟩⟩
  rotate_left
  · by_cases hj : i = p.i
    · subst hj
      by_cases hl : p.i < τ.length
      · rw [List.getElem?_set_self hl] at q; cases q
      · rw [List.getElem?_eq_none (by simpa using hl)] at q; cases q
    · rw [List.getElem?_set_ne hj] at q
      rw [List.getElem?_set_ne hj]
      exact (h.2.2 p hp).1 q
  by_cases hj : i = j
  · subst hj
    have hl : i < τ.length := by
      have := (List.getElem?_eq_some_iff.mp q).1
      simpa using this
    rw [List.getElem?_set_self hl] at q
    cases q
    exact ⟨v, by rw [List.getElem?_set_self (by rw [← h.1]; exact hl)], r⟩
  · rw [List.getElem?_set_ne hj] at q
    rw [List.getElem?_set_ne hj]
    exact h.2.1 j e q
theorem Rep.get (R : Rep K mg T ρ m H) {i : Nat} {o : O} (h : m[i]? = some o) : ∃ a, ρ[i]? = some a ∧ RO K mg T ρ H o a := by
  have hl : i < ρ.length := by rw [R.len]; exact (List.getElem?_eq_some_iff.mp h).1
  exact ⟨ρ[i], List.getElem?_eq_getElem hl, R.at_ i o _ h (List.getElem?_eq_getElem hl)⟩
theorem Rep.obj (R : Rep K mg T ρ m H) {i : Nat} {a : Addr} (h : ρ[i]? = some a) : ∃ o, m[i]? = some o ∧ RO K mg T ρ H o a := by
  have hl : i < m.length := by rw [← R.len]; exact (List.getElem?_eq_some_iff.mp h).1
  exact ⟨m[i], List.getElem?_eq_getElem hl, R.at_ i _ _ (List.getElem?_eq_getElem hl) h⟩
theorem RO.there {o : O} {a : Addr} (h : RO K mg T ρ H o a) : ∃ u : HO, H a = some u ∧ (∀ xs, u ≠ .tup xs) ∧ ∀ ob xs, u ≠ .frz ob xs := by
  cases o with
  | lst xs =>
    obtain ⟨vs, e, _⟩ := h
    exact ⟨_, e, fun _ z => HO.noConfusion z, fun _ _ z => HO.noConfusion z⟩
  | ins c fs =>
    obtain ⟨C, dx, vs, _, e, _⟩ := h
    exact ⟨_, e, fun _ z => HO.noConfusion z, fun _ _ z => HO.noConfusion z⟩
  | dct kds =>
    obtain ⟨vs, e, _⟩ := h
    exact ⟨_, e, fun _ z => HO.noConfusion z, fun _ _ z => HO.noConfusion z⟩
theorem Rep.mem (R : Rep K mg T ρ m H) {a : Addr} (h : a ∈ ρ) : ∃ u : HO, H a = some u ∧ (∀ xs, u ≠ .tup xs) ∧ ∀ ob xs, u ≠ .frz ob xs := by
  obtain ⟨i, hi⟩ := List.getElem?_of_mem h
  obtain ⟨o, _, r⟩ := R.obj hi
  exact r.there
/-- what is neither a table nor a code object -/
def NoTab (u : HO) : Prop := (∀ ps, u ≠ .tbl ps) ∧ ∀ c q, u ≠ LamX.CodeO c q
theorem noTab_lst {xs : List V} : NoTab (.lst xs) := ⟨fun _ z => HO.noConfusion z, fun _ _ z => by unfold LamX.CodeO at z; cases z⟩
theorem noTab_dK {xs : List (Key × V)} : NoTab (.dK xs) := ⟨fun _ z => HO.noConfusion z, fun _ _ z => by unfold LamX.CodeO at z; cases z⟩
theorem noTab_ins {C : Addr} {dx : Addr} {xs : List (Str × V)} : NoTab (.ins C dx xs) := ⟨fun _ z => HO.noConfusion z, fun _ _ z => by unfold LamX.CodeO at z; cases z⟩
theorem RO.noTab {o : O} {a : Addr} (h : RO K mg T ρ H o a) : ∃ u : HO, H a = some u ∧ NoTab u := by
  cases o with
  | lst xs =>
    obtain ⟨vs, e, _⟩ := h
    exact ⟨_, e, noTab_lst⟩
  | ins c fs =>
    obtain ⟨C, dx, vs, _, e, _⟩ := h
    exact ⟨_, e, noTab_ins⟩
  | dct kds =>
    obtain ⟨vs, e, _⟩ := h
    exact ⟨_, e, noTab_dK⟩
theorem tabs_upd {p : Addr} {o : HO} {Tt : List (Addr × Str)} (hp : H p = none ∨ ∃ u : HO, H p = some u ∧ NoTab u) (h : LamX.Tabs Tt H) : LamX.Tabs Tt (upd H p o) := fun x hx => by
  obtain ⟨ps, h1, h2, h3⟩ := h x hx
  have ne : ∀ {c : Addr} {u : HO}, H c = some u → ¬ NoTab u → c ≠ p := fun {c u} e hn z => by
    subst z
    rcases hp with q | ⟨u', q, nt⟩
    · rw [q] at e; cases e
    · rw [q] at e; cases e; exact hn nt
  refine ⟨ps, by rw [upd_ne (ne h1 fun n => n.1 ps rfl)]; exact h1, h2, fun pos cv hc => ?_⟩
  obtain ⟨c, e1, e2⟩ := h3 pos cv hc
  exact ⟨c, e1, by rw [upd_ne (ne e2 fun n => n.2 _ _ rfl)]; exact e2⟩
theorem Rep.mem2 (R : Rep K mg T ρ m H) {a : Addr} (h : a ∈ ρ) : ∃ u : HO, H a = some u ∧ NoTab u := by
  obtain ⟨i, hi⟩ := List.getElem?_of_mem h
  obtain ⟨o, _, r⟩ := R.obj hi
  exact r.noTab
theorem Rep.notin (R : Rep K mg T ρ m H) {a : Addr} (h : H a = none) : a ∉ ρ := fun z => by
  obtain ⟨u, e, _⟩ := R.mem z
  rw [h] at e; cases e
/-- an upd at an address that is no tuple and no frozen thing keeps tuples and frozen lists -/
theorem sqT_upd {p : Addr} {o : HO} {a : Addr} {xs : List V} (hp : H p = none ∨ ∃ u : HO, H p = some u ∧ (∀ xs, u ≠ .tup xs) ∧ ∀ ob xs, u ≠ .frz ob xs) (h : SqT K H a xs) : SqT K (upd H p o) a xs := by
  rcases h with (h | ⟨ob, h⟩) | h
  · refine .inl (.inl ?_)
    rw [upd_ne ?_]
    · exact h
    · rintro rfl
      rcases hp with z | ⟨u, z, z1, z2⟩
      · rw [h] at z; cases z
      · rw [h] at z; cases z; exact z1 _ rfl
  · refine .inl (.inr ⟨ob, ?_⟩)
    rw [upd_ne ?_]
    · exact h
    · rintro rfl
      rcases hp with z | ⟨u, z, z1, z2⟩
      · rw [h] at z; cases z
      · rw [h] at z; cases z; exact z2 _ _ rfl
  · exact .inr h
theorem fz_upd {p : Addr} {o : HO} {a : Addr} {xs : List V} (hp : H p = none ∨ ∃ u : HO, H p = some u ∧ (∀ xs, u ≠ .tup xs) ∧ ∀ ob xs, u ≠ .frz ob xs) (h : Fz K H a xs) : Fz K (upd H p o) a xs := by
  rcases h with ⟨ob, h⟩ | h
  · refine .inl ⟨ob, ?_⟩
    rw [upd_ne ?_]
    · exact h
    · rintro rfl
      rcases hp with z | ⟨u, z, z1, z2⟩
      · rw [h] at z; cases z
      · rw [h] at z; cases z; exact z2 _ _ rfl
  · exact .inr h
theorem kp_upd {p : Addr} {o : HO} (a : Addr) (h : H a ≠ none) : upd H p o a ≠ none := by
  by_cases e : a = p
  · subst e; rw [upd_same]; simp
  · rw [upd_ne e]; exact h
/-- a new thing that is not of the store -/
theorem Ext.new {p : Addr} {o : HO} (hp : H p = none) : Ext K ρ H ρ (upd H p o) :=
  ⟨⟨[], by simp, by simp⟩, fun _ _ h => sqT_upd (.inl hp) h, fun _ _ h => fz_upd (.inl hp) h, fun a u h _ _ => by rw [upd_ne (ne_of_none h hp)]; exact h, fun a h => kp_upd a h⟩
/-- a new object of the store -/
theorem Ext.alloc {p : Addr} {o : HO} (hp : H p = none) : Ext K ρ H (ρ ++ [p]) (upd H p o) :=
  ⟨⟨[p], rfl, fun a h => by simp at h; rw [h]; exact hp⟩, fun _ _ h => sqT_upd (.inl hp) h, fun _ _ h => fz_upd (.inl hp) h, fun a u h _ _ => by rw [upd_ne (ne_of_none h hp)]; exact h, fun a h => kp_upd a h⟩
/-- a thing of the heap comes into the store -/
theorem Ext.adopt {p : Addr} {ρ0 : List Addr} {H0 : Hp} (e : Ext K ρ0 H0 ρ H) (hp : H0 p = none) : Ext K ρ0 H0 (ρ ++ [p]) H := by
  obtain ⟨t, e1, h1⟩ := e.pre
  exact ⟨⟨t ++ [p], by rw [e1, List.append_assoc], fun a h => by
    rcases List.mem_append.mp h with z | z
    · exact h1 a z
    · simp at z; rw [z]; exact hp⟩, e.tup, e.frz, e.frm, e.kp⟩
/-- a write to an object of the store -/
theorem Ext.write {p : Addr} {o : HO} (R : Rep K mg T ρ m H) (hp : p ∈ ρ) : Ext K ρ H ρ (upd H p o) := by
  have z := R.mem hp
  exact ⟨⟨[], by simp, by simp⟩, fun _ _ h => sqT_upd (.inr z) h, fun _ _ h => fz_upd (.inr z) h, fun a u h hn _ => by rw [upd_ne (fun e => hn (by rw [e]; exact hp))]; exact h, fun a h => kp_upd a h⟩
theorem RO.ext' {o : O} {a : Addr} (h : RO K mg T ρ H o a) (e : Ext K ρ H ρ' H') (hs : H' a = H a) : RO K mg T ρ' H' o a := by
  cases o with
  | lst xs =>
    obtain ⟨vs, e1, e2⟩ := h
    exact ⟨vs, by rw [hs]; exact e1, RDs.ext e _ _ e2⟩
  | ins c fs =>
    obtain ⟨C, dx, vs, h1, h2, h3, h4, h5, h6⟩ := h
    exact ⟨C, dx, vs, h1, by rw [hs]; exact h2, h3, h4, h5, fun k f d q1 q2 => let ⟨v, a, b⟩ := h6 k f d q1 q2; ⟨v, a, RD.ext e d v b⟩⟩
  | dct kds =>
    obtain ⟨vs, e1, e2, e3⟩ := h
    exact ⟨vs, by rw [hs]; exact e1, e2, fun n d q => let ⟨x, v, a, b, c⟩ := e3 n d q; ⟨x, v, a, b, RD.ext e d v c⟩⟩
/-- the store stands where nothing of it was touched -/
theorem Rep.keep (R : Rep K mg T ρ m H) (e : Ext K ρ H ρ H') (hs : ∀ a ∈ ρ, H' a = H a) (ht : LamX.Tabs T.tabs H') : Rep K mg T ρ m H' :=
  ⟨R.nd, R.len, fun i o a h1 h2 => (R.at_ i o a h1 h2).ext' e (hs a (List.mem_of_getElem? h2)), ht⟩
theorem Rep.new (R : Rep K mg T ρ m H) {p : Addr} {o : HO} (hp : H p = none) : Rep K mg T ρ m (upd H p o) :=
  R.keep (Ext.new hp) (fun a ha => by
    obtain ⟨u, e, _⟩ := R.mem ha
    rw [upd_ne (ne_of_none e hp)]) (tabs_upd (.inl hp) R.tab)
theorem getElem?_snoc {α : Type} {l : List α} {x y : α} {i : Nat} (h : (l ++ [x])[i]? = some y) : l[i]? = some y ∨ (i = l.length ∧ y = x) := by
  by_cases hi : i < l.length
  · rw [List.getElem?_append_left hi] at h; exact .inl h
  · rw [List.getElem?_append_right (Nat.le_of_not_lt hi)] at h
    by_cases e : i - l.length = 0
    · rw [e] at h; simp at h
      exact .inr ⟨by omega, h.symm⟩
    · obtain ⟨k, hk⟩ : ∃ k, i - l.length = k + 1 := ⟨i - l.length - 1, by omega⟩
      rw [hk] at h; simp at h
mutual
theorem RD.grow {p : Addr} : ∀ (d : D) (v : V), RD K T ρ H d v → RD K T (ρ ++ [p]) H d v
  | .non, v, h => h
  | .bl _, v, h => h
  | .int _, v, h => h
  | .wd _, v, h => h
  | .str _, v, h => h
  | .ty _, v, h => h
  | .obj i, v, h => by
    obtain ⟨a, h1, h2⟩ := h
    exact ⟨a, by rw [List.getElem?_append_left (List.getElem?_eq_some_iff.mp h1).1]; exact h1, h2⟩
  | .tup xs, v, h => by
    obtain ⟨a, vs, h1, h2, h3⟩ := h
    exact ⟨a, vs, h1, h2, RDs.grow xs vs h3⟩
  | .frl xs, v, h => by
    obtain ⟨a, vs, h1, h2, h3⟩ := h
    exact ⟨a, vs, h1, h2, RDs.grow xs vs h3⟩
theorem RDs.grow {p : Addr} : ∀ (xs : List D) (vs : List V), RDs K T ρ H xs vs → RDs K T (ρ ++ [p]) H xs vs
  | [], vs, h => h
  | x :: xs, vs, h => by
    obtain ⟨v, r, h1, h2, h3⟩ := h
    exact ⟨v, r, h1, RD.grow x v h2, RDs.grow xs r h3⟩
end
/-- an object that stands apart comes into the store -/
theorem Rep.adopt (R : Rep K mg T ρ m H) {p : Addr} {o : O} (hp : p ∉ ρ) (h : RO K mg T (ρ ++ [p]) H o p) : Rep K mg T (ρ ++ [p]) (m ++ [o]) H := by
  have up : ∀ d v, RD K T ρ H d v → RD K T (ρ ++ [p]) H d v := fun d v h => RD.grow d v h
  refine ⟨?_, by simp [R.len], fun i u a h1 h2 => ?_, R.tab⟩
  · rw [List.nodup_append]
    exact ⟨R.nd, by simp, fun a ha b hb => by simp at hb; rw [hb]; rintro rfl; exact hp ha⟩
  · rcases getElem?_snoc h1 with q | ⟨q, rfl⟩
    · have hl : i < ρ.length := by rw [R.len]; exact (List.getElem?_eq_some_iff.mp q).1
      rw [List.getElem?_append_left hl] at h2
      have r := R.at_ i u a q h2
      cases u with
      | lst xs =>
        obtain ⟨vs, e1, e2⟩ := r
        exact ⟨vs, e1, RDs.grow xs vs e2⟩
      | ins c fs =>
        obtain ⟨C, dx, vs, h1, h2, h3, h4, h5, h6⟩ := r
        exact ⟨C, dx, vs, h1, h2, h3, h4, h5, fun k f d q1 q2 => let ⟨v, a, b⟩ := h6 k f d q1 q2; ⟨v, a, up d v b⟩⟩
      | dct kds =>
        obtain ⟨vs, e1, e2, e3⟩ := r
        exact ⟨vs, e1, e2, fun n d q => let ⟨x, v, a, b, c⟩ := e3 n d q; ⟨x, v, a, b, up d v c⟩⟩
    · rw [q, ← R.len] at h2
      have : a = p := by simpa using h2.symm
      subst this
      exact h
end
end Sh

set_option Elab.async false
set_option linter.all false
set_option autoImplicit false
set_option maxRecDepth 100000
set_option maxHeartbeats 2000000
namespace Sh
open PySem PySem.Spec PyProof.Rows L2

/-- what an expression comes to -/
inductive R (α : Type) where
  | ok (a : α) (m : M)
  | ex (x : Nat) (p : List D) (m : M)
  | bad
def R.bind {α β : Type} (r : R α) (g : α → M → R β) : R β := match r with
  | .ok a m => g a m
  | .ex x p m => .ex x p m
  | .bad => .bad
def R.of {α : Type} (o : Option α) (m : M) : R α := match o with
  | some a => .ok a m
  | none => .bad
/-- what a statement comes to -/
inductive S where
  | nx (τ : Sl) (m : M) | rt (d : D) (m : M) | bk (τ : Sl) (m : M) | ct (τ : Sl) (m : M) | ex (x : Nat) (p : List D) (τ : Sl) (m : M) | bad
def bS {α : Type} (r : R α) (τ : Sl) (k : α → M → S) : S := match r with
  | .ok a m => k a m
  | .ex x p m => .ex x p τ m
  | .bad => .bad
def toR (s : S) : R D := match s with
  | .nx _ m => .ok .non m
  | .rt d m => .ok d m
  | .ex x p _ m => .ex x p m
  | _ => .bad

section
variable (K : PySem.W.Frag) (mg : Str → Option Value) (T : Tb)
def PR {α : Type} (W : WX) (σ : L2.St) (ρ : List Addr) (H : Hp) (r : R α) (Q : α → List Addr → M → Hp → Prop) : Prop := match r with
  | .ok a m' => ∀ ρ' H', Ext K ρ H ρ' H' → Rep K mg T ρ' m' H' → Q a ρ' m' H'
  | .ex x p m' => ∀ ρ' H' C dd, Ext K ρ H ρ' H' → Rep K mg T ρ' m' H' → RX K mg T ρ' H' x p C dd → W C dd σ H'
  | .bad => False
def PSr (W : WX) (ρ : List Addr) (H : Hp) (r : S) (E : Ends) : Prop := match r with
  | .nx τ' m' => ∀ ρ' σ' H', Ext K ρ H ρ' H' → Rep K mg T ρ' m' H' → RSl K T ρ' H' τ' σ' → E.nx σ' H'
  | .rt d m' => ∀ ρ' v H', Ext K ρ H ρ' H' → Rep K mg T ρ' m' H' → RD K T ρ' H' d v → E.rt v H'
  | .bk τ' m' => ∀ ρ' σ' H', Ext K ρ H ρ' H' → Rep K mg T ρ' m' H' → RSl K T ρ' H' τ' σ' → E.bk σ' H'
  | .ct τ' m' => ∀ ρ' σ' H', Ext K ρ H ρ' H' → Rep K mg T ρ' m' H' → RSl K T ρ' H' τ' σ' → E.ct σ' H'
  | .ex x p τ' m' => ∀ ρ' σ' H' C dd, Ext K ρ H ρ' H' → Rep K mg T ρ' m' H' → RSl K T ρ' H' τ' σ' → RX K mg T ρ' H' x p C dd → W C dd σ' H'
  | .bad => False
def rdE (W : WX) (f : Sl → M → R D) : TE := fun σ H Q => ∃ ρ τ m, Rep K mg T ρ m H ∧ RSl K T ρ H τ σ ∧ PR K mg T W σ ρ H (f τ m) fun d ρ' _ H' => ∀ v, RD K T ρ' H' d v → Q v H'
def rdT (W : WX) (f : Sl → M → R Bool) : TT := fun σ H Q => ∃ ρ τ m, Rep K mg T ρ m H ∧ RSl K T ρ H τ σ ∧ PR K mg T W σ ρ H (f τ m) fun b _ _ H' => Q b H'
def rdA (W : WX) (f : Sl → M → R (List D)) : TA := fun σ H Q => ∃ ρ τ m, Rep K mg T ρ m H ∧ RSl K T ρ H τ σ ∧ PR K mg T W σ ρ H (f τ m) fun ds ρ' _ H' => ∀ vs, RDs K T ρ' H' ds vs → Q vs H'
/-- a new list that stands apart -/
def rdL (W : WX) (f : Sl → M → R (List D)) : TE := fun σ H Q => ∃ ρ τ m, Rep K mg T ρ m H ∧ RSl K T ρ H τ σ ∧ PR K mg T W σ ρ H (f τ m) fun ds ρ' _ H' => ∀ p vs, H p = none → H' p = some (.lst vs) → p ∉ ρ' → RDs K T ρ' H' ds vs → Q (.ref p) H'
def rdS (W : WX) (f : Sl → M → S) : TS := fun E σ H => ∃ ρ τ m, Rep K mg T ρ m H ∧ RSl K T ρ H τ σ ∧ PSr K mg T W ρ H (f τ m) E
end

section
variable {K : PySem.W.Frag} {mg : Str → Option Value} {T : Tb} {W : WX} {σ : L2.St} {ρ ρ1 ρ' : List Addr} {H H1 H' : Hp} {α β : Type}
theorem PR.imp {r : R α} {Q Q' : α → List Addr → M → Hp → Prop} (h : PR K mg T W σ ρ H r Q) (i : ∀ a ρ' m' H', Ext K ρ H ρ' H' → Rep K mg T ρ' m' H' → Q a ρ' m' H' → Q' a ρ' m' H') : PR K mg T W σ ρ H r Q' := by
  cases r with
  | ok a m => exact fun ρ' H' e R => i a ρ' m H' e R (h ρ' H' e R)
  | ex x p m => exact h
  | bad => exact h
theorem PR.ext {r : R α} {Q : α → List Addr → M → Hp → Prop} (h : PR K mg T W σ ρ H r Q) (e : Ext K ρ H ρ1 H1) : PR K mg T W σ ρ1 H1 r Q := by
  cases r with
  | ok a m => exact fun ρ' H' e' R => h ρ' H' (e.trans e') R
  | ex x p m => exact fun ρ' H' C dd e' R q => h ρ' H' C dd (e.trans e') R q
  | bad => exact h
theorem PR.bind {r : R α} {g : α → M → R β} {Q : β → List Addr → M → Hp → Prop} (h : PR K mg T W σ ρ H (r.bind g) Q) : PR K mg T W σ ρ H r (fun a ρ1 m1 H1 => PR K mg T W σ ρ1 H1 (g a m1) Q) := by
  cases r with
  | ok a m => exact fun ρ' H' e R => PR.ext h e
  | ex x p m => exact h
  | bad => exact h
theorem PR.of {o : Option α} {m : M} {Q : α → List Addr → M → Hp → Prop} (Rp : Rep K mg T ρ m H) (h : PR K mg T W σ ρ H (R.of o m) Q) : ∃ a, o = some a ∧ Q a ρ m H := by
  cases o with
  | none => exact False.elim h
  | some a => exact ⟨a, rfl, h ρ H .refl Rp⟩
theorem PR.ok {a : α} {m : M} {Q : α → List Addr → M → Hp → Prop} (R : Rep K mg T ρ m H) (h : PR K mg T W σ ρ H (.ok a m) Q) : Q a ρ m H := h ρ H .refl R
theorem PSr.ext {r : S} {E : Ends} (h : PSr K mg T W ρ H r E) (e : Ext K ρ H ρ1 H1) : PSr K mg T W ρ1 H1 r E := by
  cases r with
  | nx τ m => exact fun ρ' σ' H' e' R l => h ρ' σ' H' (e.trans e') R l
  | rt d m => exact fun ρ' v H' e' R l => h ρ' v H' (e.trans e') R l
  | bk τ m => exact fun ρ' σ' H' e' R l => h ρ' σ' H' (e.trans e') R l
  | ct τ m => exact fun ρ' σ' H' e' R l => h ρ' σ' H' (e.trans e') R l
  | ex x p τ m => exact fun ρ' σ' H' C dd e' R l q => h ρ' σ' H' C dd (e.trans e') R l q
  | bad => exact h
theorem PSr.bindE {r : R α} {τ : Sl} {k : α → M → S} {E : Ends} (h : PSr K mg T W ρ H (bS r τ k) E) (l : RSl K T ρ H τ σ) : PR K mg T W σ ρ H r (fun a ρ1 m1 H1 => PSr K mg T W ρ1 H1 (k a m1) E) := by
  cases r with
  | ok a m => exact fun ρ' H' e R => PSr.ext h e
  | ex x p m => exact fun ρ' H' C dd e R q => h ρ' σ H' C dd e R (l.ext e) q
  | bad => exact h
end

/-! ### judgements -/
section
variable (X : Cx) (T : Tb)
structure IE (e : Expr) (f : Sl → M → R D) : Prop where
  run : ∀ W, Takes X W → PE X e (rdE X.K X.mg T W f)
structure IT (e : Expr) (f : Sl → M → R Bool) : Prop where
  run : ∀ W, Takes X W → PT X e (rdT X.K X.mg T W f)
structure IW (e : Expr) (f : Sl → M → R Bool) : Prop where
  run : ∀ W, Takes X W → PW X e (rdT X.K X.mg T W f)
structure IA (es : List Expr) (f : Sl → M → R (List D)) : Prop where
  run : ∀ W, Takes X W → PA X es (rdA X.K X.mg T W f)
structure IL (e : Expr) (f : Sl → M → R (List D)) : Prop where
  run : ∀ W, Takes X W → PE X e (rdL X.K X.mg T W f)
structure IS (s : Stmt) (f : Sl → M → S) : Prop where
  run : ∀ W, Takes X W → PS X s (rdS X.K X.mg T W f)
structure ISs (s : List Stmt) (f : Sl → M → S) : Prop where
  run : ∀ W, Takes X W → PSs X s (rdS X.K X.mg T W f)
end

section
variable {X : Cx} {T : Tb} {e a b c : Expr} {es : List Expr} {pos : Pos}
theorem pe_imp {t t' : TE} (h : PE X e t) (i : ∀ σ H Q, t' σ H Q → t σ H Q) : PE X e t' := ⟨fun pins s σ H Q I q => h.run pins s σ H Q I (i σ H Q q)⟩
theorem pt_imp {t t' : TT} (h : PT X e t) (i : ∀ σ H Q, t' σ H Q → t σ H Q) : PT X e t' := ⟨fun pins s σ H Q I q => h.run pins s σ H Q I (i σ H Q q)⟩
theorem pw_imp {t t' : TT} (h : PW X e t) (i : ∀ σ H Q, t' σ H Q → t σ H Q) : PW X e t' := ⟨fun wh pins s σ H Q I q => h.run wh pins s σ H Q I (i σ H Q q)⟩
theorem pa_imp {t t' : TA} (h : PA X es t) (i : ∀ σ H Q, t' σ H Q → t σ H Q) : PA X es t' := ⟨fun pos pins s σ H Q I q => h.run pos pins s σ H Q I (i σ H Q q)⟩
theorem ps_imp {s : Stmt} {t t' : TS} (h : PS X s t) (i : ∀ σ H Q, t' Q σ H → t Q σ H) : PS X s t' := ⟨fun pins s σ H Q I q => h.run pins s σ H Q I (i σ H Q q)⟩
theorem pss_imp {s : List Stmt} {t t' : TS} (h : PSs X s t) (i : ∀ σ H Q, t' Q σ H → t Q σ H) : PSs X s t' := ⟨fun pins s σ H Q I q => h.run pins s σ H Q I (i σ H Q q)⟩

/-! ### names, constants -/
def eVar (i : Nat) : Sl → M → R D := fun τ m => match τ[i]? with
  | some (some d) => .ok d m
  | _ => .bad
def eC (d : D) : Sl → M → R D := fun _ m => .ok d m
theorem ie_var {i : Nat} (h : PE X e (tVar i)) : IE X T e (eVar i) := ⟨fun W _ => pe_imp h fun σ H Q ⟨ρ, τ, m, R, l, q⟩ => by
  unfold eVar at q
  split at q
  · rename_i d hd
    obtain ⟨v, h1, h2⟩ := l.2.1 i d hd
    exact ⟨v, h1, q.ok R v h2⟩
  · exact False.elim q⟩
theorem ie_con {v : V} {d : D} (h : PE X e (tC v)) (r : ∀ ρ H, RD X.K T ρ H d v) : IE X T e (eC d) := ⟨fun W _ => pe_imp h fun σ H Q ⟨ρ, τ, m, R, l, q⟩ => PR.ok R q v (r ρ H)⟩
theorem ie_int {i : Int} {j : Nat} : IE X T (.Constant (.int i) j pos) (eC (.int i)) := ie_con pe_int fun _ _ => rfl
theorem ie_bl {b : Bool} {j : Nat} : IE X T (.Constant (.bool b) j pos) (eC (.bl b)) := ie_con pe_bl fun _ _ => rfl
theorem ie_non {j : Nat} : IE X T (.Constant .none j pos) (eC .non) := ie_con pe_non fun _ _ => rfl
theorem ie_wd {x : Str} {j : Nat} (n : Nat) (h : T.wds[n]? = some x := by rfl) : IE X T (.Constant (.str x) j pos) (eC (.wd n)) := ie_con pe_str fun _ _ => ⟨x, h, rfl⟩
theorem ie_never {f : Sl → M → R D} (hb : ∀ τ m, f τ m = .bad) : IE X T e f := ⟨fun W _ => ⟨fun pins s σ H Q I ⟨ρ, τ, m, R, l, q⟩ => by rw [hb] at q; exact False.elim q⟩⟩

/-! ### operators -/
/-- a two-place operation on values of the store -/
def OpS (X : Cx) (T : Tb) (f : Value → Value → Sem Value) (g : M → D → D → Option D) : Prop :=
  ∃ r, OpR X f r ∧ ∀ ρ m H (x y d : D) (v u : V) (Q : VK), Rep X.K X.mg T ρ m H → RD X.K T ρ H x v → RD X.K T ρ H y u → g m x y = some d → (∀ w, RD X.K T ρ H d w → Q w H) → r v u H Q
def eOp (g : M → D → D → Option D) (fa fb : Sl → M → R D) : Sl → M → R D := fun τ m => (fa τ m).bind fun x m1 => (fb τ m1).bind fun y m2 => R.of (g m2 x y) m2
theorem read2 {W : WX} {fa fb : Sl → M → R D} {g : M → D → D → Option D} {ρ : List Addr} {τ : Sl} {m : M} {σ : L2.St} {H : Hp} {Q : D → List Addr → M → Hp → Prop} {K : PySem.W.Frag} {mg : Str → Option Value}
    (R : Rep K mg T ρ m H) (l : RSl K T ρ H τ σ) (q : PR K mg T W σ ρ H (eOp g fa fb τ m) Q) :
    rdE K mg T W fa σ H fun v H1 => rdE K mg T W fb σ H1 fun u H2 => ∃ ρ2 m2 x y d, Rep K mg T ρ2 m2 H2 ∧ RD K T ρ2 H2 x v ∧ RD K T ρ2 H2 y u ∧ g m2 x y = some d ∧ Q d ρ2 m2 H2 := by
  refine ⟨ρ, τ, m, R, l, q.bind.imp fun x ρ1 m1 H1 e1 R1 q1 v rv => ?_⟩
  refine ⟨ρ1, τ, m1, R1, l.ext e1, q1.bind.imp fun y ρ2 m2 H2 e2 R2 q2 u ru => ?_⟩
  obtain ⟨d, hd, q3⟩ := PR.of R2 q2
  exact ⟨ρ2, m2, x, y, d, R2, RD.ext e2 _ _ rv, ru, hd, q3⟩
theorem ie_op {op : Operator} {g : M → D → D → Option D} {fa fb : Sl → M → R D} (ho : OpS X T (binaryOp op) g) (ha : IE X T a fa) (hb : IE X T b fb) : IE X T (.BinOp a op b pos) (eOp g fa fb) := by
  obtain ⟨r, h1, h2⟩ := ho
  refine ⟨fun W tk => ⟨fun pins s σ H Q I ⟨ρ, τ, m, R, l, q⟩ => ?_⟩⟩
  refine wpAny_BinOp (binT (ha.run W tk) (hb.run W tk) I (read2 R l q) fun v u s2 x y H2 I2 rx ry ⟨ρ2, m2, dx, dy, d, R2, r1, r2, hd, q2⟩ => ?_)
  exact h1 pins s2 σ H2 x y v u Q I2 rx ry (h2 ρ2 m2 H2 dx dy d x y Q R2 r1 r2 hd q2)
theorem ie_cmp {op : CmpOp} {g : M → D → D → Option D} {fa fb : Sl → M → R D} (ho : OpS X T (compareOp op) g) (ha : IE X T a fa) (hb : IE X T b fb) (hm : behindInMarks op b = false) : IE X T (.Compare a [op] [b] pos) (eOp g fa fb) := by
  obtain ⟨r, h1, h2⟩ := ho
  refine ⟨fun W tk => ⟨fun pins s σ H Q I ⟨ρ, τ, m, R, l, q⟩ => ?_⟩⟩
  refine wpAny_Compare1 (binT (ha.run W tk) (hb.run W tk) I (read2 R l q) fun v u s2 x y H2 I2 rx ry ⟨ρ2, m2, dx, dy, d, R2, r1, r2, hd, q2⟩ => ?_) hm
  exact h1 pins s2 σ H2 x y v u Q I2 rx ry (h2 ρ2 m2 H2 dx dy d x y Q R2 r1 r2 hd q2)
def asB (d : D) (m : M) : R Bool := match d with
  | .bl b => .ok b m
  | _ => .bad
def tB (f : Sl → M → R D) : Sl → M → R Bool := fun τ m => (f τ m).bind asB
theorem rdT_val {W : WX} {f : Sl → M → R D} {σ : L2.St} {H : Hp} {Q : Bool → Hp → Prop} {K : PySem.W.Frag} {mg : Str → Option Value} (h : rdT K mg T W (tB f) σ H Q) : rdE K mg T W f σ H fun x H1 => ∃ c, x = .bl c ∧ Q c H1 := by
  obtain ⟨ρ, τ, m, R, l, q⟩ := h
  refine ⟨ρ, τ, m, R, l, q.bind.imp fun d ρ1 m1 H1 e1 R1 q1 v rv => ?_⟩
  cases d with
  | bl b =>
    have rv' : v = .bl b := rv
    exact ⟨b, rv', PR.ok R1 q1⟩
  | _ => exact False.elim q1
theorem it_cmp {op : CmpOp} {g : M → D → D → Option D} {fa fb : Sl → M → R D} (ho : OpS X T (compareOp op) g) (ha : IE X T a fa) (hb : IE X T b fb) (hm : behindInMarks op b = false) : IT X T (.Compare a [op] [b] pos) (tB (eOp g fa fb)) := by
  obtain ⟨r, h1, h2⟩ := ho
  refine ⟨fun W tk => ⟨fun pins s σ H Q I ⟨ρ, τ, m, R, l, q⟩ => ?_⟩⟩
  have q' := read2 R l (PR.bind q)
  refine wpAny_isTrue_Compare1 (thn ((ha.run W tk).run pins s σ H _ I q') fun v s1 ⟨x, H1, I1, r1, q1⟩ => thn ((hb.run W tk).run pins s1 σ H1 _ I1 q1) fun u s2 ⟨y, H2, I2, r2, ρ2, m2, dx, dy, d, R2, d1, d2, hd, q2⟩ =>
    thn (h1 pins s2 σ H2 x y v u (fun z H3 => ∃ k, z = .bl k ∧ Q k H3) I2 r1 r2 (h2 ρ2 m2 H2 dx dy d x y _ R2 d1 d2 hd fun w rw => ?_)) fun c s3 ⟨z, H3, I3, r3, k, e, q3⟩ => ?_) hm
  · cases d with
    | bl b =>
      have rw' : w = .bl b := rw
      exact ⟨b, rw', PR.ok R2 q2⟩
    | _ => exact False.elim q2
  · subst e
    cases r3
    exact wpAny_truthy_bool ⟨H3, I3, q3⟩
/-- a call, a name ..: an expression whose value is a bool -/
theorem it_val {f : Sl → M → R D} (h : IE X T e f) (he : ∀ whole, isTrue e X.env whole = (do let v ← whole; standAt e.pos; holding [v] (truthy v)) := by intro _; rfl) : IT X T e (tB f) :=
  ⟨fun W tk => pt_imp (pt_val (h.run W tk) he) fun _ _ _ q => rdT_val q⟩

/-! ### and, or, not, if .. else -/
def tAnd (f g : Sl → M → R Bool) : Sl → M → R Bool := fun τ m => (f τ m).bind fun b m1 => if b = true then g τ m1 else .ok false m1
def tOr (f g : Sl → M → R Bool) : Sl → M → R Bool := fun τ m => (f τ m).bind fun b m1 => if b = true then .ok true m1 else g τ m1
def tNot (f : Sl → M → R Bool) : Sl → M → R Bool := fun τ m => (f τ m).bind fun b m1 => .ok (!b) m1
variable {rest : List Expr}
theorem iw_and1 {f : Sl → M → R Bool} (h : IT X T a f) : IW X T (.BoolOp .And [a] pos) f := ⟨fun W tk => pw_and1 (h.run W tk)⟩
theorem iw_or1 {f : Sl → M → R Bool} (h : IT X T a f) : IW X T (.BoolOp .Or [a] pos) f := ⟨fun W tk => pw_or1 (h.run W tk)⟩
theorem iw_and {f g : Sl → M → R Bool} (ha : IT X T a f) (hb : IW X T (.BoolOp .And (b :: rest) pos) g) : IW X T (.BoolOp .And (a :: b :: rest) pos) (tAnd f g) :=
  ⟨fun W tk => pw_imp (pw_and (ha.run W tk) (hb.run W tk)) fun σ H Q ⟨ρ, τ, m, R, l, q⟩ => ⟨ρ, τ, m, R, l, q.bind.imp fun k ρ1 m1 H1 e1 R1 q1 => by
    cases k with
    | true =>
      rw [if_pos rfl] at q1
      exact (if_pos rfl).mpr ⟨ρ1, τ, m1, R1, l.ext e1, q1⟩
    | false =>
      rw [if_neg Bool.false_ne_true] at q1
      exact (if_neg Bool.false_ne_true).mpr (PR.ok R1 q1)⟩⟩
theorem iw_or {f g : Sl → M → R Bool} (ha : IT X T a f) (hb : IW X T (.BoolOp .Or (b :: rest) pos) g) : IW X T (.BoolOp .Or (a :: b :: rest) pos) (tOr f g) :=
  ⟨fun W tk => pw_imp (pw_or (ha.run W tk) (hb.run W tk)) fun σ H Q ⟨ρ, τ, m, R, l, q⟩ => ⟨ρ, τ, m, R, l, q.bind.imp fun k ρ1 m1 H1 e1 R1 q1 => by
    cases k with
    | true =>
      rw [if_pos rfl] at q1
      exact (if_pos rfl).mpr (PR.ok R1 q1)
    | false =>
      rw [if_neg Bool.false_ne_true] at q1
      exact (if_neg Bool.false_ne_true).mpr ⟨ρ1, τ, m1, R1, l.ext e1, q1⟩⟩⟩
theorem it_w {f : Sl → M → R Bool} (h : IW X T e f) : IT X T e f := ⟨fun W tk => (h.run W tk).pt⟩
theorem it_not {f : Sl → M → R Bool} (h : IT X T a f) : IT X T (.UnaryOp .Not a pos) (tNot f) :=
  ⟨fun W tk => pt_imp (pt_not (h.run W tk)) fun σ H Q ⟨ρ, τ, m, R, l, q⟩ => ⟨ρ, τ, m, R, l, q.bind.imp fun k ρ1 m1 H1 e1 R1 q1 => PR.ok R1 q1⟩⟩
/-- .. as values -/
def eAnd (f g : Sl → M → R D) : Sl → M → R D := fun τ m => (f τ m).bind fun d m1 => match d with
  | .bl true => g τ m1
  | .bl false => .ok (.bl false) m1
  | _ => .bad
def eOr (f g : Sl → M → R D) : Sl → M → R D := fun τ m => (f τ m).bind fun d m1 => match d with
  | .bl true => .ok (.bl true) m1
  | .bl false => g τ m1
  | _ => .bad
def eNot (f : Sl → M → R D) : Sl → M → R D := fun τ m => (f τ m).bind fun d m1 => match d with
  | .bl k => .ok (.bl (!k)) m1
  | _ => .bad
theorem ie_one {op : BoolOp} {f : Sl → M → R D} (h : IE X T a f) : IE X T (.BoolOp op [a] pos) f := ⟨fun W tk => pe_one (h.run W tk)⟩
theorem ie_and {f g : Sl → M → R D} (ha : IE X T a f) (hb : IE X T (.BoolOp .And (b :: rest) pos) g) : IE X T (.BoolOp .And (a :: b :: rest) pos) (eAnd f g) :=
  ⟨fun W tk => pe_imp (pe_and (ha.run W tk) (hb.run W tk)) fun σ H Q ⟨ρ, τ, m, R, l, q⟩ => ⟨ρ, τ, m, R, l, q.bind.imp fun d ρ1 m1 H1 e1 R1 q1 v rv => by
    cases d with
    | bl k =>
      have rv' : v = .bl k := rv
      cases k with
      | true => exact ⟨true, rv', (if_pos rfl).mpr ⟨ρ1, τ, m1, R1, l.ext e1, q1⟩⟩
      | false => exact ⟨false, rv', (if_neg Bool.false_ne_true).mpr (PR.ok R1 q1 _ rfl)⟩
    | _ => exact False.elim q1⟩⟩
theorem ie_or {f g : Sl → M → R D} (ha : IE X T a f) (hb : IE X T (.BoolOp .Or (b :: rest) pos) g) : IE X T (.BoolOp .Or (a :: b :: rest) pos) (eOr f g) :=
  ⟨fun W tk => pe_imp (pe_or (ha.run W tk) (hb.run W tk)) fun σ H Q ⟨ρ, τ, m, R, l, q⟩ => ⟨ρ, τ, m, R, l, q.bind.imp fun d ρ1 m1 H1 e1 R1 q1 v rv => by
    cases d with
    | bl k =>
      have rv' : v = .bl k := rv
      cases k with
      | true => exact ⟨true, rv', (if_pos rfl).mpr (PR.ok R1 q1 _ rfl)⟩
      | false => exact ⟨false, rv', (if_neg Bool.false_ne_true).mpr ⟨ρ1, τ, m1, R1, l.ext e1, q1⟩⟩
    | _ => exact False.elim q1⟩⟩
theorem ie_not {f : Sl → M → R D} (ha : IE X T a f) : IE X T (.UnaryOp .Not a pos) (eNot f) :=
  ⟨fun W tk => pe_imp (pe_not (ha.run W tk)) fun σ H Q ⟨ρ, τ, m, R, l, q⟩ => ⟨ρ, τ, m, R, l, q.bind.imp fun d ρ1 m1 H1 e1 R1 q1 v rv => by
    cases d with
    | bl k =>
      have rv' : v = .bl k := rv
      exact ⟨k, rv', PR.ok R1 q1 _ rfl⟩
    | _ => exact False.elim q1⟩⟩
def eIf (c : Sl → M → R Bool) (f g : Sl → M → R D) : Sl → M → R D := fun τ m => (c τ m).bind fun b m1 => if b = true then f τ m1 else g τ m1
theorem ie_if {fc : Sl → M → R Bool} {f g : Sl → M → R D} (hc : IT X T c fc) (ha : IE X T a f) (hb : IE X T b g) : IE X T (.IfExp c a b pos) (eIf fc f g) :=
  ⟨fun W tk => pe_imp (pe_ifExp (hc.run W tk) (ha.run W tk) (hb.run W tk)) fun σ H Q ⟨ρ, τ, m, R, l, q⟩ => ⟨ρ, τ, m, R, l, q.bind.imp fun k ρ1 m1 H1 e1 R1 q1 => by
    cases k with
    | true =>
      rw [if_pos rfl] at q1
      exact (if_pos rfl).mpr ⟨ρ1, τ, m1, R1, l.ext e1, q1⟩
    | false =>
      rw [if_neg Bool.false_ne_true] at q1
      exact (if_neg Bool.false_ne_true).mpr ⟨ρ1, τ, m1, R1, l.ext e1, q1⟩⟩⟩
end
end Sh

set_option Elab.async false
set_option linter.all false
set_option autoImplicit false
set_option maxRecDepth 100000
set_option maxHeartbeats 2000000
namespace Sh
open PySem PySem.Spec PyProof.Rows L2

/-! ### ints -/
def gI (f : Int → Int → Int) : M → D → D → Option D := fun _ x y => match x, y with
  | .int i, .int j => some (.int (f i j))
  | _, _ => none
def gIc (C : Int → Int → Bool) (f : Int → Int → Int) : M → D → D → Option D := fun _ x y => match x, y with
  | .int i, .int j => if C i j = true then some (.int (f i j)) else none
  | _, _ => none
def gB (f : Int → Int → Bool) : M → D → D → Option D := fun _ x y => match x, y with
  | .int i, .int j => some (.bl (f i j))
  | _, _ => none
section
variable {X : Cx} {T : Tb}
theorem opS_I {f : Value → Value → Sem Value} {g : Int → Int → Int} (h : OpR X f (rI0 fun i j => .int (g i j))) : OpS X T f (gI g) :=
  ⟨_, h, fun ρ m H x y d v u Q R rx ry hd q => by
    cases x with
    | int i =>
      cases y with
      | int j =>
        have e1 : v = .int i := rx
        have e2 : u = .int j := ry
        have hd' : some (D.int (g i j)) = some d := hd
        cases hd'
        exact ⟨i, j, e1, e2, q _ rfl⟩
      | _ => cases hd
    | _ => cases hd⟩
theorem opS_B {f : Value → Value → Sem Value} {g : Int → Int → Bool} (h : OpR X f (rI0 fun i j => .bl (g i j))) : OpS X T f (gB g) :=
  ⟨_, h, fun ρ m H x y d v u Q R rx ry hd q => by
    cases x with
    | int i =>
      cases y with
      | int j =>
        have e1 : v = .int i := rx
        have e2 : u = .int j := ry
        have hd' : some (D.bl (g i j)) = some d := hd
        cases hd'
        exact ⟨i, j, e1, e2, q _ rfl⟩
      | _ => cases hd
    | _ => cases hd⟩
theorem opS_Ic {f : Value → Value → Sem Value} {C : Int → Int → Bool} {C' : Int → Int → Prop} {g : Int → Int → Int} (h : OpR X f (rI C' fun i j => .int (g i j))) (hc : ∀ i j, C i j = true → C' i j) : OpS X T f (gIc C g) :=
  ⟨_, h, fun ρ m H x y d v u Q R rx ry hd q => by
    cases x with
    | int i =>
      cases y with
      | int j =>
        have e1 : v = .int i := rx
        have e2 : u = .int j := ry
        have hd' : (if C i j = true then some (D.int (g i j)) else none) = some d := hd
        by_cases z : C i j = true
        · rw [if_pos z] at hd'
          cases hd'
          exact ⟨i, j, e1, e2, hc i j z, q _ rfl⟩
        · rw [if_neg z] at hd'
          cases hd'
      | _ => cases hd
    | _ => cases hd⟩
abbrev gAdd := gI fun i j => i + j
abbrev gSub := gI fun i j => i - j
abbrev gMul := gIc (fun i j => decide ((-(2 ^ 64) < i ∧ i < 2 ^ 64) ∨ (-(2 ^ 64) < j ∧ j < 2 ^ 64))) fun i j => i * j
abbrev gDiv := gIc (fun i j => decide (0 < j ∧ j < 1073741824)) fun i j => i / j
abbrev gMod := gIc (fun i j => decide (0 < j)) fun i j => i % j
abbrev gPow := gIc (fun i j => decide (0 ≤ j ∧ j ≤ 1000000 ∧ i.natAbs < 2 ^ 64)) fun i j => i ^ j.toNat
theorem o_add : OpS X T (binaryOp .Add) gAdd := opS_I op_add
theorem o_sub : OpS X T (binaryOp .Sub) gSub := opS_I op_sub
theorem o_mul : OpS X T (binaryOp .Mult) gMul := opS_Ic op_mul fun i j h => by unfold CMul; exact of_decide_eq_true h
theorem o_div : OpS X T (binaryOp .FloorDiv) gDiv := opS_Ic op_fdiv fun i j h => by unfold CDiv; exact of_decide_eq_true h
theorem o_mod : OpS X T (binaryOp .Mod) gMod := opS_Ic op_mod fun _ _ h => of_decide_eq_true h
theorem o_pow : OpS X T (binaryOp .Pow) gPow := opS_Ic op_pow fun i j h => by unfold CPow; exact of_decide_eq_true h
theorem o_lt : OpS X T (compareOp .Lt) (gB fun i j => decide (i < j)) := opS_B op_lt
theorem o_le : OpS X T (compareOp .LtE) (gB fun i j => decide (i ≤ j)) := opS_B op_le
theorem o_gt : OpS X T (compareOp .Gt) (gB fun i j => decide (j < i)) := opS_B op_gt
theorem o_ge : OpS X T (compareOp .GtE) (gB fun i j => decide (j ≤ i)) := opS_B op_ge
/-- a += by ints -/
theorem o_iadd : OpS X T (inplaceOp .Add) gAdd := opS_I iop_add
end

/-! ### ==, != of scalars -/
/-- whether two scalars are the same; none: not told here -/
def eqS : D → D → Option Bool
  | .int i, .int j => some (decide (i = j))
  | .bl i, .bl j => some (decide (i = j))
  | .wd i, .wd j => some (decide (i = j))
  | .non, .non => some true
  | .non, .int _ => some false | .int _, .non => some false
  | .non, .bl _ => some false | .bl _, .non => some false
  | .non, .wd _ => some false | .wd _, .non => some false
  | .int _, .wd _ => some false | .wd _, .int _ => some false
  | .bl _, .wd _ => some false | .wd _, .bl _ => some false
  | .str x, .str y => some (decide (x = y))
  | _, _ => none
def gEq : M → D → D → Option D := fun _ x y => (eqS x y).map .bl
def gNe : M → D → D → Option D := fun _ x y => (eqS x y).map fun b => .bl (!b)
theorem wd_inj {T : Tb} (hn : T.wds.Nodup) {i j : Nat} {x : Str} (a : T.wds[i]? = some x) (b : T.wds[j]? = some x) : i = j := nodup_ix hn a b
theorem eqS_ok {K : PySem.W.Frag} {T : Tb} (hn : T.wds.Nodup) {ρ : List Addr} {H : Hp} {x y : D} {v u : V} {b : Bool} (rx : RD K T ρ H x v) (ry : RD K T ρ H y u) (h : eqS x y = some b) : scal v u = true ∧ decide (v = u) = b := by
  cases x with
  | non =>
    have e1 : v = .non := rx
    subst e1
    cases y with
    | non => have e2 : u = .non := ry; subst e2; cases h; exact ⟨rfl, by simp⟩
    | int j => have e2 : u = .int j := ry; subst e2; cases h; exact ⟨rfl, by simp⟩
    | bl j => have e2 : u = .bl j := ry; subst e2; cases h; exact ⟨rfl, by simp⟩
    | wd j => obtain ⟨z, _, e2⟩ := ry; subst e2; cases h; exact ⟨rfl, by simp⟩
    | _ => cases h
  | int i =>
    have e1 : v = .int i := rx
    subst e1
    cases y with
    | non => have e2 : u = .non := ry; subst e2; cases h; exact ⟨rfl, by simp⟩
    | int j => have e2 : u = .int j := ry; subst e2; cases h; exact ⟨rfl, by simp⟩
    | wd j => obtain ⟨z, _, e2⟩ := ry; subst e2; cases h; exact ⟨rfl, by simp⟩
    | _ => cases h
  | bl i =>
    have e1 : v = .bl i := rx
    subst e1
    cases y with
    | non => have e2 : u = .non := ry; subst e2; cases h; exact ⟨rfl, by simp⟩
    | bl j => have e2 : u = .bl j := ry; subst e2; cases h; exact ⟨rfl, by simp⟩
    | wd j => obtain ⟨z, _, e2⟩ := ry; subst e2; cases h; exact ⟨rfl, by simp⟩
    | _ => cases h
  | wd i =>
    obtain ⟨z, hz, e1⟩ := rx
    subst e1
    cases y with
    | non => have e2 : u = .non := ry; subst e2; cases h; exact ⟨rfl, by simp⟩
    | int j => have e2 : u = .int j := ry; subst e2; cases h; exact ⟨rfl, by simp⟩
    | bl j => have e2 : u = .bl j := ry; subst e2; cases h; exact ⟨rfl, by simp⟩
    | wd j =>
      obtain ⟨z2, hz2, e2⟩ := ry
      subst e2
      have h' : decide (i = j) = b := Option.some.inj h
      subst h'
      refine ⟨rfl, ?_⟩
      by_cases e : i = j
      · subst e
        rw [hz] at hz2; cases hz2
        simp
      · have ne : z ≠ z2 := fun q => e (wd_inj hn hz (by rw [hz2, q]))
        simp [e, ne]
    | _ => cases h
  | str i =>
    have e1 : v = .str i := rx
    subst e1
    cases y with
    | str j => have e2 : u = .str j := ry; subst e2; have h' : decide (i = j) = b := Option.some.inj h; subst h'; exact ⟨rfl, by simp⟩
    | _ => cases h
  | _ => cases h
section
variable {X : Cx} {T : Tb}
theorem o_eq (hn : T.wds.Nodup) : OpS X T (compareOp .Eq) gEq := ⟨_, op_eq, fun ρ m H x y d v u Q R rx ry hd q => by
  unfold gEq at hd
  cases e : eqS x y with
  | none => rw [e] at hd; cases hd
  | some b =>
    rw [e] at hd
    have hd' : some (D.bl b) = some d := hd
    cases hd'
    obtain ⟨h1, h2⟩ := eqS_ok hn rx ry e
    exact ⟨h1, q _ (by rw [h2]; rfl)⟩⟩
theorem o_ne (hn : T.wds.Nodup) : OpS X T (compareOp .NotEq) gNe := ⟨_, op_ne, fun ρ m H x y d v u Q R rx ry hd q => by
  unfold gNe at hd
  cases e : eqS x y with
  | none => rw [e] at hd; cases hd
  | some b =>
    rw [e] at hd
    have hd' : some (D.bl (!b)) = some d := hd
    cases hd'
    obtain ⟨h1, h2⟩ := eqS_ok hn rx ry e
    exact ⟨h1, q _ (by rw [h2]; rfl)⟩⟩
/-- is None -/
def isNon : D → Bool
  | .non => true
  | _ => false
theorem isNon_ok {K : PySem.W.Frag} {T : Tb} {ρ : List Addr} {H : Hp} {x : D} {v : V} (r : RD K T ρ H x v) : decide (v = .non) = isNon x := by
  cases x with
  | non => have e : v = .non := r; subst e; rfl
  | bl b => have e : v = .bl b := r; subst e; rfl
  | int b => have e : v = .int b := r; subst e; rfl
  | str b => have e : v = .str b := r; subst e; rfl
  | ty b => have e : v = .ty b.name := r; subst e; rfl
  | wd b => obtain ⟨_, _, e⟩ := r; subst e; rfl
  | obj b => obtain ⟨_, _, e⟩ := r; subst e; rfl
  | tup b => obtain ⟨_, _, e, _⟩ := r; subst e; rfl
  | frl b => obtain ⟨_, _, e, _⟩ := r; subst e; rfl
def gIs : M → D → D → Option D := fun _ x y => match y with
  | .non => some (.bl (isNon x))
  | _ => none
def gIsN : M → D → D → Option D := fun _ x y => match y with
  | .non => some (.bl (!isNon x))
  | _ => none
theorem o_is : OpS X T (compareOp .Is) gIs := ⟨_, op_isN, fun ρ m H x y d v u Q R rx ry hd q => by
  cases y with
  | non =>
    have hd' : some (D.bl (isNon x)) = some d := hd
    cases hd'
    exact ⟨ry, q _ (by rw [isNon_ok rx]; rfl)⟩
  | _ => cases hd⟩
theorem o_isn : OpS X T (compareOp .IsNot) gIsN := ⟨_, op_notN, fun ρ m H x y d v u Q R rx ry hd q => by
  cases y with
  | non =>
    have hd' : some (D.bl (!isNon x)) = some d := hd
    cases hd'
    exact ⟨ry, q _ (by rw [isNon_ok rx]; rfl)⟩
  | _ => cases hd⟩
end

/-! ### chains -/
section
variable {X : Cx} {T : Tb} {a b c : Expr} {pos : Pos}
def eChain (g g' : M → D → D → Option D) (fa fb fc : Sl → M → R D) : Sl → M → R D := fun τ m => (fa τ m).bind fun x m1 => (fb τ m1).bind fun y m2 => match g m2 x y with
  | some (.bl true) => (fc τ m2).bind fun z m3 => R.of (g' m3 y z) m3
  | some (.bl false) => .ok (.bl false) m2
  | _ => .bad
theorem ie_chain {op op' : CmpOp} {g g' : M → D → D → Option D} {fa fb fc : Sl → M → R D} (ho : OpS X T (compareOp op) g) (ho' : OpS X T (compareOp op') g') (ha : IE X T a fa) (hb : IE X T b fb) (hc : IE X T c fc)
    (hm : lastMarks [op, op'] [b, c] = false := by with_unfolding_all rfl) : IE X T (.Compare a [op, op'] [b, c] pos) (eChain g g' fa fb fc) := by
  obtain ⟨r, h1, h2⟩ := ho
  obtain ⟨r', h1', h2'⟩ := ho'
  refine ⟨fun W tk => pe_imp (pe_chain h1 h1' (ha.run W tk) (hb.run W tk) (hc.run W tk) hm) fun σ H Q ⟨ρ, τ, m, R, l, q⟩ => ?_⟩
  refine ⟨ρ, τ, m, R, l, q.bind.imp fun x ρ1 m1 H1 e1 R1 q1 v rv => ⟨ρ1, τ, m1, R1, l.ext e1, q1.bind.imp fun y ρ2 m2 H2 e2 R2 q2 u ru => ?_⟩⟩
  cases e : g m2 x y with
  | none => rw [e] at q2; exact False.elim q2
  | some d =>
    rw [e] at q2
    cases d with
    | bl k =>
      refine h2 ρ2 m2 H2 x y _ v u _ R2 (RD.ext e2 _ _ rv) ru e fun w rw => ?_
      have rw' : w = .bl k := rw
      cases k with
      | true =>
        refine ⟨true, rw', (if_pos rfl).mpr ⟨ρ2, τ, m2, R2, (l.ext e1).ext e2, q2.bind.imp fun z ρ3 m3 H3 e3 R3 q3 t rt => ?_⟩⟩
        obtain ⟨d, hd, q4⟩ := PR.of R3 q3
        exact h2' ρ3 m3 H3 y z d u t Q R3 (RD.ext e3 _ _ ru) rt hd q4
      | false => exact ⟨false, rw', (if_neg Bool.false_ne_true).mpr (PR.ok R2 q2 _ rfl)⟩
    | _ => exact False.elim q2
theorem it_chain {op op' : CmpOp} {g g' : M → D → D → Option D} {fa fb fc : Sl → M → R D} (ho : OpS X T (compareOp op) g) (ho' : OpS X T (compareOp op') g') (ha : IE X T a fa) (hb : IE X T b fb) (hc : IE X T c fc)
    (hm : lastMarks [op, op'] [b, c] = false := by with_unfolding_all rfl) : IT X T (.Compare a [op, op'] [b, c] pos) (tB (eChain g g' fa fb fc)) := by
  obtain ⟨r, h1, h2⟩ := ho
  obtain ⟨r', h1', h2'⟩ := ho'
  refine ⟨fun W tk => pt_imp (pt_chain h1 h1' (ha.run W tk) (hb.run W tk) (hc.run W tk) hm) fun σ H Q h => ?_⟩
  obtain ⟨ρ, τ, m, R, l, q⟩ := rdT_val h
  refine ⟨ρ, τ, m, R, l, q.bind.imp fun x ρ1 m1 H1 e1 R1 q1 v rv => ⟨ρ1, τ, m1, R1, l.ext e1, q1.bind.imp fun y ρ2 m2 H2 e2 R2 q2 u ru => ?_⟩⟩
  cases e : g m2 x y with
  | none => rw [e] at q2; exact False.elim q2
  | some d =>
    rw [e] at q2
    cases d with
    | bl k =>
      refine h2 ρ2 m2 H2 x y _ v u _ R2 (RD.ext e2 _ _ rv) ru e fun w rw => ?_
      have rw' : w = .bl k := rw
      cases k with
      | true =>
        refine ⟨true, rw', (if_pos rfl).mpr ⟨ρ2, τ, m2, R2, (l.ext e1).ext e2, q2.bind.imp fun z ρ3 m3 H3 e3 R3 q3 t rt => ?_⟩⟩
        obtain ⟨d, hd, q4⟩ := PR.of R3 q3
        exact h2' ρ3 m3 H3 y z d u t _ R3 (RD.ext e3 _ _ ru) rt hd q4
      | false => exact ⟨false, rw', (if_neg Bool.false_ne_true).mpr (PR.ok R2 q2 _ rfl)⟩
    | _ => exact False.elim q2
end

/-! ### argument lists, tuples, lists -/
section
variable {X : Cx} {T : Tb} {e : Expr} {es : List Expr} {pos : Pos}
def lNil : Sl → M → R (List D) := fun _ m => .ok [] m
def lCons (f : Sl → M → R D) (g : Sl → M → R (List D)) : Sl → M → R (List D) := fun τ m => (f τ m).bind fun x m1 => (g τ m1).bind fun xs m2 => .ok (x :: xs) m2
theorem ia_nil : IA X T [] lNil := ⟨fun W tk => pa_imp pa_nil fun σ H Q ⟨ρ, τ, m, R, l, q⟩ => PR.ok R q [] rfl⟩
theorem ia_cons {f : Sl → M → R D} {g : Sl → M → R (List D)} (ha : IE X T e f) (hr : IA X T es g) (hs : starEach (e :: es) X.env = (false, eval e X.env) :: starEach es X.env := by rfl) : IA X T (e :: es) (lCons f g) :=
  ⟨fun W tk => pa_imp (pa_cons (ha.run W tk) (hr.run W tk) hs) fun σ H Q ⟨ρ, τ, m, R, l, q⟩ => ⟨ρ, τ, m, R, l, q.bind.imp fun x ρ1 m1 H1 e1 R1 q1 v rv =>
    ⟨ρ1, τ, m1, R1, l.ext e1, q1.bind.imp fun xs ρ2 m2 H2 e2 R2 q2 vs rvs => PR.ok R2 q2 _ ⟨v, vs, rfl, RD.ext e2 _ _ rv, rvs⟩⟩⟩⟩
def eTup (f : Sl → M → R (List D)) : Sl → M → R D := fun τ m => (f τ m).bind fun xs m1 => if xs.length ≤ 1000 then .ok (.tup xs) m1 else .bad
theorem line1000 {n : Nat} (h : n ≤ 1000) : n ≤ sizeLine := Nat.le_trans h (by decide)
theorem ie_tup {f : Sl → M → R (List D)} {x1 : Nat} (h : IA X T es f) : IE X T (.Tuple es x1 pos) (eTup f) :=
  ⟨fun W tk => pe_imp (pe_tup (h.run W tk)) fun σ H Q ⟨ρ, τ, m, R, l, q⟩ => ⟨ρ, τ, m, R, l, q.bind.imp fun xs ρ1 m1 H1 e1 R1 q1 vs rvs => by
    by_cases hl : xs.length ≤ 1000
    · rw [if_pos hl] at q1
      refine ⟨by rw [rvs.len]; exact line1000 hl, fun p hp => ?_⟩
      have ex : Ext X.K ρ1 H1 ρ1 (upd H1 p (.tup vs)) := Ext.new hp
      exact q1 ρ1 _ ex (R1.new hp) (.ref p) ⟨p, vs, rfl, .inl (.inl upd_same), RDs.ext ex _ _ rvs⟩
    · rw [if_neg hl] at q1
      exact False.elim q1⟩⟩
def lLst (f : Sl → M → R (List D)) : Sl → M → R (List D) := fun τ m => (f τ m).bind fun xs m1 => if xs.length ≤ 1000 then .ok xs m1 else .bad
theorem il_lst {f : Sl → M → R (List D)} (h : IA X T es f) : IL X T (.List es pos) (lLst f) :=
  ⟨fun W tk => pe_imp (pe_lst (h.run W tk)) fun σ H Q ⟨ρ, τ, m, R, l, q⟩ => ⟨ρ, τ, m, R, l, (q.bind).imp fun xs ρ1 m1 H1 e1 R1 q1 vs rvs => by
    by_cases hl : xs.length ≤ 1000
    · rw [if_pos hl] at q1
      refine ⟨by rw [rvs.len]; exact line1000 hl, fun p hp => ?_⟩
      have ex : Ext X.K ρ1 H1 ρ1 (upd H1 p (.lst vs)) := Ext.new hp
      have hp0 : H p = none := by
        cases z : H p with
        | none => rfl
        | some u => exact absurd hp (e1.kp p (by rw [z]; simp))
      exact q1 ρ1 _ ex (R1.new hp) p vs hp0 upd_same (R1.notin hp) (RDs.ext ex _ _ rvs)
    · rw [if_neg hl] at q1
      exact False.elim q1⟩⟩
/-- a new list comes into the store -/
def eNew (f : Sl → M → R (List D)) : Sl → M → R D := fun τ m => (f τ m).bind fun xs m1 => .ok (.obj m1.length) (m1 ++ [.lst xs])
theorem ie_new {f : Sl → M → R (List D)} (h : IL X T e f) : IE X T e (eNew f) :=
  ⟨fun W tk => pe_imp (h.run W tk) fun σ H Q ⟨ρ, τ, m, R, l, q⟩ => ⟨ρ, τ, m, R, l, by
    unfold eNew at q
    cases hf : f τ m with
    | ok xs m1 =>
      rw [hf] at q
      intro ρ1 H1 e1 R1 p vs hp0 hp hn rvs
      have e2 : Ext X.K ρ H (ρ1 ++ [p]) H1 := e1.adopt hp0
      have R2 : Rep X.K X.mg T (ρ1 ++ [p]) (m1 ++ [.lst xs]) H1 := R1.adopt hn ⟨vs, hp, RDs.grow _ _ rvs⟩
      exact q _ _ e2 R2 (.ref p) ⟨p, by rw [← R1.len]; simp, rfl⟩
    | ex x p m1 => rw [hf] at q; exact q
    | bad => rw [hf] at q; exact q⟩⟩
/-! ### items -/
def gIx : M → D → D → Option D := fun m x y => match x, y with
  | .tup xs, .int i => atI xs i
  | .frl xs, .int i => atI xs i
  | .obj k, .int i => match m[k]? with
    | some (.lst xs) => atI xs i
    | _ => none
  | _, _ => none
theorem ixN_len {xs : List D} {vs : List V} (h : vs.length = xs.length) (i : Int) : ixN vs.length i = ixN xs.length i := by rw [h]
theorem RDs.atI {K : PySem.W.Frag} {ρ : List Addr} {H : Hp} {xs : List D} {vs : List V} {i : Int} {x : D} (r : RDs K T ρ H xs vs) (h : L2.atI xs i = some x) : ∃ v, L2.atI vs i = some v ∧ RD K T ρ H x v := by
  unfold L2.atI at h ⊢
  rw [ixN_len r.len]
  cases e : ixN xs.length i with
  | none => rw [e] at h; cases h
  | some j =>
    rw [e] at h
    exact r.get h
theorem gIx_ok {K : PySem.W.Frag} {mg : Str → Option Value} {ρ : List Addr} {H : Hp} {m : M} {x y d : D} {v u : V} {Q : VK} (R : Rep K mg T ρ m H) (rx : RD K T ρ H x v) (ry : RD K T ρ H y u) (h : gIx m x y = some d) (q : ∀ w, RD K T ρ H d w → Q w H) : L2.rIx K v u H Q := by
  cases y with
  | int i =>
    have e2 : u = .int i := ry
    subst e2
    cases x with
    | tup xs =>
      obtain ⟨a, vs, e1, hs, hr⟩ := rx
      obtain ⟨w, hw, rw⟩ := hr.atI h
      exact .inr (.inl ⟨a, vs, i, w, e1, rfl, hs, hw, q w rw⟩)
    | frl xs =>
      obtain ⟨a, vs, e1, hs, hr⟩ := rx
      obtain ⟨w, hw, rw⟩ := hr.atI h
      exact .inl ⟨a, vs, i, w, e1, rfl, hs.sq, hw, q w rw⟩
    | obj k =>
      obtain ⟨a, ha, e1⟩ := rx
      have h' : (match m[k]? with | some (.lst xs) => L2.atI xs i | _ => none) = some d := h
      cases e : m[k]? with
      | none => rw [e] at h'; cases h'
      | some o =>
        rw [e] at h'
        cases o with
        | lst xs =>
          obtain ⟨vs, hs, hr⟩ := R.at_ k _ a e ha
          obtain ⟨w, hw, rw⟩ := hr.atI h'
          exact .inl ⟨a, vs, i, w, e1, rfl, .inl (.inl hs), hw, q w rw⟩
        | ins c fs => cases h'
        | dct kds => cases h'
    | _ => cases h
  | _ => cases x <;> cases h
variable {a b : Expr}
theorem ie_ix {fa fb : Sl → M → R D} (ha : IE X T a fa) (hb : IE X T b fb) (hs : PlainIx b := by exact fun _ _ => rfl) : IE X T (.Subscript a b pos) (eOp gIx fa fb) :=
  ⟨fun W tk => pe_imp (pe_ix ix_seq (ha.run W tk) (hb.run W tk) hs) fun σ H Q ⟨ρ, τ, m, R, l, q⟩ => by
    obtain ⟨ρ', τ', m', R', l', z⟩ := read2 R l q
    exact ⟨ρ', τ', m', R', l', z.imp fun x ρ1 m1 H1 e1 R1 q1 v rv => by
      obtain ⟨ρ2, τ2, m2, R2, l2, z2⟩ := q1 v rv
      exact ⟨ρ2, τ2, m2, R2, l2, z2.imp fun y ρ3 m3 H3 e3 R3 q3 u ru => by
        obtain ⟨ρ4, m4, dx, dy, d, R4, r1, r2, hd, q4⟩ := q3 u ru
        exact gIx_ok R4 r1 r2 hd q4⟩⟩⟩
/-- an item of a list that stands apart -/
def eIxL (f : Sl → M → R (List D)) (g : Sl → M → R D) : Sl → M → R D := fun τ m => (f τ m).bind fun xs m1 => (g τ m1).bind fun y m2 => match y with
  | .int i => R.of (L2.atI xs i) m2
  | _ => .bad
theorem ie_ixL {f : Sl → M → R (List D)} {g : Sl → M → R D} (ha : IL X T a f) (hb : IE X T b g) (hs : PlainIx b := by exact fun _ _ => rfl) : IE X T (.Subscript a b pos) (eIxL f g) :=
  ⟨fun W tk => pe_imp (pe_ix ix_seq (ha.run W tk) (hb.run W tk) hs) fun σ H Q ⟨ρ, τ, m, R, l, q⟩ =>
    ⟨ρ, τ, m, R, l, q.bind.imp fun xs ρ1 m1 H1 e1 R1 q1 p vs hp0 hp hn rvs => ⟨ρ1, τ, m1, R1, l.ext e1, q1.bind.imp fun y ρ2 m2 H2 e2 R2 q2 u ru => by
      cases y with
      | int i =>
        have e : u = .int i := ru
        obtain ⟨d, hd, q3⟩ := PR.of R2 q2
        obtain ⟨w, hw, rw⟩ := (RDs.ext e2 _ _ rvs).atI hd
        exact .inl ⟨p, vs, i, w, rfl, e, .inl (.inl (e2.frm _ _ hp hn noTab_lst.1)), hw, q3 w rw⟩
      | _ => exact False.elim q2⟩⟩⟩
end
end Sh

set_option Elab.async false
set_option linter.all false
set_option autoImplicit false
set_option maxRecDepth 100000
set_option maxHeartbeats 2000000
namespace Sh
open PySem PySem.Spec PyProof.Rows L2

section
variable {K : PySem.W.Frag} {mg : Str → Option Value} {T : Tb} {ρ ρ' ρ1 : List Addr} {H H' H1 : Hp} {m : M} {W : WX} {σ : L2.St}
/-- an object of the store is written -/
theorem Rep.write (R : Rep K mg T ρ m H) {i : Nat} {a : Addr} {o : O} {u : HO} (ha : ρ[i]? = some a) (new : RO K mg T ρ (upd H a u) o a) : Rep K mg T ρ (m.set i o) (upd H a u) := by
  have ham : a ∈ ρ := List.mem_of_getElem? ha
  refine ⟨R.nd, by simpa using R.len, fun j w b h1 h2 => ?_, tabs_upd (.inr (R.mem2 ham)) R.tab⟩
  by_cases e : i = j
  · subst e
    have hl : i < m.length := by
      have := (List.getElem?_eq_some_iff.mp h1).1
      simpa using this
    rw [List.getElem?_set_self hl] at h1
    cases h1
    rw [ha] at h2; cases h2
    exact new
  · rw [List.getElem?_set_ne e] at h1
    refine (R.at_ j w b h1 h2).ext' (Ext.write R ham) ?_
    rw [upd_ne ?_]
    rintro rfl
    exact e (nd_ix R.nd ha h2)
theorem new_none (e : Ext K ρ H ρ1 H1) {p : Addr} (hp : H1 p = none) : H p = none := by
  cases z : H p with
  | none => rfl
  | some u => exact absurd hp (e.kp p (by rw [z]; simp))
theorem PR.flat {α : Type} {r : R α} {Q : α → List Addr → M → Hp → Prop} (h : PR K mg T W σ ρ H r Q) : PR K mg T (fun c d _ H => W c d σ H) [] ρ H r Q := by
  cases r with
  | ok a m => exact h
  | ex x p m => exact h
  | bad => exact h
theorem lookup_out {fs : List (Str × V)} {x : Str} {l : List Str} (h : ∀ p ∈ fs, p.1 ∈ l) (n : x ∉ l) : fs.lookup x = none := by
  induction fs with
  | nil => rfl
  | cons p r ih =>
    have hp : (x == p.1) = false := beq_eq_false_iff_ne.mpr fun e => n (by rw [e]; exact h p List.mem_cons_self)
    obtain ⟨g, y⟩ := p
    simp only [List.lookup, hp]
    exact ih fun q hq => h q (List.mem_cons_of_mem _ hq)
theorem putF_keys (f : Str) (v : V) : ∀ fs : List (Str × V), (fs.map (·.1)).Nodup → ((putF f v fs).map (·.1)).Nodup
  | [], _ => by simp [putF]
  | (g, x) :: r, h => by
    rw [show putF f v ((g, x) :: r) = (if g = f then (g, v) :: r else (g, x) :: putF f v r) from rfl]
    have h1 : g ∉ r.map (·.1) := (List.nodup_cons.mp h).1
    have h2 := (List.nodup_cons.mp h).2
    by_cases e : g = f
    · rw [if_pos e]; exact h
    · rw [if_neg e]
      refine List.nodup_cons.mpr ⟨fun z => ?_, putF_keys f v r h2⟩
      obtain ⟨q, hq, e2⟩ := List.mem_map.mp z
      have e2 : q.1 = g := e2
      have : ∀ (r : List (Str × V)) q, q ∈ putF f v r → q.1 = f ∨ q.1 ∈ r.map (·.1) := by
        intro r
        induction r with
        | nil => intro q hq; simp [putF] at hq; exact .inl (by rw [hq])
        | cons a r ih =>
          intro q hq
          obtain ⟨k, y⟩ := a
          rw [show putF f v ((k, y) :: r) = (if k = f then (k, v) :: r else (k, y) :: putF f v r) from rfl] at hq
          by_cases e : k = f
          · rw [if_pos e] at hq
            rcases List.mem_cons.mp hq with z | z
            · exact .inl (by rw [z]; exact e)
            · exact .inr (List.mem_map.mpr ⟨q, List.mem_cons_of_mem _ z, rfl⟩)
          · rw [if_neg e] at hq
            rcases List.mem_cons.mp hq with z | z
            · exact .inr (by rw [z]; simp)
            · rcases ih q z with z | z
              · exact .inl z
              · exact .inr (by rw [List.map_cons]; exact List.mem_cons_of_mem _ z)
      rcases this r q hq with z | z
      · exact e (by rw [← e2]; exact z)
      · exact h1 (by rw [← e2]; exact z)
theorem putF_mem (f : Str) (v : V) (l : List Str) (hf : f ∈ l) : ∀ fs : List (Str × V), (∀ p ∈ fs, p.1 ∈ l) → ∀ p ∈ putF f v fs, p.1 ∈ l
  | [], _, p, hp => by simp [putF] at hp; rw [hp]; exact hf
  | (g, x) :: r, h, p, hp => by
    rw [show putF f v ((g, x) :: r) = (if g = f then (g, v) :: r else (g, x) :: putF f v r) from rfl] at hp
    by_cases e : g = f
    · rw [if_pos e] at hp
      rcases List.mem_cons.mp hp with z | z
      · rw [z]; exact h (g, x) List.mem_cons_self
      · exact h p (List.mem_cons_of_mem _ z)
    · rw [if_neg e] at hp
      rcases List.mem_cons.mp hp with z | z
      · rw [z]; exact h (g, x) List.mem_cons_self
      · exact putF_mem f v l hf r (fun q hq => h q (List.mem_cons_of_mem _ hq)) p z
theorem sub_len : ∀ (l : List Str) (r : List Str), l.Nodup → (∀ x ∈ l, x ∈ r) → l.length ≤ r.length
  | [], r, _, _ => Nat.zero_le _
  | x :: l, r, hn, hs => by
    have hx : x ∈ r := hs x List.mem_cons_self
    have h1 : x ∉ l := (List.nodup_cons.mp hn).1
    have ih := sub_len l (r.erase x) (List.nodup_cons.mp hn).2 fun y hy => (List.mem_erase_of_ne (fun e => h1 (by rw [← e]; exact hy))).mpr (hs y (List.mem_cons_of_mem _ hy))
    rw [List.length_erase_of_mem hx] at ih
    have : 0 < r.length := List.length_pos_of_mem hx
    rw [List.length_cons]
    omega
end

/-! ### calls of built-ins, by values -/
def CallS (X : Cx) (T : Tb) (f : Value) (g : M → List D → Option D) : Prop :=
  ∃ r, CallR X f r ∧ ∀ ρ m H (xs : List D) (vs : List V) (d : D) (Q : VK), Rep X.K X.mg T ρ m H → RDs X.K T ρ H xs vs → g m xs = some d → (∀ H' w, Ext X.K ρ H ρ H' → Rep X.K X.mg T ρ m H' → RD X.K T ρ H' d w → Q w H') → r vs H Q
section
variable {X : Cx} {T : Tb} {e a b o : Expr} {es : List Expr} {pos p apos : Pos} {x : Str} {id tn : String}
def eCB (g : M → List D → Option D) (f : Sl → M → R (List D)) : Sl → M → R D := fun τ m => (f τ m).bind fun ds m1 => R.of (g m1 ds) m1
theorem ie_callB {g : M → List D → Option D} {f : Sl → M → R (List D)} (hc : CallS X T (.builtin id) g) (hm : X.mg x = none) (hv : bootBuiltins x = some (.builtin id)) (ha : IA X T (e :: es) f) (hg : Gl X x := by rfl) (hn : x ≠ "__name__" := by decide) (hdb : (x == ("__debug__" : Str)) = false := by decide)
    (he : starEach (e :: es) X.env = (false, eval e X.env) :: starEach es X.env := by rfl) (hpl : (backTo pos (starEach es X.env)).any (·.1) = false := by rfl) : IE X T (.Call (.Name x p) (e :: es) [] pos) (eCB g f) := by
  obtain ⟨r, h1, h2⟩ := hc
  exact ⟨fun W tk => pe_imp (pe_callB h1 hg hm hv (ha.run W tk) hn hdb he hpl) fun σ H Q ⟨ρ, τ, m, R, l, q⟩ => ⟨ρ, τ, m, R, l, q.bind.imp fun ds ρ1 m1 H1 e1 R1 q1 vs rvs => by
    cases hd : g m1 ds with
    | none => rw [hd] at q1; exact False.elim q1
    | some d =>
      rw [hd] at q1
      exact h2 ρ1 m1 H1 ds vs d Q R1 rvs hd fun H' w e' R' rw => q1 ρ1 H' e' R' w rw⟩⟩
theorem ie_callTy {g : M → List D → Option D} {f : Sl → M → R (List D)} (hc : CallS X T (.type tn) g) (hm : X.mg x = none) (hv : bootBuiltins x = some (.type tn)) (ha : IA X T (e :: es) f) (hg : Gl X x := by rfl) (hn : x ≠ "__name__" := by decide) (hdb : (x == ("__debug__" : Str)) = false := by decide)
    (he : starEach (e :: es) X.env = (false, eval e X.env) :: starEach es X.env := by rfl) (hpl : (backTo pos (starEach es X.env)).any (·.1) = false := by rfl) : IE X T (.Call (.Name x p) (e :: es) [] pos) (eCB g f) := by
  obtain ⟨r, h1, h2⟩ := hc
  exact ⟨fun W tk => pe_imp (pe_callTy h1 hg hm hv (ha.run W tk) hn hdb he hpl) fun σ H Q ⟨ρ, τ, m, R, l, q⟩ => ⟨ρ, τ, m, R, l, q.bind.imp fun ds ρ1 m1 H1 e1 R1 q1 vs rvs => by
    cases hd : g m1 ds with
    | none => rw [hd] at q1; exact False.elim q1
    | some d =>
      rw [hd] at q1
      exact h2 ρ1 m1 H1 ds vs d Q R1 rvs hd fun H' w e' R' rw => q1 ρ1 H' e' R' w rw⟩⟩
/-- what a sequence holds -/
def itemsOf (m : M) : D → Option (List D)
  | .tup xs => some xs
  | .frl xs => some xs
  | .obj k => match m[k]? with
    | some (.lst xs) => some xs
    | _ => none
  | _ => none
theorem items_ok {K : PySem.W.Frag} {mg : Str → Option Value} {ρ : List Addr} {H : Hp} {m : M} {d : D} {v : V} {xs : List D} (R : Rep K mg T ρ m H) (r : RD K T ρ H d v) (h : itemsOf m d = some xs) : ∃ a vs, v = .ref a ∧ (SqL K H a vs ∨ SqT K H a vs) ∧ RDs K T ρ H xs vs := by
  cases d with
  | tup ys =>
    obtain ⟨a, vs, e1, hs, hr⟩ := r
    cases h
    exact ⟨a, vs, e1, .inr hs, hr⟩
  | frl ys =>
    obtain ⟨a, vs, e1, hs, hr⟩ := r
    cases h
    exact ⟨a, vs, e1, .inl hs.sq, hr⟩
  | obj k =>
    obtain ⟨a, ha, e1⟩ := r
    have h' : (match m[k]? with | some (.lst xs) => some xs | _ => none) = some xs := h
    cases e : m[k]? with
    | none => rw [e] at h'; cases h'
    | some o =>
      rw [e] at h'
      cases o with
      | lst ys =>
        cases h'
        obtain ⟨vs, hs, hr⟩ := R.at_ k _ a e ha
        exact ⟨a, vs, e1, .inl (.inl (.inl hs)), hr⟩
      | ins c fs => cases h'
      | dct kds => cases h'
  | _ => cases h
def gLen : M → List D → Option D := fun m xs => match xs with
  | [x] => (itemsOf m x).map fun ys => .int ys.length
  | _ => none
theorem c_len : CallS X T (.builtin "len") gLen := ⟨_, call_len_seq, fun ρ m H xs vs d Q R r h q => by
  match xs, h with
  | [x], h =>
    obtain ⟨v, t, rfl, rv, rt⟩ := r
    have rt' : t = [] := rt
    subst rt'
    have h' : ((itemsOf m x).map fun ys => D.int ys.length) = some d := h
    cases e : itemsOf m x with
    | none => rw [e] at h'; cases h'
    | some ys =>
      rw [e] at h'
      have h2 : some (D.int ys.length) = some d := h'
      cases h2
      obtain ⟨a, ws, rfl, hs, hr⟩ := items_ok R rv e
      exact ⟨a, ws, rfl, hs, q H _ .refl R (by rw [hr.len]; rfl)⟩⟩
def gInt : M → List D → Option D := fun m xs => match xs with
  | [.int i] => some (.int i)
  | [.bl k] => some (.int (if k then 1 else 0))
  | _ => none
theorem c_int : CallS X T (.type "int") gInt := ⟨_, call_int1, fun ρ m H xs vs d Q R r h q => by
  match xs, h with
  | [.int i], h =>
    obtain ⟨v, t, rfl, rv, rt⟩ := r
    have rt' : t = [] := rt
    have rv' : v = .int i := rv
    subst rt' rv'
    cases h
    exact .inl ⟨i, rfl, q H _ .refl R rfl⟩
  | [.bl k], h =>
    obtain ⟨v, t, rfl, rv, rt⟩ := r
    have rt' : t = [] := rt
    have rv' : v = .bl k := rv
    subst rt' rv'
    cases h
    exact .inr ⟨k, rfl, q H _ .refl R rfl⟩⟩
def gMin : M → List D → Option D := fun m xs => match xs with
  | [.int i, .int j] => some (.int (if j < i then j else i))
  | _ => none
theorem c_min (hc : X.calm = true) : CallS X T (.builtin "min") gMin := ⟨_, call_min2 hc, fun ρ m H xs vs d Q R r h q => by
  match xs, h with
  | [.int i, .int j], h =>
    obtain ⟨v, t, rfl, rv, u, t2, rfl, ru, rt⟩ := r
    have rt' : t2 = [] := rt
    have rv' : v = .int i := rv
    have ru' : u = .int j := ru
    subst rt' rv' ru'
    cases h
    exact ⟨i, j, rfl, q H _ .refl R rfl⟩⟩
def gTuple : M → List D → Option D := fun m xs => match xs with
  | [x] => (itemsOf m x).map .tup
  | _ => none
theorem c_tuple : CallS X T (.type "tuple") gTuple := ⟨_, call_tuple_of, fun ρ m H xs vs d Q R r h q => by
  match xs, h with
  | [x], h =>
    obtain ⟨v, t, rfl, rv, rt⟩ := r
    have rt' : t = [] := rt
    subst rt'
    have h' : ((itemsOf m x).map .tup) = some d := h
    cases e : itemsOf m x with
    | none => rw [e] at h'; cases h'
    | some ys =>
      rw [e] at h'
      have h2 : some (D.tup ys) = some d := h'
      cases h2
      obtain ⟨a, ws, rfl, hs, hr⟩ := items_ok R rv e
      refine ⟨a, ws, rfl, ?_⟩
      rcases hs with hs | hs
      · refine .inl ⟨hs, fun l hl => ?_⟩
        have ex : Ext X.K ρ H ρ (upd H l (.tup ws)) := Ext.new hl
        exact q _ _ ex (R.new hl) ⟨l, ws, rfl, .inl (.inl upd_same), RDs.ext ex _ _ hr⟩
      · exact .inr ⟨hs, q H _ .refl R ⟨a, ws, rfl, hs, hr⟩⟩⟩
/-! ### isinstance -/
def tyOf (m : M) : D → Option Ty
  | .non => some .none
  | .bl _ => some .bool
  | .int _ => some .int
  | .wd _ => some .str
  | .str _ => some .str
  | .tup _ => some .tuple
  | .frl _ => some .list
  | .obj k => match m[k]? with
    | some (.lst _) => some .list
    | _ => none
  | .ty _ => none
def isT (a b : Ty) : Bool := decide (a = b) || (decide (a = .bool) && decide (b = .int))
theorem isT_ok {K : PySem.W.Frag} (a b : Ty) (hb : b ≠ .none) : PySem.W.kitOne K (.type a.name) (.type b.name) = some (isT a b) := by
  refine kit_ty ?_
  cases b <;> first | exact absurd rfl hb | (cases a <;> decide +kernel)
theorem ty_ok {K : PySem.W.Frag} {mg : Str → Option Value} {ρ : List Addr} {H : Hp} {m : M} {d : D} {v : V} {t : Ty} (R : Rep K mg T ρ m H) (r : RD K T ρ H d v) (h : tyOf m d = some t) : TyX K H v (.type t.name) := by
  cases d with
  | non => have e : v = .non := r; subst e; cases h; exact .base .non
  | bl b => have e : v = .bl b := r; subst e; cases h; exact .base (.bl b)
  | int b => have e : v = .int b := r; subst e; cases h; exact .base (.int b)
  | str b => have e : v = .str b := r; subst e; cases h; exact .base (.str b)
  | wd b => obtain ⟨z, _, e⟩ := r; subst e; cases h; exact .base (.str z)
  | tup b =>
    obtain ⟨a, vs, rfl, hs, _⟩ := r
    cases h
    rcases hs with (hs | ⟨o, hs⟩) | ⟨o, its, n, hk, hc, _⟩
    · exact .base (.tup hs)
    · exact .fTuple hs
    · exact .kTuple hk hc
  | frl b =>
    obtain ⟨a, vs, rfl, hs, _⟩ := r
    cases h
    rcases hs with ⟨o, hs⟩ | ⟨o, its, n, hk, hc, _⟩
    · exact .base (.frz hs)
    · exact .kList hk hc
  | obj k =>
    obtain ⟨a, ha, rfl⟩ := r
    have h' : (match m[k]? with | some (.lst _) => some Ty.list | _ => none) = some t := h
    cases e : m[k]? with
    | none => rw [e] at h'; cases h'
    | some o =>
      rw [e] at h'
      cases o with
      | lst ys =>
        cases h'
        obtain ⟨vs, hs, hr⟩ := R.at_ k _ a e ha
        exact .base (.lst hs)
      | ins c fs => cases h'
      | dct kds => cases h'
  | ty b => cases h
def gIsi : M → List D → Option D := fun m xs => match xs with
  | [x, .ty t] => if t = .none then none else (tyOf m x).map fun s => .bl (isT s t)
  | _ => none
theorem c_isi : CallS X T (.builtin "isinstance") gIsi := ⟨_, call_isi, fun ρ m H xs vs d Q R r h q => by
  match xs, h with
  | [x, .ty t], h =>
    obtain ⟨v, t0, rfl, rv, u, t2, rfl, ru, rt⟩ := r
    have rt' : t2 = [] := rt
    have ru' : u = .ty t.name := ru
    subst rt' ru'
    have h' : (if t = .none then none else (tyOf m x).map fun s => D.bl (isT s t)) = some d := h
    by_cases ht : t = .none
    · rw [if_pos ht] at h'; cases h'
    · rw [if_neg ht] at h'
      cases e : tyOf m x with
      | none => rw [e] at h'; cases h'
      | some s =>
        rw [e] at h'
        have h2 : some (D.bl (isT s t)) = some d := h'
        cases h2
        exact ⟨v, .ty t.name, .type s.name, .type t.name, isT s t, rfl, .ty _, ty_ok R rv e, isT_ok s t ht, q H _ .refl R rfl⟩⟩
/-- isinstance(x, (A, B)) -/
def isTs (a : Ty) : List D → Option Bool
  | [] => some false
  | .ty t :: r => if t = .none then none else if isT a t = true then (isTs a r).map fun _ => true else isTs a r
  | _ => none
theorem isTs_ok {K : PySem.W.Frag} {ρ : List Addr} {H : Hp} {a : Ty} : ∀ {ds : List D} {vs : List V} {b : Bool}, RDs K T ρ H ds vs → isTs a ds = some b → ∃ us, Paired ClsV vs us ∧ PySem.W.kitAny K (.type a.name) us = some b
  | [], vs, b, r, h => by
    have r' : vs = [] := r
    subst r'
    cases h
    exact ⟨[], .nil, kitAny_nil⟩
  | .ty t :: ds, vs, b, r, h => by
    obtain ⟨v, w, rfl, rv, rw⟩ := r
    have rv' : v = .ty t.name := rv
    subst rv'
    have h' : (if t = .none then none else if isT a t = true then (isTs a ds).map fun _ => true else isTs a ds) = some b := h
    by_cases ht : t = .none
    · rw [if_pos ht] at h'; cases h'
    · rw [if_neg ht] at h'
      by_cases hi : isT a t = true
      · rw [if_pos hi] at h'
        cases e : isTs a ds with
        | none => rw [e] at h'; cases h'
        | some c =>
          rw [e] at h'
          have h2 : some true = some b := h'
          cases h2
          obtain ⟨us, p, q⟩ := isTs_ok rw e
          exact ⟨_, .cons (.ty _) p, kitAny_cons (isT_ok a t ht) (fun z => by rw [hi] at z; cases z) fun _ => rfl⟩
      · rw [if_neg hi] at h'
        obtain ⟨us, p, q⟩ := isTs_ok rw h'
        exact ⟨_, .cons (.ty _) p, kitAny_cons (isT_ok a t ht) (fun _ => q) fun z => absurd z hi⟩
  | .non :: ds, vs, b, r, h => by cases h
  | .bl _ :: ds, vs, b, r, h => by cases h
  | .int _ :: ds, vs, b, r, h => by cases h
  | .wd _ :: ds, vs, b, r, h => by cases h
  | .str _ :: ds, vs, b, r, h => by cases h
  | .obj _ :: ds, vs, b, r, h => by cases h
  | .tup _ :: ds, vs, b, r, h => by cases h
  | .frl _ :: ds, vs, b, r, h => by cases h
def eIsi2 (f : Sl → M → R D) (g : Sl → M → R (List D)) : Sl → M → R D := fun τ m => (f τ m).bind fun x m1 => (g τ m1).bind fun ts m2 => if ts.length ≤ 1000 then R.of ((tyOf m2 x).bind fun s => (isTs s ts).map .bl) m2 else .bad
theorem ie_isi2 {f : Sl → M → R D} {g : Sl → M → R (List D)} {tes : List Expr} {x1 : Nat} {tpos : Pos} (hm : X.mg "isinstance" = none) (he : IE X T e f) (ht : IA X T tes g) (hg : Gl X "isinstance" := by rfl)
    (h1 : starEach [e, .Tuple tes x1 tpos] X.env = (false, eval e X.env) :: starEach [.Tuple tes x1 tpos] X.env := by rfl) (h2 : starEach [.Tuple tes x1 tpos] X.env = (false, eval (.Tuple tes x1 tpos) X.env) :: starEach [] X.env := by rfl) (hpl : (backTo pos (starEach [.Tuple tes x1 tpos] X.env)).any (·.1) = false := by rfl) :
    IE X T (.Call (.Name "isinstance" p) [e, .Tuple tes x1 tpos] [] pos) (eIsi2 f g) :=
  ⟨fun W tk => pe_imp (pe_callB call_isiT hg hm (by decide +kernel) (pa_cons (he.run W tk) (pa_cons (pe_tup (ht.run W tk)) pa_nil h2) h1) (by decide) (by decide) h1 hpl) fun σ H Q ⟨ρ, τ, m, R, l, q⟩ =>
    ⟨ρ, τ, m, R, l, q.bind.imp fun x ρ1 m1 H1 e1 R1 q1 v rv => ⟨ρ1, τ, m1, R1, l.ext e1, q1.bind.imp fun ts ρ2 m2 H2 e2 R2 q2 vs rvs => by
      by_cases hl : ts.length ≤ 1000
      · rw [if_pos hl] at q2
        refine ⟨by rw [rvs.len]; exact line1000 hl, fun tp htp => ?_⟩
        have ex : Ext X.K ρ2 H2 ρ2 (upd H2 tp (.tup vs)) := Ext.new htp
        obtain ⟨d, hd, q3⟩ := PR.of (R2.new htp) (PR.ext q2 ex)
        cases hs : tyOf m2 x with
        | none => rw [hs] at hd; cases hd
        | some s =>
          rw [hs] at hd
          have hd' : (isTs s ts).map D.bl = some d := hd
          cases hb : isTs s ts with
          | none => rw [hb] at hd'; cases hd'
          | some b =>
            rw [hb] at hd'
            have hd2 : some (D.bl b) = some d := hd'
            cases hd2
            obtain ⟨us, pr, ka⟩ := isTs_ok rvs hb
            exact ⟨v, tp, vs, .type s.name, us, b, rfl, upd_same, pr, ty_ok (R2.new htp) (RD.ext ex _ _ (RD.ext e2 _ _ rv)) hs, ka, q3 _ rfl⟩
      · rw [if_neg hl] at q2
        exact False.elim q2⟩⟩⟩
end

/-! ### calls of defs -/
def spI (K : PySem.W.Frag) (mg : Str → Option Value) (T : Tb) (n : Nat) (F : List D → M → R D) : Sp := fun vs H Q E => ∃ ρ ds m, Rep K mg T ρ m H ∧ RDs K T ρ H ds vs ∧ ds.length = n ∧
  PR K mg T (fun c d _ H => E c d H) [] ρ H (F ds m) fun d ρ' _ H' => ∀ v, RD K T ρ' H' d v → Q v H'
/-- the def at f is mimicked by F -/
def Fn (P : Program) (w : World) (K : PySem.W.Frag) (mg : Str → Option Value) (base : Heap) (T : Tb) (k : Nat) (f : Addr) (n : Nat) (F : List D → M → R D) : Prop :=
  ∃ fd ps, ps.length = n ∧ Binds K fd ps [] ∧ FnOk P w K mg base (L2.CX P w) k f fd ps (spI K mg T n F)
/-- .. by its name -/
def Df (P : Program) (w : World) (K : PySem.W.Frag) (mg : Str → Option Value) (base : Heap) (T : Tb) (x : Str) (k n : Nat) (F : List D → M → R D) : Prop :=
  ∃ f, mg x = some (.ref f) ∧ PySem.W.keepIn K (.ref f) = true ∧ Fn P w K mg base T k f n F
/-- a method of the class c -/
def Md (P : Program) (w : World) (K : PySem.W.Frag) (mg : Str → Option Value) (base : Heap) (T : Tb) (c : Nat) (x : Str) (k n : Nat) (F : List D → M → R D) : Prop :=
  ∃ C f, mg (T.cls c) = some (.ref C) ∧ Cls K C ∧ Meth K C x f ∧ x ∉ T.flds c ∧ Fn P w K mg base T k f n F
/-- the class c and its __init__ -/
def Mr (P : Program) (w : World) (K : PySem.W.Frag) (mg : Str → Option Value) (base : Heap) (T : Tb) (c k n : Nat) (F : List D → M → R D) : Prop :=
  ∃ C f, mg (T.cls c) = some (.ref C) ∧ Mk K C f ∧ Fn P w K mg base T k f n F
/-- the field k of the class c -/
def Fd (K : PySem.W.Frag) (mg : Str → Option Value) (T : Tb) (c k : Nat) (x : Str) : Prop :=
  (T.flds c)[k]? = some x ∧ (T.flds c).Nodup ∧ (T.flds c).length < 900 ∧ ∃ C, mg (T.cls c) = some (.ref C) ∧ Cls K C ∧ NoAttr K C x
theorem Fn.mono {P : Program} {w : World} {K : PySem.W.Frag} {mg : Str → Option Value} {base : Heap} {T : Tb} {j k : Nat} {f : Addr} {n : Nat} {F : List D → M → R D} (h : Fn P w K mg base T j f n F) (hk : j ≤ k) : Fn P w K mg base T k f n F := by
  obtain ⟨fd, ps, h1, h2, h3⟩ := h
  exact ⟨fd, ps, h1, h2, h3.mono hk⟩
section
variable {X : Cx} {T : Tb} {e o : Expr} {es : List Expr} {pos p apos : Pos} {x : Str} {k n c : Nat} {F : List D → M → R D}
def eCall (n : Nat) (F : List D → M → R D) (f : Sl → M → R (List D)) : Sl → M → R D := fun τ m => (f τ m).bind fun ds m1 => if ds.length = n then F ds m1 else .bad
theorem ie_call {f : Sl → M → R (List D)} (D' : Df X.prog X.w X.K X.mg X.base T x k n F) (hr : Room k X.A) (ha : IA X T (e :: es) f) (hg : Gl X x := by rfl) (hdb : (x == ("__debug__" : Str)) = false := by decide)
    (he : starEach (e :: es) X.env = (false, eval e X.env) :: starEach es X.env := by rfl) (hpl : (backTo pos (starEach es X.env)).any (·.1) = false := by rfl) : IE X T (.Call (.Name x p) (e :: es) [] pos) (eCall n F f) := by
  obtain ⟨fa, hm, hk, fd, ps, hl, hb, G⟩ := D'
  exact ⟨fun W tk => pe_imp (pe_callS G hr hg hm hk hb (fun σ => passAt tk σ) (ha.run W tk) hdb he hpl) fun σ H Q ⟨ρ, τ, m, R, l, q⟩ => ⟨ρ, τ, m, R, l, q.bind.imp fun ds ρ1 m1 H1 e1 R1 q1 vs rvs => by
    by_cases hn : ds.length = n
    · rw [if_pos hn] at q1
      exact ⟨ρ1, ds, m1, R1, rvs, hn, q1.flat⟩
    · rw [if_neg hn] at q1
      exact False.elim q1⟩⟩
def tMethW (C : Addr) (x : Str) (sp : Sp) (E : L2.St → XK) (ta : TE) (t : TA) : TE := fun σ H Q => ta σ H fun v H1 => ∃ a dx fs, v = .ref a ∧ H1 a = some (.ins C dx fs) ∧ fs.lookup x = none ∧ t σ H1 fun vs H2 => sp (v :: vs) H2 Q (E σ)
theorem pe_methW {CX : CXT} {C f : Addr} {fd : FuncData} {ps : List Str} {sp : Sp} {E : L2.St → XK} {ta : TE} {t : TA} {pl : Sem Bool} (he : PE X o ta) (cc : Cls X.K C) (hm : Meth X.K C x f) (G : FnOk X.prog X.w X.K X.mg X.base CX k f fd ps sp) (hr : Room k X.A) (hb : Binds X.K fd ps []) (hx : ∀ σ, PassesAt CX X σ (E σ)) (ha : PA X (e :: es) t)
    (hst : starEach (e :: es) X.env = (false, eval e X.env) :: starEach es X.env := by rfl) (hpl : (backTo pos (starEach es X.env)).any (·.1) = false := by rfl)
    (ht : eval (.Call (.Attribute o x apos) (e :: es) [] pos) X.env = (do
      let ov ← eval o X.env
      standAt apos.atName
      let (f, first) ← holding [ov] (getMethod ov x pl)
      callWith pos f first (backTo pos (starEach (e :: es) X.env)) (backToKw pos (keywordEach [] X.env))) := by rfl) :
    PE X (.Call (.Attribute o x apos) (e :: es) [] pos) (tMethW C x sp E ta t) := by
  refine ⟨fun pins s σ H Q I h => ?_⟩
  refine PySem.W.methodCall_KW (pl := pl) (thn (he.run pins s σ H _ I h) fun u s1 ⟨v, H1, I1, rx, a, dx, fs, ex, ea, l, q⟩ => ?_) ht
  subst ex
  obtain rfl : u = Value.ref a := rx
  refine getmeth_ok I1 ea cc hm l ?_
  refine PySem.W.callWith_K (first := [.ref a]) (h₀ := X.base) I.ok.mod.kin hm.kp (thn (ha.run pos pins s1 σ H1 _ I1 q) fun us s2 ⟨vs, H2, I2, r, q2⟩ => ⟨I2.kIn, ?_⟩) hst hpl
  exact run_fnS (us := .ref a :: us) (vs := .ref a :: vs) G hr hb (hx σ) I2 (.cons rfl r) q2
theorem pe_methW0 {CX : CXT} {C f : Addr} {fd : FuncData} {ps : List Str} {sp : Sp} {E : L2.St → XK} {ta : TE} {pl : Sem Bool} (he : PE X o ta) (cc : Cls X.K C) (hm : Meth X.K C x f) (G : FnOk X.prog X.w X.K X.mg X.base CX k f fd ps sp) (hr : Room k X.A) (hb : Binds X.K fd ps []) (hx : ∀ σ, PassesAt CX X σ (E σ))
    (ht : eval (.Call (.Attribute o x apos) [] [] pos) X.env = (do
      let ov ← eval o X.env
      standAt apos.atName
      let (f, first) ← holding [ov] (getMethod ov x pl)
      callWith pos f first (backTo pos (starEach [] X.env)) (backToKw pos (keywordEach [] X.env))) := by rfl) :
    PE X (.Call (.Attribute o x apos) [] [] pos) (tMethW C x sp E ta tNil) := by
  refine ⟨fun pins s σ H Q I h => ?_⟩
  refine PySem.W.methodCall_KW (pl := pl) (thn (he.run pins s σ H _ I h) fun u s1 ⟨v, H1, I1, rx, a, dx, fs, ex, ea, l, q⟩ => ?_) ht
  subst ex
  obtain rfl : u = Value.ref a := rx
  refine getmeth_ok I1 ea cc hm l ?_
  exact PySem.W.callWith_K0 (first := [.ref a]) I1.kIn hm.kp (run_fnS (us := [.ref a]) (vs := [.ref a]) G hr hb (hx σ) I1 (.cons rfl .nil) q)
/-- whether it is an instance of the class c -/
def isIns (c : Nat) (m : M) (d : D) : Bool := match d with
  | .obj i => match m[i]? with
    | some (.ins c' _) => decide (c' = c)
    | _ => false
  | _ => false
theorem isIns_ok {K : PySem.W.Frag} {mg : Str → Option Value} {ρ : List Addr} {H : Hp} {m : M} {d : D} {v : V} (R : Rep K mg T ρ m H) (r : RD K T ρ H d v) (h : isIns c m d = true) :
    ∃ i fs a C dx vs, d = .obj i ∧ m[i]? = some (.ins c fs) ∧ ρ[i]? = some a ∧ v = .ref a ∧ mg (T.cls c) = some (.ref C) ∧ H a = some (.ins C dx vs) ∧ RO K mg T ρ H (.ins c fs) a ∧ ∀ p ∈ vs, p.1 ∈ T.flds c := by
  cases d with
  | obj i =>
    obtain ⟨a, ha, rfl⟩ := r
    have h' : (match m[i]? with | some (.ins c' _) => decide (c' = c) | _ => false) = true := h
    cases e : m[i]? with
    | none => rw [e] at h'; cases h'
    | some u =>
      rw [e] at h'
      cases u with
      | lst ys => cases h'
      | dct _ => cases h'
      | ins c' fs =>
        have hc : c' = c := of_decide_eq_true h'
        subst hc
        have ro := R.at_ i _ a e ha
        obtain ⟨C, dx, vs, h1, h2, h3, h4, h5, h6⟩ := id ro
        exact ⟨i, fs, a, C, dx, vs, rfl, e, ha, rfl, h1, h2, ro, h5⟩
  | _ => cases h
def eMeth (c n : Nat) (F : List D → M → R D) (fo : Sl → M → R D) (f : Sl → M → R (List D)) : Sl → M → R D := fun τ m => (fo τ m).bind fun d m1 => if isIns c m1 d = true then (f τ m1).bind fun ds m2 => if ds.length + 1 = n then F (d :: ds) m2 else .bad else .bad
theorem meth_read {W : WX} {fo : Sl → M → R D} {f : Sl → M → R (List D)} {σ : L2.St} {H : Hp} {Q : VK} {C : Addr} {K : PySem.W.Frag} {mg : Str → Option Value} (hC : mg (T.cls c) = some (.ref C)) (hx : x ∉ T.flds c) (h : rdE K mg T W (eMeth c n F fo f) σ H Q) :
    tMethW C x (spI K mg T n F) (WE W) (rdE K mg T W fo) (rdA K mg T W f) σ H Q := by
  obtain ⟨ρ, τ, m, R, l, q⟩ := h
  refine ⟨ρ, τ, m, R, l, q.bind.imp fun d ρ1 m1 H1 e1 R1 q1 v rv => ?_⟩
  by_cases hi : isIns c m1 d = true
  · rw [if_pos hi] at q1
    obtain ⟨i, fs, a, C', dx, vs, rfl, _, ha, rfl, hC', hH, _, hs⟩ := isIns_ok R1 rv hi
    rw [hC] at hC'; cases hC'
    refine ⟨a, dx, vs, rfl, hH, lookup_out hs hx, ρ1, τ, m1, R1, l.ext e1, q1.bind.imp fun ds ρ2 m2 H2 e2 R2 q2 us rus => ?_⟩
    by_cases hn : ds.length + 1 = n
    · rw [if_pos hn] at q2
      exact ⟨ρ2, .obj i :: ds, m2, R2, ⟨_, us, rfl, RD.ext e2 _ _ rv, rus⟩, by simpa using hn, q2.flat⟩
    · rw [if_neg hn] at q2
      exact False.elim q2
  · rw [if_neg hi] at q1
    exact False.elim q1
theorem ie_meth {fo : Sl → M → R D} {f : Sl → M → R (List D)} {pl : Sem Bool} (ho : IE X T o fo) (D' : Md X.prog X.w X.K X.mg X.base T c x k n F) (hr : Room k X.A) (ha : IA X T (e :: es) f)
    (hst : starEach (e :: es) X.env = (false, eval e X.env) :: starEach es X.env := by rfl) (hpl : (backTo pos (starEach es X.env)).any (·.1) = false := by rfl)
    (ht : eval (.Call (.Attribute o x apos) (e :: es) [] pos) X.env = (do
      let ov ← eval o X.env
      standAt apos.atName
      let (f, first) ← holding [ov] (getMethod ov x pl)
      callWith pos f first (backTo pos (starEach (e :: es) X.env)) (backToKw pos (keywordEach [] X.env))) := by rfl) :
    IE X T (.Call (.Attribute o x apos) (e :: es) [] pos) (eMeth c n F fo f) := by
  obtain ⟨C, fa, hC, cc, hm, hx, fd, ps, hl, hb, G⟩ := D'
  exact ⟨fun W tk => pe_imp (pe_methW (ho.run W tk) cc hm G hr hb (fun σ => passAt tk σ) (ha.run W tk) hst hpl ht) fun σ H Q h => meth_read hC hx h⟩
theorem ie_meth0 {fo : Sl → M → R D} {pl : Sem Bool} (ho : IE X T o fo) (D' : Md X.prog X.w X.K X.mg X.base T c x k n F) (hr : Room k X.A)
    (ht : eval (.Call (.Attribute o x apos) [] [] pos) X.env = (do
      let ov ← eval o X.env
      standAt apos.atName
      let (f, first) ← holding [ov] (getMethod ov x pl)
      callWith pos f first (backTo pos (starEach [] X.env)) (backToKw pos (keywordEach [] X.env))) := by rfl) :
    IE X T (.Call (.Attribute o x apos) [] [] pos) (eMeth c n F fo lNil) := by
  obtain ⟨C, fa, hC, cc, hm, hx, fd, ps, hl, hb, G⟩ := D'
  refine ⟨fun W tk => pe_imp (pe_methW0 (ho.run W tk) cc hm G hr hb (fun σ => passAt tk σ) ht) fun σ H Q h => ?_⟩
  obtain ⟨ρ, τ, m, R, l, q⟩ := meth_read hC hx h
  refine ⟨ρ, τ, m, R, l, q.imp fun d ρ1 m1 H1 e1 R1 q1 v rv => ?_⟩
  obtain ⟨a, dx, fs, e2, e3, e4, ρ2, τ2, m2, R2, l2, q2⟩ := q1 v rv
  exact ⟨a, dx, fs, e2, e3, e4, PR.ok R2 q2 [] rfl⟩
/-- C(..) -/
def eMake (c nf n : Nat) (F : List D → M → R D) (f : Sl → M → R (List D)) : Sl → M → R D := fun τ m => (f τ m).bind fun ds m1 => if ds.length + 1 = n then (match F (.obj m1.length :: ds) (m1 ++ [.ins c (List.replicate nf none)]) with
  | .ok .non m2 => .ok (.obj m1.length) m2
  | _ => .bad) else .bad
theorem ie_make {f : Sl → M → R (List D)} (D' : Mr X.prog X.w X.K X.mg X.base T c k n F) (hr : Room (k + 1) X.A) (ha : IA X T (e :: es) f) (hx : T.cls c = x) (hg : Gl X x := by rfl) (hdb : (x == ("__debug__" : Str)) = false := by decide)
    (he : starEach (e :: es) X.env = (false, eval e X.env) :: starEach es X.env := by rfl) (hpl : (backTo pos (starEach es X.env)).any (·.1) = false := by rfl) : IE X T (.Call (.Name x p) (e :: es) [] pos) (eMake c (T.flds c).length n F f) := by
  obtain ⟨C, fa, hC, M', fd, ps, hl, hb, G⟩ := D'
  rw [hx] at hC
  refine ⟨fun W tk => pe_imp (pe_make M' G hr hg hC hb .nil (E := fun _ _ _ => False) passL (ha.run W tk) hdb he hpl) fun σ H Q ⟨ρ, τ, m, R, l, q⟩ => ⟨ρ, τ, m, R, l, q.bind.imp fun ds ρ1 m1 H1 e1 R1 q1 vs rvs y dx ny ndx nxy => ?_⟩⟩
  have ny' : (upd H1 dx (.own y)) y = none := by rw [upd_ne (Ne.symm nxy)]; exact ny
  have x1 : Ext X.K ρ1 H1 ρ1 (upd H1 dx (.own y)) := Ext.new ndx
  have x2 : Ext X.K ρ1 (upd H1 dx (.own y)) (ρ1 ++ [y]) (upd (upd H1 dx (.own y)) y (.ins C dx [])) := Ext.alloc ny'
  have R2 : Rep X.K X.mg T ρ1 m1 (upd (upd H1 dx (.own y)) y (.ins C dx [])) := (R1.new ndx).new ny'
  have hy : y ∉ ρ1 := R1.notin ny
  have R3 : Rep X.K X.mg T (ρ1 ++ [y]) (m1 ++ [.ins c (List.replicate (T.flds c).length none)]) (upd (upd H1 dx (.own y)) y (.ins C dx [])) := R2.adopt hy ⟨C, dx, [], by rw [hx]; exact hC, upd_same, by simp, by simp, fun p hp => by simp at hp, fun k f d h1 h2 => by
    rw [List.getElem?_replicate] at h2
    split at h2 <;> cases h2⟩
  rw [List.append_nil]
  have q1' : PR X.K X.mg T W σ ρ1 H1 (if ds.length + 1 = n then (match F (.obj m1.length :: ds) (m1 ++ [.ins c (List.replicate (T.flds c).length none)]) with
    | .ok .non m2 => Sh.R.ok (.obj m1.length) m2
    | _ => .bad) else .bad) fun d ρ' _ H' => ∀ v, RD X.K T ρ' H' d v → Q v H' := q1
  by_cases hn : ds.length + 1 = n
  · rw [if_pos hn] at q1'
    refine ⟨ρ1 ++ [y], .obj m1.length :: ds, _, R3, ⟨_, vs, rfl, ⟨y, by rw [← R1.len]; simp, rfl⟩, RDs.ext (x1.trans x2) _ _ rvs⟩, by simpa using hn, ?_⟩
    cases hF : F (.obj m1.length :: ds) (m1 ++ [.ins c (List.replicate (T.flds c).length none)]) with
    | ok d m2 =>
      rw [hF] at q1'
      cases d with
      | non =>
        intro ρ' H' e' R' v rv
        refine ⟨rv, q1' ρ' H' ((x1.trans x2).trans e') R' _ ⟨y, e'.get (by rw [← R1.len]; simp), rfl⟩⟩
      | _ => exact False.elim q1'
    | ex z p m2 => rw [hF] at q1'; exact False.elim q1'
    | bad => rw [hF] at q1'; exact False.elim q1'
  · rw [if_neg hn] at q1'
    exact False.elim q1'
/-- o.f -/
def eFld (c k : Nat) (fo : Sl → M → R D) : Sl → M → R D := fun τ m => (fo τ m).bind fun d m1 => match d with
  | .obj i => match m1[i]? with
    | some (.ins c' fs) => if c' = c then (match fs[k]? with
      | some (some d) => .ok d m1
      | _ => .bad) else .bad
    | _ => .bad
  | _ => .bad
theorem ie_fld {fo : Sl → M → R D} (fd : Fd X.K X.mg T c k x) (ho : IE X T o fo) (hb : attributeBase o x X.env (eval o X.env) = eval o X.env := by rfl) : IE X T (.Attribute o x pos) (eFld c k fo) := by
  obtain ⟨hk, hnd, hsz, C, hC, cc, na⟩ := fd
  refine ⟨fun W tk => pe_imp (pe_fld (ho.run W tk) hb) fun σ H Q ⟨ρ, τ, m, R, l, q⟩ => ⟨ρ, τ, m, R, l, q.bind.imp fun d ρ1 m1 H1 e1 R1 q1 v rv => ?_⟩⟩
  cases d with
  | obj i =>
    obtain ⟨a, ha, rfl⟩ := rv
    dsimp only at q1
    cases e : m1[i]? with
    | none => rw [e] at q1; exact False.elim q1
    | some u =>
      rw [e] at q1
      cases u with
      | lst ys => exact False.elim q1
      | dct _ => exact False.elim q1
      | ins c' fs =>
        dsimp only at q1
        by_cases hc : c' = c
        · rw [if_pos hc] at q1
          subst hc
          cases hf : fs[k]? with
          | none => rw [hf] at q1; exact False.elim q1
          | some z =>
            rw [hf] at q1
            cases z with
            | none => exact False.elim q1
            | some d =>
              obtain ⟨C', dx, vs, h1, h2, h3, h4, h5, h6⟩ := R1.at_ i _ a e ha
              rw [hC] at h1; cases h1
              obtain ⟨w, hw, rw⟩ := h6 k x d hk hf
              exact ⟨a, C, dx, vs, w, rfl, h2, cc, na, hw, PR.ok R1 q1 w rw⟩
        · rw [if_neg hc] at q1
          exact False.elim q1
  | _ => exact False.elim q1
end
end Sh

set_option Elab.async false
set_option linter.all false
set_option autoImplicit false
set_option maxRecDepth 100000
set_option maxHeartbeats 2000000
namespace Sh
open PySem PySem.Spec PyProof.Rows L2

/-! ### blocks and small statements -/
section
variable {X : Cx} {T : Tb} {st : Stmt} {rest : List Stmt} {e o c : Expr} {pos pos' tpos : Pos}
def sNx : Sl → M → S := fun τ m => .nx τ m
def sSeq (f g : Sl → M → S) : Sl → M → S := fun τ m => match f τ m with
  | .nx τ' m' => g τ' m'
  | r => r
theorem PSr.seq {K : PySem.W.Frag} {mg : Str → Option Value} {W : WX} {ρ : List Addr} {H : Hp} {f g : Sl → M → S} {τ : Sl} {m : M} {E : Ends} (h : PSr K mg T W ρ H (sSeq f g τ m) E) : PSr K mg T W ρ H (f τ m) { E with nx := rdS K mg T W g E } := by
  unfold sSeq at h
  cases hf : f τ m with
  | nx τ' m' =>
    rw [hf] at h
    exact fun ρ' σ' H' e R l => ⟨ρ', τ', m', R, l, PSr.ext h e⟩
  | rt d m' => rw [hf] at h; exact h
  | bk τ' m' => rw [hf] at h; exact h
  | ct τ' m' => rw [hf] at h; exact h
  | ex x p τ' m' => rw [hf] at h; exact h
  | bad => rw [hf] at h; exact h
theorem iss_nil : ISs X T [] sNx := ⟨fun W tk => pss_imp pss_nil fun σ H E ⟨ρ, τ, m, R, l, q⟩ => q ρ σ H .refl R l⟩
theorem iss_cons {f g : Sl → M → S} (h1 : IS X T st f) (h2 : ISs X T rest g) : ISs X T (st :: rest) (sSeq f g) :=
  ⟨fun W tk => pss_imp (pss_cons (h1.run W tk) (h2.run W tk)) fun σ H E ⟨ρ, τ, m, R, l, q⟩ => ⟨ρ, τ, m, R, l, q.seq⟩⟩
theorem iss_one {f : Sl → M → S} (h : IS X T st f) : ISs X T [st] f := ⟨fun W tk => pss_one (h.run W tk)⟩
theorem is_pass : IS X T (.Pass pos) sNx := ⟨fun W tk => ps_imp ps_pass fun σ H E ⟨ρ, τ, m, R, l, q⟩ => q ρ σ H .refl R l⟩
def sBk : Sl → M → S := fun τ m => .bk τ m
def sCt : Sl → M → S := fun τ m => .ct τ m
theorem is_break : IS X T (.Break pos) sBk := ⟨fun W tk => ps_imp ps_break fun σ H E ⟨ρ, τ, m, R, l, q⟩ => q ρ σ H .refl R l⟩
theorem is_cont : IS X T (.Continue pos) sCt := ⟨fun W tk => ps_imp ps_continue fun σ H E ⟨ρ, τ, m, R, l, q⟩ => q ρ σ H .refl R l⟩
theorem is_never {f : Sl → M → S} (hb : ∀ τ m, f τ m = .bad) : IS X T st f := ⟨fun W _ => ⟨fun pins s σ H E I ⟨ρ, τ, m, R, l, q⟩ => by rw [hb] at q; exact False.elim q⟩⟩
def sBad : Sl → M → S := fun _ _ => .bad
theorem is_bad : IS X T st sBad := is_never fun _ _ => rfl
def eBad : Sl → M → R D := fun _ _ => .bad
theorem ie_bad : IE X T e eBad := ie_never fun _ _ => rfl
def sExpr (f : Sl → M → R D) : Sl → M → S := fun τ m => bS (f τ m) τ fun _ m1 => .nx τ m1
theorem is_expr {f : Sl → M → R D} (h : IE X T e f) (hs : swapsWith e none pos.line X.env = pure false := by rfl) : IS X T (.Expr e pos) (sExpr f) :=
  ⟨fun W tk => ps_imp (ps_expr (h.run W tk) hs) fun σ H E ⟨ρ, τ, m, R, l, q⟩ => ⟨ρ, τ, m, R, l, (q.bindE l).imp fun d ρ1 m1 H1 e1 R1 q1 v rv => q1 ρ1 σ H1 .refl R1 (l.ext e1)⟩⟩
def sRet (f : Sl → M → R D) : Sl → M → S := fun τ m => bS (f τ m) τ fun d m1 => .rt d m1
theorem is_ret {f : Sl → M → R D} (h : IE X T e f) : IS X T (.Return (some e) pos) (sRet f) :=
  ⟨fun W tk => ps_imp (ps_ret (h.run W tk)) fun σ H E ⟨ρ, τ, m, R, l, q⟩ => ⟨ρ, τ, m, R, l, (q.bindE l).imp fun d ρ1 m1 H1 e1 R1 q1 v rv => q1 ρ1 v H1 .refl R1 rv⟩⟩
def sIf (c : Sl → M → R Bool) (f g : Sl → M → S) : Sl → M → S := fun τ m => bS (c τ m) τ fun b m1 => if b = true then f τ m1 else g τ m1
theorem is_if {fc : Sl → M → R Bool} {f g : Sl → M → S} {as bs : List Stmt} (hc : IT X T c fc) (ha : ISs X T as f) (hb : ISs X T bs g) : IS X T (.If c as bs pos) (sIf fc f g) :=
  ⟨fun W tk => ps_imp (ps_if (hc.run W tk) (ha.run W tk) (hb.run W tk)) fun σ H E ⟨ρ, τ, m, R, l, q⟩ => ⟨ρ, τ, m, R, l, (q.bindE l).imp fun k ρ1 m1 H1 e1 R1 q1 => by
    cases k with
    | true =>
      rw [if_pos rfl] at q1
      exact (if_pos rfl).mpr ⟨ρ1, τ, m1, R1, l.ext e1, q1⟩
    | false =>
      rw [if_neg Bool.false_ne_true] at q1
      exact (if_neg Bool.false_ne_true).mpr ⟨ρ1, τ, m1, R1, l.ext e1, q1⟩⟩⟩
def sSet (i : Nat) (f : Sl → M → R D) : Sl → M → S := fun τ m => bS (f τ m) τ fun d m1 => .nx (τ.set i (some d)) m1
theorem is_set {i : Nat} {x : Str} {f : Sl → M → R D} (hN : X.N.Nodup) (he : IE X T e f) (hi : X.N[i]? = some x := by rfl) (hx : Loc X.env.scope x := by first | exact Or.inl rfl | exact Or.inr rfl) (hs : swapsWith e (some (.Name x pos')) pos.line X.env = pure false := by rfl) (hf : X.fn x = true ∨ X.env.scope.names.lookup x = some .local := by first | exact .inl rfl | exact .inr rfl | assumption) :
    IS X T (.Assign [.Name x pos'] e pos) (sSet i f) :=
  ⟨fun W tk => ps_imp (ps_set hN hi hx (he.run W tk) hs hf) fun σ H E ⟨ρ, τ, m, R, l, q⟩ => ⟨ρ, τ, m, R, l, (q.bindE l).imp fun d ρ1 m1 H1 e1 R1 q1 v rv => q1 ρ1 _ H1 .refl R1 ((l.ext e1).set i rv)⟩⟩
/-! ### targets -/
def rdG (K : PySem.W.Frag) (mg : Str → Option Value) (T : Tb) (W : WX) (g : D → Sl → M → S) : TG := fun v σ H Q => ∃ ρ τ m d, Rep K mg T ρ m H ∧ RSl K T ρ H τ σ ∧ RD K T ρ H d v ∧ (match g d τ m with
  | .nx τ' m' => ∀ ρ' σ' H', Ext K ρ H ρ' H' → Rep K mg T ρ' m' H' → RSl K T ρ' H' τ' σ' → Q σ' H'
  | .ex x p τ' m' => ∀ ρ' σ' H' C dd, Ext K ρ H ρ' H' → Rep K mg T ρ' m' H' → RSl K T ρ' H' τ' σ' → RX K mg T ρ' H' x p C dd → W C dd σ' H'
  | _ => False)
structure IG (X : Cx) (T : Tb) (t : Expr) (g : D → Sl → M → S) : Prop where
  run : ∀ W, Takes X W → PG X t (rdG X.K X.mg T W g)
theorem pg_imp {t : Expr} {g g' : TG} (h : PG X t g) (i : ∀ v σ H Q, g' v σ H Q → g v σ H Q) : PG X t g' := ⟨fun pins s σ H v u Q I r q => h.run pins s σ H v u Q I r (i v σ H Q q)⟩
def gN (i : Nat) : D → Sl → M → S := fun d τ m => .nx (τ.set i (some d)) m
theorem ig_name {i : Nat} {x : Str} (hN : X.N.Nodup) (hi : X.N[i]? = some x := by rfl) (hx : Loc X.env.scope x := by first | exact Or.inl rfl | exact Or.inr rfl) (hf : X.fn x = true ∨ X.env.scope.names.lookup x = some .local := by first | exact .inl rfl | exact .inr rfl | assumption) : IG X T (.Name x pos) (gN i) :=
  ⟨fun W tk => pg_imp (pg_name hN hi hx hf) fun v σ H Q ⟨ρ, τ, m, d, R, l, r, q⟩ => q ρ _ H .refl R (l.set i r)⟩
def gNs : List Nat → List D → Sl → Sl
  | i :: is, d :: ds, τ => gNs is ds (τ.set i (some d))
  | _, _, τ => τ
def gT (is : List Nat) : D → Sl → M → S := fun d τ m => match d with
  | .tup xs => if xs.length = is.length then .nx (gNs is xs τ) m else .bad
  | _ => .bad
/-- names in a row -/
inductive NamesAre (X : Cx) : List Expr → List Nat → Prop
  | nil : NamesAre X [] []
  | cons {i : Nat} {is : List Nat} {x : Str} {es : List Expr} {pos : Pos} : X.N[i]? = some x → Loc X.env.scope x → (X.fn x = true ∨ X.env.scope.names.lookup x = some .local) → NamesAre X es is → NamesAre X (.Name x pos :: es) (i :: is)
theorem assign_names {X : Cx} {T : Tb} (hN : X.N.Nodup) : ∀ {es : List Expr} {is : List Nat}, NamesAre X es is → ∃ t, PGs X es t ∧ ∀ ρ τ σ H (ds : List D) (vs : List V) (Q : L2.St → Hp → Prop), RSl X.K T ρ H τ σ → RDs X.K T ρ H ds vs → ds.length = is.length →
    (∀ σ', RSl X.K T ρ H (gNs is ds τ) σ' → Q σ' H) → t vs σ H Q := by
  intro es is h
  induction h with
  | nil => exact ⟨_, pgs_nil, fun ρ τ σ H ds vs Q l r hl q => by
      cases ds with
      | nil => exact ⟨r, q σ l⟩
      | cons _ _ => cases hl⟩
  | @cons i is x es pos hi hx hf hr ih =>
    obtain ⟨t, ht, hq⟩ := ih
    refine ⟨_, pgs_cons (pg_name hN hi hx hf) ht rfl, fun ρ τ σ H ds vs Q l r hl q => ?_⟩
    cases ds with
    | nil => cases hl
    | cons d ds =>
      obtain ⟨v, w, rfl, rv, rw⟩ := r
      exact ⟨v, w, rfl, hq ρ _ _ H ds w Q (l.set i rv) rw (by simpa using hl) q⟩
theorem ig_tup {es : List Expr} {is : List Nat} {k : Nat} (hc : X.calm = true) (hN : X.N.Nodup) (h : NamesAre X es is) (hn : (assignEach es X.env).length = is.length := by rfl) (hst : (assignEach es X.env).findIdx? (·.1) = none := by rfl) : IG X T (.Tuple es k pos) (gT is) := by
  obtain ⟨t, ht, hq⟩ := assign_names (T := T) hN h
  refine ⟨fun W tk => pg_imp (pg_tup hc ht hn hst) fun v σ H Q ⟨ρ, τ, m, d, R, l, r, q⟩ => ?_⟩
  cases d with
  | tup xs =>
    obtain ⟨a, vs, rfl, hs, rs⟩ := r
    have q' : match (if xs.length = is.length then S.nx (gNs is xs τ) m else .bad) with
      | .nx τ' m' => ∀ ρ' σ' H', Ext X.K ρ H ρ' H' → Rep X.K X.mg T ρ' m' H' → RSl X.K T ρ' H' τ' σ' → Q σ' H'
      | .ex x p τ' m' => ∀ ρ' σ' H' C dd, Ext X.K ρ H ρ' H' → Rep X.K X.mg T ρ' m' H' → RSl X.K T ρ' H' τ' σ' → RX X.K X.mg T ρ' H' x p C dd → W C dd σ' H'
      | _ => False := q
    by_cases hl : xs.length = is.length
    · rw [if_pos hl] at q'
      exact ⟨a, vs, rfl, hs, by rw [rs.len]; exact hl, hq ρ τ σ H xs vs Q l rs hl fun σ' l' => q' ρ σ' H .refl R l'⟩
    · rw [if_neg hl] at q'
      exact False.elim q'
  | _ => exact False.elim q
/-- o[i] = d -/
def gS (fo fi : Sl → M → R D) : D → Sl → M → S := fun d τ m => bS (fo τ m) τ fun x m1 => bS (fi τ m1) τ fun y m2 => match x, y with
  | .obj k, .int i => match m2[k]? with
    | some (.lst xs) => match ixN xs.length i with
      | some j => .nx τ (m2.set k (.lst (xs.set j d)))
      | none => .bad
    | _ => .bad
  | _, _ => .bad
theorem ig_sub {i : Expr} {fo fi : Sl → M → R D} (ho : IE X T o fo) (hi : IE X T i fi)
    (ha : ∀ v, assign (.Subscript o i pos) X.env v = (do
      let ov ← holding [v] (eval o X.env)
      let iv ← holding [v, ov] (eval i X.env)
      standAt pos
      holding [v, ov, iv] (setItem ov iv v)
      release [v, ov, iv] []) := by intro _; rfl) : IG X T (.Subscript o i pos) (gS fo fi) := by
  refine ⟨fun W tk => pg_imp (pg_sub (ho.run W tk) (hi.run W tk) set_list ha) fun v σ H Q ⟨ρ, τ, m, d, R, l, r, q⟩ => ?_⟩
  have q0 : PSr X.K X.mg T W ρ H (gS fo fi d τ m) { nx := Q, rt := fun _ _ => True, bk := fun _ _ => True, ct := fun _ _ => True } := by
    unfold PSr
    cases hg : gS fo fi d τ m with
    | nx τ' m' => rw [hg] at q; exact q
    | ex x p τ' m' => rw [hg] at q; exact q
    | rt d' m' => rw [hg] at q; exact False.elim q
    | bk τ' m' => rw [hg] at q; exact False.elim q
    | ct τ' m' => rw [hg] at q; exact False.elim q
    | bad => rw [hg] at q; exact False.elim q
  refine ⟨ρ, τ, m, R, l, (q0.bindE l).imp fun x ρ1 m1 H1 e1 R1 q1 ov rov => ⟨ρ1, τ, m1, R1, l.ext e1, (q1.bindE (l.ext e1)).imp fun y ρ2 m2 H2 e2 R2 q2 iv riv => ?_⟩⟩
  cases y with
  | int i =>
    cases x with
    | obj k =>
      obtain ⟨a, ha', rfl⟩ := RD.ext e2 _ _ rov
      have riv' : iv = .int i := riv
      dsimp only at q2
      cases hk : m2[k]? with
      | none => rw [hk] at q2; exact False.elim q2
      | some u =>
        rw [hk] at q2
        cases u with
        | ins c fs => exact False.elim q2
        | dct kds => exact False.elim q2
        | lst xs =>
          dsimp only at q2
          cases hj : ixN xs.length i with
          | none => rw [hj] at q2; exact False.elim q2
          | some j =>
            rw [hj] at q2
            obtain ⟨vs, hs, rs⟩ := R2.at_ k _ a hk ha'
            refine ⟨a, vs, i, j, rfl, riv', hs, by rw [rs.len]; exact hj, ?_⟩
            have hm : a ∈ ρ2 := List.mem_of_getElem? ha'
            have ex : Ext X.K ρ2 H2 ρ2 (upd H2 a (.lst (vs.set j v))) := Ext.write R2 hm
            have rd : RD X.K T ρ2 H2 d v := RD.ext e2 _ _ (RD.ext e1 _ _ r)
            refine q2 ρ2 σ _ ex (R2.write ha' ⟨_, upd_same, RDs.ext ex _ _ (rs.set j rd)⟩) (((l.ext e1).ext e2).ext ex)
    | _ => exact False.elim q2
  | _ => cases x <;> exact False.elim q2
def sAsg (f : Sl → M → R D) (g : D → Sl → M → S) : Sl → M → S := fun τ m => bS (f τ m) τ fun d m1 => match g d τ m1 with
  | .nx τ' m' => .nx τ' m'
  | .ex x p τ' m' => .ex x p τ' m'
  | _ => .bad
theorem is_asg {t : Expr} {f : Sl → M → R D} {g : D → Sl → M → S} (he : IE X T e f) (hg : IG X T t g) (hs : swapsWithSole [t] e pos.line X.env = pure false := by rfl) (hw : swappedStores [t] e X.env = pure none := by rfl)
    (h1 : (assignEach [t] X.env).map (·.2) = [assign t X.env] := by rfl) : IS X T (.Assign [t] e pos) (sAsg f g) :=
  ⟨fun W tk => ps_imp (ps_asg (he.run W tk) (hg.run W tk) hs hw h1) fun σ H E ⟨ρ, τ, m, R, l, q⟩ => ⟨ρ, τ, m, R, l, (q.bindE l).imp fun d ρ1 m1 H1 e1 R1 q1 v rv => ⟨ρ1, τ, m1, d, R1, l.ext e1, rv, by
    cases hg : g d τ m1 with
    | nx τ' m' => rw [hg] at q1; exact q1
    | ex x p τ' m' => rw [hg] at q1; exact q1
    | rt d' m' => rw [hg] at q1; exact False.elim q1
    | bk τ' m' => rw [hg] at q1; exact False.elim q1
    | ct τ' m' => rw [hg] at q1; exact False.elim q1
    | bad => rw [hg] at q1; exact False.elim q1⟩⟩⟩
/-- o.f = e -/
def setF (c k : Nat) (x d : D) (τ : Sl) (m : M) : S := match x with
  | .obj i => match m[i]? with
    | some (.ins c' fs) => if c' = c then .nx τ (m.set i (.ins c (fs.set k (some d)))) else .bad
    | _ => .bad
  | _ => .bad
def sFld (c k : Nat) (fo fv : Sl → M → R D) : Sl → M → S := fun τ m => bS (fv τ m) τ fun d m1 => bS (fo τ m1) τ fun x m2 => setF c k x d τ m2
theorem setF_ok {K : PySem.W.Frag} {mg : Str → Option Value} {W : WX} {σ : L2.St} {ρ : List Addr} {H : Hp} {τ : Sl} {m : M} {k cn : Nat} {x : Str} {d y : D} {v u : V} {E : Ends} (fd : Fd K mg T cn k x) (R : Rep K mg T ρ m H) (l : RSl K T ρ H τ σ) (rd : RD K T ρ H d v) (ry : RD K T ρ H y u) (h : PSr K mg T W ρ H (setF cn k y d τ m) E) :
    ∃ a C dx fs, u = .ref a ∧ H a = some (.ins C dx fs) ∧ Cls K C ∧ NoAttr K C x ∧ fs.length < 1000 ∧ mg (T.cls cn) = some (.ref C) ∧ E.nx σ (upd H a (.ins C dx (putF x v fs))) := by
  obtain ⟨hk, hnd, hsz, C, hC, cc, na⟩ := fd
  unfold setF at h
  cases y with
  | obj i =>
    dsimp only at h
    obtain ⟨a, ha, rfl⟩ := ry
    cases e : m[i]? with
    | none => rw [e] at h; exact False.elim h
    | some o =>
      rw [e] at h
      cases o with
      | lst ys => exact False.elim h
      | dct _ => exact False.elim h
      | ins c' fs =>
        dsimp only at h
        by_cases hc : c' = cn
        · rw [if_pos hc] at h
          subst hc
          obtain ⟨C', dx, vs, h1, h2, h3, h4, h5, h6⟩ := R.at_ i _ a e ha
          rw [hC] at h1; cases h1
          have hxm : x ∈ T.flds c' := List.mem_of_getElem? hk
          have hl : vs.length < 900 := by
            have := sub_len (vs.map (·.1)) (T.flds c') h4 fun f hf => by
              obtain ⟨p, hp, rfl⟩ := List.mem_map.mp hf
              exact h5 p hp
            rw [List.length_map] at this
            omega
          have hm : a ∈ ρ := List.mem_of_getElem? ha
          have ex : Ext K ρ H ρ (upd H a (.ins C dx (putF x v vs))) := Ext.write R hm
          refine ⟨a, C, dx, vs, rfl, h2, cc, na, by omega, hC, h ρ σ _ ex (R.write ha ⟨C, dx, putF x v vs, hC, upd_same, by simpa using h3, putF_keys _ _ _ h4, putF_mem _ _ _ hxm _ h5, fun j f d' q1 q2 => ?_⟩) (l.ext ex)⟩
          rw [lookup_putF]
          by_cases hf : f = x
          · subst hf
            have : j = k := nodup_ix hnd q1 hk
            subst this
            rw [if_pos rfl]
            have hl2 : j < fs.length := by
              have := (List.getElem?_eq_some_iff.mp q2).1
              simpa using this
            rw [List.getElem?_set_self hl2] at q2
            cases q2
            exact ⟨v, rfl, RD.ext ex _ _ rd⟩
          · rw [if_neg hf]
            have : j ≠ k := fun z => hf (by rw [z, hk] at q1; exact (Option.some.inj q1).symm)
            rw [List.getElem?_set_ne (Ne.symm this)] at q2
            obtain ⟨w, w1, w2⟩ := h6 j f d' q1 q2
            exact ⟨w, w1, RD.ext ex _ _ w2⟩
        · rw [if_neg hc] at h
          exact False.elim h
  | _ => exact False.elim h
theorem is_fld {cn k : Nat} {x : Str} {fo fv : Sl → M → R D} (fd : Fd X.K X.mg T cn k x) (ho : IE X T o fo) (hv : IE X T e fv) (hs : swapsWith e (some (.Attribute o x pos')) pos.line X.env = pure false := by rfl) : IS X T (.Assign [.Attribute o x pos'] e pos) (sFld cn k fo fv) :=
  ⟨fun W tk => ps_imp (ps_fld (ho.run W tk) (hv.run W tk) hs) fun σ H E ⟨ρ, τ, m, R, l, q⟩ => ⟨ρ, τ, m, R, l, (q.bindE l).imp fun d ρ1 m1 H1 e1 R1 q1 v rv => ⟨ρ1, τ, m1, R1, l.ext e1, (q1.bindE (l.ext e1)).imp fun y ρ2 m2 H2 e2 R2 q2 u ru =>
    let ⟨a, C, dx, fs, y1, y2, y3, y4, y5, _, y6⟩ := setF_ok fd R2 ((l.ext e1).ext e2) (RD.ext e2 _ _ rv) ru q2
    ⟨a, C, dx, fs, y1, y2, y3, y4, y5, y6⟩⟩⟩⟩
/-- o.f op= e -/
def sFldA (c k : Nat) (g : M → D → D → Option D) (fo fv : Sl → M → R D) : Sl → M → S := fun τ m => bS (fo τ m) τ fun x m1 => bS (eFld c k (eC x) τ m1) τ fun d m2 => bS (fv τ m2) τ fun y m3 => bS (Sh.R.of (g m3 d y) m3) τ fun z m4 => setF c k x z τ m4
theorem is_fldA {cn k : Nat} {x : Str} {op : Operator} {g : M → D → D → Option D} {fo fv : Sl → M → R D} (fd : Fd X.K X.mg T cn k x) (ho : IE X T o fo) (hv : IE X T e fv) (hop : OpS X T (inplaceOp op) g) : IS X T (.AugAssign (.Attribute o x tpos) op e pos) (sFldA cn k g fo fv) := by
  obtain ⟨r, h1, h2⟩ := hop
  refine ⟨fun W tk => ps_imp (ps_fldaug (rd := r) (ho.run W tk) (hv.run W tk) h1) fun σ H E ⟨ρ, τ, m, R, l, q⟩ => ⟨ρ, τ, m, R, l, (q.bindE l).imp fun y ρ1 m1 H1 e1 R1 q1 u ru => ?_⟩⟩
  have q1' := PSr.bindE q1 (l.ext e1)
  obtain ⟨hk, hnd, hsz, C, hC, cc, na⟩ := id fd
  cases y with
  | obj i =>
    obtain ⟨a, ha, rfl⟩ := ru
    have q2 := q1'
    unfold eFld eC at q2
    dsimp only [Sh.R.bind] at q2
    cases e : m1[i]? with
    | none => rw [e] at q2; exact False.elim q2
    | some w =>
      rw [e] at q2
      cases w with
      | lst ys => exact False.elim q2
      | dct _ => exact False.elim q2
      | ins c' fs =>
        dsimp only at q2
        by_cases hc : c' = cn
        · rw [if_pos hc] at q2
          subst hc
          cases hf : fs[k]? with
          | none => rw [hf] at q2; exact False.elim q2
          | some z =>
            rw [hf] at q2
            cases z with
            | none => exact False.elim q2
            | some d =>
              obtain ⟨C', dx, vs, h3, h4, h5, h6, h7, h8⟩ := R1.at_ i _ a e ha
              rw [hC] at h3; cases h3
              obtain ⟨w, hw, rw⟩ := h8 k x d hk hf
              refine ⟨a, C, dx, vs, w, rfl, h4, cc, na, hw, ρ1, τ, m1, R1, l.ext e1, (PSr.bindE (PR.ok R1 q2) (l.ext e1)).imp fun y' ρ3 m3 H3 e3 R3 q3 u' ru' => ?_⟩
              obtain ⟨z, hz, q4⟩ := PR.of R3 (PSr.bindE q3 ((l.ext e1).ext e3))
              refine h2 ρ3 m3 H3 d y' z w u' _ R3 (RD.ext e3 _ _ rw) ru' hz fun t rt => ?_
              obtain ⟨a2, C2, dx2, fs2, w1, w2, _, _, w5, w7, w6⟩ := setF_ok fd R3 ((l.ext e1).ext e3) rt (RD.ext e3 (.obj i) _ ⟨a, ha, rfl⟩) q4
              cases w1
              rw [hC] at w7; cases w7
              exact ⟨dx2, fs2, w2, w5, w6⟩
        · rw [if_neg hc] at q2
          exact False.elim q2
  | _ => exact False.elim q1'
end
end Sh

set_option Elab.async false
set_option linter.all false
set_option autoImplicit false
set_option maxRecDepth 100000
set_option maxHeartbeats 2000000
namespace Sh
open PySem PySem.Spec PyProof.Rows L2

/-! ### loops -/
def loop (g : D → Sl → M → S) (body : Sl → M → S) : List D → Sl → M → S
  | [], τ, m => .nx τ m
  | x :: r, τ, m => match g x τ m with
    | .nx τ1 m1 => match body τ1 m1 with
      | .nx τ2 m2 => loop g body r τ2 m2
      | .ct τ2 m2 => loop g body r τ2 m2
      | .bk τ2 m2 => .nx τ2 m2
      | s => s
    | .ex y p τ1 m1 => .ex y p τ1 m1
    | _ => .bad
open Classical in
/-- .. over the list at k, which is to stay -/
noncomputable def loopO (g : D → Sl → M → S) (body : Sl → M → S) (k : Nat) (xs : List D) : List D → Sl → M → S
  | [], τ, m => if m[k]? = some (.lst xs) then .nx τ m else .bad
  | x :: r, τ, m => if m[k]? = some (.lst xs) then match g x τ m with
    | .nx τ1 m1 => match body τ1 m1 with
      | .nx τ2 m2 => loopO g body k xs r τ2 m2
      | .ct τ2 m2 => loopO g body k xs r τ2 m2
      | .bk τ2 m2 => .nx τ2 m2
      | s => s
    | .ex y p τ1 m1 => .ex y p τ1 m1
    | _ => .bad else .bad
section
variable {X : Cx} {T : Tb} {tg e a b : Expr} {sts : List Stmt} {pos p : Pos}
/-- one turn: go is the rest of the loop -/
theorem turn_read {K : PySem.W.Frag} {mg : Str → Option Value} {W : WX} {g : D → Sl → M → S} {body : Sl → M → S} {go : Sl → M → S} {ρ : List Addr} {σ : L2.St} {H : Hp} {τ : Sl} {m : M} {x : D} {v : V} {E : Ends} {N : L2.St → Hp → Prop}
    (R : Rep K mg T ρ m H) (l : RSl K T ρ H τ σ) (r : RD K T ρ H x v)
    (q : PSr K mg T W ρ H (match g x τ m with
      | .nx τ1 m1 => match body τ1 m1 with
        | .nx τ2 m2 => go τ2 m2
        | .ct τ2 m2 => go τ2 m2
        | .bk τ2 m2 => .nx τ2 m2
        | s => s
      | .ex y p τ1 m1 => .ex y p τ1 m1
      | _ => .bad) E)
    (hN : ∀ ρ2 σ2 H2 τ2 m2, Ext K ρ H ρ2 H2 → Rep K mg T ρ2 m2 H2 → RSl K T ρ2 H2 τ2 σ2 → PSr K mg T W ρ2 H2 (go τ2 m2) E → N σ2 H2) :
    rdG K mg T W g v σ H fun σ2 H2 => rdS K mg T W body { E with nx := N, ct := N, bk := E.nx } σ2 H2 := by
  refine ⟨ρ, τ, m, x, R, l, r, ?_⟩
  cases hg : g x τ m with
  | nx τ1 m1 =>
    rw [hg] at q
    intro ρ1 σ1 H1 e1 R1 l1
    refine ⟨ρ1, τ1, m1, R1, l1, ?_⟩
    dsimp only at q
    cases hb : body τ1 m1 with
    | nx τ2 m2 =>
      rw [hb] at q
      exact fun ρ2 σ2 H2 e2 R2 l2 => hN ρ2 σ2 H2 τ2 m2 (e1.trans e2) R2 l2 (PSr.ext q (e1.trans e2))
    | ct τ2 m2 =>
      rw [hb] at q
      exact fun ρ2 σ2 H2 e2 R2 l2 => hN ρ2 σ2 H2 τ2 m2 (e1.trans e2) R2 l2 (PSr.ext q (e1.trans e2))
    | bk τ2 m2 => rw [hb] at q; exact fun ρ2 σ2 H2 e2 R2 l2 => q ρ2 σ2 H2 (e1.trans e2) R2 l2
    | rt d m2 => rw [hb] at q; exact fun ρ2 v2 H2 e2 R2 l2 => q ρ2 v2 H2 (e1.trans e2) R2 l2
    | ex y p τ2 m2 => rw [hb] at q; exact fun ρ2 σ2 H2 C dd e2 R2 l2 => q ρ2 σ2 H2 C dd (e1.trans e2) R2 l2
    | bad => rw [hb] at q; exact False.elim q
  | ex y p τ1 m1 => rw [hg] at q; exact q
  | rt d m1 => rw [hg] at q; exact False.elim q
  | bk τ1 m1 => rw [hg] at q; exact False.elim q
  | ct τ1 m1 => rw [hg] at q; exact False.elim q
  | bad => rw [hg] at q; exact False.elim q
theorem drop_at {α : Type} {xs : List α} {j : Nat} (h : j < xs.length) : ∃ x, xs[j]? = some x ∧ xs.drop j = x :: xs.drop (j + 1) := ⟨xs[j], by simp [h], List.drop_eq_getElem_cons h⟩
/-- the loop's invariant -/
def Lv (K : PySem.W.Frag) (mg : Str → Option Value) (T : Tb) (W : WX) (go : List D → Sl → M → S) (xs : List D) (ρ : List Addr) (H : Hp) (E : Ends) (j : Nat) (σ : L2.St) (H' : Hp) : Prop :=
  ∃ ρ' τ' m', Ext K ρ H ρ' H' ∧ Rep K mg T ρ' m' H' ∧ RSl K T ρ' H' τ' σ ∧ PSr K mg T W ρ' H' (go (xs.drop j) τ' m') E
/-- what is walked: a tuple, a list that nobody writes -/
def walkF (d : D) : Option (List D) := match d with
  | .tup xs => some xs
  | _ => none
def sForT (g : D → Sl → M → S) (f : Sl → M → R D) (body : Sl → M → S) : Sl → M → S := fun τ m => bS (f τ m) τ fun d m1 => match d with
  | .tup xs => loop g body xs τ m1
  | _ => .bad
theorem is_forT {g : D → Sl → M → S} {f : Sl → M → R D} {body : Sl → M → S} (hp : PassesOwn (model X.prog X.w) X.A X.env X.xe) (hc : X.calm = true) (he : IE X T e f) (hg : IG X T tg g) (hb : ISs X T sts body)
    (hs : ∀ x, foldedSetIterable e X.env x = pure x := by intro _; rfl) : IS X T (.For tg e sts [] pos) (sForT g f body) := by
  refine ⟨fun W tk => ps_imp (ps_for hp hc (pi_tup (he.run W tk)) (hg.run W tk) (hb.run W tk) hs) fun σ H E ⟨ρ, τ, m, R, l, q⟩ => ⟨ρ, τ, m, R, l, (q.bindE l).imp fun d ρ1 m1 H1 e1 R1 q1 v rv => ?_⟩⟩
  cases d with
  | tup xs =>
    obtain ⟨a, vs, rfl, hsq, rs⟩ := rv
    have q1' : PSr X.K X.mg T W ρ1 H1 (loop g body xs τ m1) E := q1
    refine ⟨a, rfl, ⟨vs, hsq⟩, for_tup (K := X.K) (a := a) (xs := vs) (Lv X.K X.mg T W (loop g body) xs ρ1 H1 E) ⟨ρ1, τ, m1, .refl, R1, l.ext e1, by simpa using q1'⟩ (fun j σ' H' _ ⟨ρ', τ', m', e', _⟩ => e'.tup _ _ hsq) (fun j w σ' H' hw ⟨ρ', τ', m', e', R', l', q'⟩ => ?_) (fun σ' H' ⟨ρ', τ', m', e', R', l', q'⟩ => ?_)⟩
    · have hj : j < xs.length := by rw [← rs.len]; exact (List.getElem?_eq_some_iff.mp hw).1
      obtain ⟨x, hx, hd⟩ := drop_at hj
      obtain ⟨w', hw', rw'⟩ := (RDs.ext e' _ _ rs).get hx
      rw [hw] at hw'; cases hw'
      rw [hd] at q'
      exact turn_read (go := loop g body (xs.drop (j + 1))) R' l' rw' q' fun ρ2 σ2 H2 τ2 m2 e2 R2 l2 q2 => ⟨ρ2, τ2, m2, e'.trans e2, R2, l2, q2⟩
    · have hn : xs.drop vs.length = [] := by rw [rs.len]; simp
      rw [hn] at q'
      exact q' ρ' σ' H' .refl R' l'
  | _ => exact False.elim q1
/-- .. over a list that nobody writes -/
def sForF (g : D → Sl → M → S) (f : Sl → M → R D) (body : Sl → M → S) : Sl → M → S := fun τ m => bS (f τ m) τ fun d m1 => match d with
  | .frl xs => loop g body xs τ m1
  | _ => .bad
theorem is_forF {g : D → Sl → M → S} {f : Sl → M → R D} {body : Sl → M → S} (hp : PassesOwn (model X.prog X.w) X.A X.env X.xe) (hc : X.calm = true) (he : IE X T e f) (hg : IG X T tg g) (hb : ISs X T sts body)
    (hs : ∀ x, foldedSetIterable e X.env x = pure x := by intro _; rfl) : IS X T (.For tg e sts [] pos) (sForF g f body) := by
  refine ⟨fun W tk => ps_imp (ps_for hp hc (pi_list (he.run W tk)) (hg.run W tk) (hb.run W tk) hs) fun σ H E ⟨ρ, τ, m, R, l, q⟩ => ⟨ρ, τ, m, R, l, (q.bindE l).imp fun d ρ1 m1 H1 e1 R1 q1 v rv => ?_⟩⟩
  cases d with
  | frl xs =>
    obtain ⟨a, vs, rfl, hsq, rs⟩ := rv
    have q1' : PSr X.K X.mg T W ρ1 H1 (loop g body xs τ m1) E := q1
    refine ⟨a, rfl, ⟨vs, hsq.sq⟩, for_list (K := X.K) (a := a) (xs := vs) (Lv X.K X.mg T W (loop g body) xs ρ1 H1 E) ⟨ρ1, τ, m1, .refl, R1, l.ext e1, by simpa using q1'⟩ (fun j σ' H' _ ⟨ρ', τ', m', e', _⟩ => (e'.frz _ _ hsq).sq) (fun j w σ' H' hw ⟨ρ', τ', m', e', R', l', q'⟩ => ?_) (fun σ' H' ⟨ρ', τ', m', e', R', l', q'⟩ => ?_)⟩
    · have hj : j < xs.length := by rw [← rs.len]; exact (List.getElem?_eq_some_iff.mp hw).1
      obtain ⟨x, hx, hd⟩ := drop_at hj
      obtain ⟨w', hw', rw'⟩ := (RDs.ext e' _ _ rs).get hx
      rw [hw] at hw'; cases hw'
      rw [hd] at q'
      exact turn_read (go := loop g body (xs.drop (j + 1))) R' l' rw' q' fun ρ2 σ2 H2 τ2 m2 e2 R2 l2 q2 => ⟨ρ2, τ2, m2, e'.trans e2, R2, l2, q2⟩
    · have hn : xs.drop vs.length = [] := by rw [rs.len]; simp
      rw [hn] at q'
      exact q' ρ' σ' H' .refl R' l'
  | _ => exact False.elim q1
/-- .. over a new list that stands apart -/
def sForL (g : D → Sl → M → S) (f : Sl → M → R (List D)) (body : Sl → M → S) : Sl → M → S := fun τ m => bS (f τ m) τ fun xs m1 => loop g body xs τ m1
theorem is_forL {g : D → Sl → M → S} {f : Sl → M → R (List D)} {body : Sl → M → S} (hp : PassesOwn (model X.prog X.w) X.A X.env X.xe) (hc : X.calm = true) (he : IL X T e f) (hg : IG X T tg g) (hb : ISs X T sts body)
    (hs : ∀ x, foldedSetIterable e X.env x = pure x := by intro _; rfl) : IS X T (.For tg e sts [] pos) (sForL g f body) := by
  refine ⟨fun W tk => ps_imp (ps_for hp hc (pi_list (he.run W tk)) (hg.run W tk) (hb.run W tk) hs) fun σ H E ⟨ρ, τ, m, R, l, q⟩ => ⟨ρ, τ, m, R, l, (q.bindE l).imp fun xs ρ1 m1 H1 e1 R1 q1 a vs hp0 ha hn rs => ?_⟩⟩
  refine ⟨a, rfl, ⟨vs, .inl (.inl ha)⟩, for_list (K := X.K) (a := a) (xs := vs) (Lv X.K X.mg T W (loop g body) xs ρ1 H1 E) ⟨ρ1, τ, m1, .refl, R1, l.ext e1, by simpa using q1⟩ (fun j σ' H' _ ⟨ρ', τ', m', e', _⟩ => .inl (.inl (e'.frm _ _ ha hn noTab_lst.1))) (fun j w σ' H' hw ⟨ρ', τ', m', e', R', l', q'⟩ => ?_) (fun σ' H' ⟨ρ', τ', m', e', R', l', q'⟩ => ?_)⟩
  · have hj : j < xs.length := by rw [← rs.len]; exact (List.getElem?_eq_some_iff.mp hw).1
    obtain ⟨x, hx, hd⟩ := drop_at hj
    obtain ⟨w', hw', rw'⟩ := (RDs.ext e' _ _ rs).get hx
    rw [hw] at hw'; cases hw'
    rw [hd] at q'
    exact turn_read (go := loop g body (xs.drop (j + 1))) R' l' rw' q' fun ρ2 σ2 H2 τ2 m2 e2 R2 l2 q2 => ⟨ρ2, τ2, m2, e'.trans e2, R2, l2, q2⟩
  · have hn : xs.drop vs.length = [] := by rw [rs.len]; simp
    rw [hn] at q'
    exact q' ρ' σ' H' .refl R' l'
/-- .. over a list of the store, which the body leaves as it is -/
noncomputable def sForO (g : D → Sl → M → S) (f : Sl → M → R D) (body : Sl → M → S) : Sl → M → S := fun τ m => bS (f τ m) τ fun d m1 => match d with
  | .obj k => match m1[k]? with
    | some (.lst xs) => loopO g body k xs xs τ m1
    | _ => .bad
  | _ => .bad
theorem loopO_there {K : PySem.W.Frag} {mg : Str → Option Value} {W : WX} {g : D → Sl → M → S} {body : Sl → M → S} {k : Nat} {xs : List D} {ρ : List Addr} {H : Hp} {E : Ends} : ∀ {r : List D} {τ : Sl} {m : M}, PSr K mg T W ρ H (loopO g body k xs r τ m) E → m[k]? = some (.lst xs)
  | [], τ, m, h => by
    unfold loopO at h
    by_cases z : m[k]? = some (.lst xs)
    · exact z
    · rw [if_neg z] at h; exact False.elim h
  | x :: r, τ, m, h => by
    unfold loopO at h
    by_cases z : m[k]? = some (.lst xs)
    · exact z
    · rw [if_neg z] at h; exact False.elim h
theorem is_forO {g : D → Sl → M → S} {f : Sl → M → R D} {body : Sl → M → S} (hp : PassesOwn (model X.prog X.w) X.A X.env X.xe) (hc : X.calm = true) (he : IE X T e f) (hg : IG X T tg g) (hb : ISs X T sts body)
    (hs : ∀ x, foldedSetIterable e X.env x = pure x := by intro _; rfl) : IS X T (.For tg e sts [] pos) (sForO g f body) := by
  refine ⟨fun W tk => ps_imp (ps_for hp hc (pi_list (he.run W tk)) (hg.run W tk) (hb.run W tk) hs) fun σ H E ⟨ρ, τ, m, R, l, q⟩ => ⟨ρ, τ, m, R, l, (q.bindE l).imp fun d ρ1 m1 H1 e1 R1 q1 v rv => ?_⟩⟩
  cases d with
  | obj k =>
    dsimp only at q1
    cases hk : m1[k]? with
    | none => rw [hk] at q1; exact False.elim q1
    | some o =>
      rw [hk] at q1
      cases o with
      | ins c fs => exact False.elim q1
      | dct kds => exact False.elim q1
      | lst xs =>
        have q1' : PSr X.K X.mg T W ρ1 H1 (loopO g body k xs xs τ m1) E := q1
        obtain ⟨a, ha, rfl⟩ := rv
        have sq : ∀ {ρ' H' m'}, Ext X.K ρ1 H1 ρ' H' → Rep X.K X.mg T ρ' m' H' → m'[k]? = some (.lst xs) → ∃ vs, H' a = some (.lst vs) ∧ RDs X.K T ρ' H' xs vs := fun e' R' hm => R'.at_ k _ a hm (e'.get ha)
        obtain ⟨vs0, h0, _⟩ := sq .refl R1 hk
        refine ⟨a, rfl, ⟨vs0, .inl (.inl h0)⟩, fun i n σ' H' => n = xs.length - i ∧ i ≤ xs.length ∧ Lv X.K X.mg T W (loopO g body k xs) xs ρ1 H1 E i σ' H', ⟨xs.length, by simp, Nat.zero_le _, ρ1, τ, m1, .refl, R1, l.ext e1, by simpa using q1'⟩, ?_⟩
        rintro i n σ' H' ⟨rfl, hi, ρ', τ', m', e', R', l', q'⟩
        have hm := loopO_there q'
        obtain ⟨vs, hv, rs⟩ := sq e' R' hm
        by_cases hlt : i < xs.length
        · obtain ⟨x, hx, hd⟩ := drop_at hlt
          obtain ⟨w, hw, rw'⟩ := rs.get hx
          refine .inr ⟨⟨vs, w, .inl (.inl hv), hw⟩, Lv X.K X.mg T W (loopO g body k xs) xs ρ1 H1 E (i + 1), fun σ2 H2 p2 => ⟨xs.length - (i + 1), by omega, rfl, hlt, p2⟩, fun y H2 hy => ?_⟩
          obtain ⟨rfl, hy⟩ := hy
          have : y = w := by
            have := hy vs (.inl (.inl hv))
            rw [hw] at this; exact (Option.some.inj this).symm
          subst this
          rw [hd] at q'
          unfold loopO at q'
          rw [if_pos hm] at q'
          exact turn_read (go := loopO g body k xs (xs.drop (i + 1))) R' l' rw' q' fun ρ2 σ2 H2 τ2 m2 e2 R2 l2 q2 => ⟨ρ2, τ2, m2, e'.trans e2, R2, l2, q2⟩
        · have hn : xs.drop i = [] := by rw [List.drop_eq_nil_iff]; omega
          rw [hn] at q'
          unfold loopO at q'
          rw [if_pos hm] at q'
          exact .inl ⟨⟨vs, .inl (.inl hv), by rw [rs.len]; omega⟩, q' ρ' σ' H' .refl R' l'⟩
  | _ => exact False.elim q1
/-- for .. in range(e) -/
def rangeD (n : Nat) : List D := (List.range n).map fun i => .int (i : Nat)
def sForR (g : D → Sl → M → S) (f : Sl → M → R D) (body : Sl → M → S) : Sl → M → S := fun τ m => bS (f τ m) τ fun d m1 => match d with
  | .int n => if decide (-(2 ^ 62) ≤ n ∧ n < 2 ^ 62) = true then loop g body (rangeD n.toNat) τ m1 else .bad
  | _ => .bad
theorem is_forR {g : D → Sl → M → S} {f : Sl → M → R D} {body : Sl → M → S} (hp : PassesOwn (model X.prog X.w) X.A X.env X.xe) (hc : X.calm = true) (hm : X.mg "range" = none) (he : IE X T e f) (hg : IG X T tg g) (hb : ISs X T sts body) (hgl : Gl X "range" := by rfl)
    (hst : starEach [e] X.env = [(false, eval e X.env)] := by rfl) (hst' : starEach [e] X.env = (false, eval e X.env) :: starEach [] X.env := by rfl)
    (hs : ∀ x, foldedSetIterable (.Call (.Name "range" p) [e] [] pos) X.env x = pure x := by intro _; rfl) {pos2 : Pos} : IS X T (.For tg (.Call (.Name "range" p) [e] [] pos) sts [] pos2) (sForR g f body) := by
  refine ⟨fun W tk => ps_imp (ps_for hp hc (pi_range1 hgl hm (pa_cons (he.run W tk) pa_nil hst') hst) (hg.run W tk) (hb.run W tk) hs) fun σ H E ⟨ρ, τ, m, R, l, q⟩ => ⟨ρ, τ, m, R, l, (q.bindE l).imp fun d ρ1 m1 H1 e1 R1 q1 v rv => ?_⟩⟩
  cases d with
  | int n =>
    have rv' : v = .int n := rv
    subst rv'
    have q0 : PSr X.K X.mg T W ρ1 H1 (if decide (-(2 ^ 62) ≤ n ∧ n < 2 ^ 62) = true then loop g body (rangeD n.toNat) τ m1 else .bad) E := q1
    by_cases hn : decide (-(2 ^ 62) ≤ n ∧ n < 2 ^ 62) = true
    · rw [if_pos hn] at q0
      obtain ⟨n1, n2⟩ := of_decide_eq_true hn
      have hlen : (rangeD n.toNat).length = n.toNat := by simp [rangeD]
      refine ⟨n, rfl, n1, n2, for_range (lo := 0) (n := n.toNat) (Lv X.K X.mg T W (loop g body) (rangeD n.toNat) ρ1 H1 E) ⟨ρ1, τ, m1, .refl, R1, l.ext e1, by simpa using q0⟩ (fun j σ' H' hj ⟨ρ', τ', m', e', R', l', q'⟩ => ?_) (fun σ' H' ⟨ρ', τ', m', e', R', l', q'⟩ => ?_)⟩
      · obtain ⟨x, hx, hd⟩ := drop_at (xs := rangeD n.toNat) (j := j) (by rw [hlen]; exact hj)
        have hx' : x = .int (j : Nat) := by
          unfold rangeD at hx
          rw [List.getElem?_map, List.getElem?_range hj] at hx
          exact (Option.some.inj hx).symm
        subst hx'
        rw [hd] at q'
        rw [Int.zero_add]
        exact turn_read (go := loop g body ((rangeD n.toNat).drop (j + 1))) R' l' (x := .int (j : Nat)) rfl q' fun ρ2 σ2 H2 τ2 m2 e2 R2 l2 q2 => ⟨ρ2, τ2, m2, e'.trans e2, R2, l2, q2⟩
      · have hz : (rangeD n.toNat).drop n.toNat = [] := by rw [List.drop_eq_nil_iff, hlen]; omega
        rw [hz] at q'
        exact q' ρ' σ' H' .refl R' l'
    · rw [if_neg hn] at q0
      exact False.elim q0
  | _ => exact False.elim q1
end

/-! ### raise, try -/
section
variable {X : Cx} {T : Tb} {e : Expr} {sts : List Stmt} {b₀ : Stmt} {pos np pos' : Pos} {x : Str}
def sRaise (y : Nat) : Sl → M → S := fun τ m => .ex y [] τ m
/-- an exception class of the program, without own __init__ -/
structure Xc (K : PySem.W.Frag) (mg : Str → Option Value) (T : Tb) (y : Nat) (bmB : List Value) (newId : String) : Prop where
  ex : ∃ C, mg (T.exn y) = some (.ref C) ∧ PySem.W.excIn K C bmB newId = true ∧ PySem.W.keepIn K (.ref C) = true ∧ PySem.W.subIn K (.ref C) (.type "BaseException") = some true ∧ PySem.W.typeIn K (.ref C) = some (.type "type")
theorem is_raise {y : Nat} {m : Str} {j : Nat} {p p2 : Pos} {bmB : List Value} {B newId initId : String} (F : ExcBaseFacts B newId initId bmB) (h : Xc X.K X.mg T y bmB newId) (hx : T.exn y = x) (hc : X.calm = true) (hg : Gl X x := by rfl) (hdb : (x == ("__debug__" : Str)) = false := by decide) :
    IS X T (.Raise (some (.Call (.Name x p) [.Constant (.str m) j p2] [] pos)) none pos') (sRaise y) := by
  obtain ⟨C, h1, h2, h3, h4, h5⟩ := h
  rw [hx] at h1
  exact ⟨fun W tk => ps_imp (ps_raise hc tk (pmk_own F h2 h1 h3 (raises_own h4 h5) hg hdb)) fun σ H E ⟨ρ, τ, m, R, l, q⟩ => q ρ σ H _ _ .refl R l ⟨⟨C, by rw [hx]; exact h1, rfl⟩, fun z => absurd rfl z⟩⟩
/-- the class c of an except clause, and which of the program's exceptions it takes -/
def Hand (K : PySem.W.Frag) (mg : Str → Option Value) (T : Tb) (c : Value) (sub : Nat → Bool) : Prop := ∀ y C, mg (T.exn y) = some (.ref C) → PySem.W.exmOne K (.ref C) c = some (sub y)
end
end Sh

set_option Elab.async false
set_option linter.all false
set_option autoImplicit false
set_option maxRecDepth 100000
set_option maxHeartbeats 2000000
namespace Sh
open PySem PySem.Spec PyProof.Rows L2

section
variable {X : Cx} {T : Tb} {e : Expr} {sts : List Stmt} {b₀ : Stmt} {su : List Stmt} {pos np pos' : Pos} {x : Str}
/-- X() -/
theorem pmk_own0 {C : Addr} {bmB : List Value} {B newId initId : String} {p : Pos} (F : ExcBaseFacts B newId initId bmB) (q : PySem.W.excIn X.K C bmB newId = true) (gC : X.mg x = some (.ref C))
    (kC : PySem.W.keepIn X.K (.ref C) = true) (r : Raises X (.ref C)) (hg : Gl X x) (hdb : (x == ("__debug__" : Str)) = false := by decide) :
    PMk X (.Call (.Name x p) [] [] pos) (fun σ H Q => Q (.ref C) none H) := by
  intro pins s σ H Q I h
  refine wpAny_Call_Name_kw (ld_glob I hg gC ?_ hdb)
  refine PySem.W.callWith_K0 I.kIn kC ?_
  show wpAny _ _ (call (.ref C) []) _ _ _
  obtain ⟨bm, N, nm, qn, bs, hdct, sn, sub, ab, col, dd, k0, k1, k2, k3, k5, mN, hC, hN, hni, T⟩ := exc_obj I.kIn q
  refine wpAny_call_exc_subT F T hC hN hni (fun h' e hm => ?_) (by show 0 ≤ sizeLine; exact Nat.zero_le _)
  exact mk_of I hm r h (I.hok.gone hm.new)
theorem is_raise0 {y : Nat} {p : Pos} {bmB : List Value} {B newId initId : String} (F : ExcBaseFacts B newId initId bmB) (h : Xc X.K X.mg T y bmB newId) (hx : T.exn y = x) (hc : X.calm = true) (hg : Gl X x := by rfl) (hdb : (x == ("__debug__" : Str)) = false := by decide) :
    IS X T (.Raise (some (.Call (.Name x p) [] [] pos)) none pos') (sRaise y) := by
  obtain ⟨C, h1, h2, h3, h4, h5⟩ := h
  rw [hx] at h1
  exact ⟨fun W tk => ps_imp (ps_raise hc tk (pmk_own0 F h2 h1 h3 (raises_own h4 h5) hg hdb)) fun σ H E ⟨ρ, τ, m, R, l, q⟩ => q ρ σ H _ _ .refl R l ⟨⟨C, by rw [hx]; exact h1, rfl⟩, fun z => absurd rfl z⟩⟩
def noEx (r : S) : S := match r with
  | .ex _ _ _ _ => .bad
  | r => r
theorem noEx_ok {K : PySem.W.Frag} {mg : Str → Option Value} {W : WX} {ρ : List Addr} {H : Hp} {r : S} {E : Ends} (h : PSr K mg T W ρ H (noEx r) E) (W' : WX) : PSr K mg T W' ρ H r E := by
  cases r with
  | ex y p τ m => exact False.elim h
  | nx τ m => exact h
  | rt d m => exact h
  | bk τ m => exact h
  | ct τ m => exact h
  | bad => exact False.elim h
def sTry (sub : Nat → Bool) (f g : Sl → M → S) : Sl → M → S := fun τ m => match f τ m with
  | .ex y p τ' m' => if sub y = true then noEx (g τ' m') else .ex y p τ' m'
  | r => r
theorem is_try {c : Value} {sub : Nat → Bool} {f g : Sl → M → S} (hs : X.stack = X.env :: X.outer) (hf : X.env.frame = some X.env.locals) (hc : Names X x c) (hh : Hand X.K X.mg T c sub)
    (hb : ∀ (pn : List (Addr × Obj)) (xe : Value → Shared → Prop), PassesOwn (model X.prog X.w) X.A X.env xe → ISs (X.tr pn xe) T sts f)
    (hsu : ∀ (a : Addr) (oe : Obj) (pn : List (Addr × Obj)), ISs (X.suite a ((a, oe) :: pn)) T (b₀ :: su) g) :
    IS X T (.Try sts [.ExceptHandler (some (.Name x np)) none (b₀ :: su) pos'] [] [] pos) (sTry sub f g) := by
  refine ⟨fun W tk => ps_imp (ps_try_only (tb := fun W' => rdS X.K X.mg T W' f) (ts := fun _ _ _ => rdS X.K X.mg T (fun _ _ _ _ => False) g) (Wout := W) hs hf hc tk
    (fun W' pn xe tk' ho => (hb pn xe ho).run W' tk') (fun a oe cls d pn _ _ => (hsu a oe pn).run (fun _ _ _ _ => False) takes0)) fun σ H E ⟨ρ, τ, m, R, l, q⟩ => ⟨ρ, τ, m, R, l, ?_⟩⟩
  unfold sTry at q
  cases hft : f τ m with
  | ex y p τ' m' =>
    rw [hft] at q
    intro ρ' σ' H' C dd e' R' l' rx
    obtain ⟨⟨C0, hC0, rfl⟩, _⟩ := id rx
    refine ⟨sub y, hh y C0 hC0, fun hy a ha => ?_, fun hy => ?_⟩
    · dsimp only at q
      rw [if_pos hy] at q
      exact ⟨ρ', τ', m', R', l', PSr.ext (noEx_ok q _) e'⟩
    · dsimp only at q
      rw [if_neg (by rw [hy]; exact Bool.false_ne_true)] at q
      exact q ρ' σ' H' _ dd e' R' l' rx
  | nx τ' m' => rw [hft] at q; exact q
  | rt d m' => rw [hft] at q; exact q
  | bk τ' m' => rw [hft] at q; exact q
  | ct τ' m' => rw [hft] at q; exact q
  | bad => rw [hft] at q; exact q
end

/-! ### match -/
inductive Pt where
  | val (d : D) | non | cap (i : Nat) | wild
  | seq (ps : List Pt) | or (ps : List Pt)
/-- none: not told here; some none: it does not match -/
abbrev Bs := Option (Option (List (Nat × D)))
mutual
def pm : Pt → D → Bs
  | .val c, d => (eqS d c).map fun b => if b = true then some [] else none
  | .non, d => some (if isNon d = true then some [] else none)
  | .cap i, d => some (some [(i, d)])
  | .wild, d => some (some [])
  | .seq ps, d => match d with
    | .tup xs => if xs.length = ps.length then pmAll ps xs else some none
    | .non => some none
    | .int _ => some none
    | .bl _ => some none
    | .wd _ => some none
    | .str _ => some none
    | _ => none
  | .or ps, d => pmOr ps d
def pmAll : List Pt → List D → Bs
  | [], [] => some (some [])
  | p :: ps, x :: xs => match pm p x with
    | none => none
    | some none => some none
    | some (some bs) => match pmAll ps xs with
      | none => none
      | some none => some none
      | some (some cs) => some (some (bs ++ cs))
  | _, _ => none
def pmOr : List Pt → D → Bs
  | [], _ => some none
  | p :: ps, x => match pm p x with
    | none => none
    | some none => pmOr ps x
    | some (some []) => some (some [])
    | some (some (_ :: _)) => none
end
section
variable (X : Cx) (T : Tb)
/-- what was bound -/
def BR (ρ : List Addr) (H : Hp) : Option (List (Nat × D)) → Option (List (Str × Value)) → Prop
  | none, none => True
  | some bs, some cs => Paired (fun (b : Nat × D) (c : Str × Value) => X.N[b.1]? = some c.1 ∧ Loc X.env.scope c.1 ∧ (X.fn c.1 = true ∨ X.env.scope.names.lookup c.1 = some .local) ∧ ∃ v, RelV v c.2 ∧ RD X.K T ρ H b.2 v) bs cs
  | _, _ => False
structure IP (p : Pattern) (q : Pt) : Prop where
  run : ∀ pins s σ ρ m H v u d r (Q : Option (List (Str × Value)) → Shared → Prop), Inv X pins σ H s → RelV v u → Rep X.K X.mg T ρ m H → RD X.K T ρ H d v → pm q d = some r → (∀ s' o, Inv X pins σ H s' → BR X T ρ H r o → Q o s') →
    wpAny (model X.prog X.w) X.A (matchPattern p X.env u) Q X.xe s
structure IPs (ps : List Pattern) (qs : List Pt) : Prop where
  len : ps.length = qs.length
  run : ∀ pins s σ ρ m H vs us ds r (Q : Option (List (Str × Value)) → Shared → Prop), Inv X pins σ H s → Vals vs us → Rep X.K X.mg T ρ m H → RDs X.K T ρ H ds vs → pmAll qs ds = some r → (∀ s' o, Inv X pins σ H s' → BR X T ρ H r o → Q o s') →
    wpAny (model X.prog X.w) X.A (matchEach ps X.env us) Q X.xe s
structure IPo (ps : List Pattern) (qs : List Pt) : Prop where
  run : ∀ pins s σ ρ m H v u d r (Q : Option (List (Str × Value)) → Shared → Prop), Inv X pins σ H s → RelV v u → Rep X.K X.mg T ρ m H → RD X.K T ρ H d v → pmOr qs d = some r → (∀ s' o, Inv X pins σ H s' → ((r = none ∧ o = none) ∨ (r = some [] ∧ o = some [])) → Q o s') →
    wpAny (model X.prog X.w) X.A (matchFirst ps X.env u) Q X.xe s
end
section
variable {X : Cx} {T : Tb} {e : Expr} {pos pos' : Pos} {x : Str}
theorem BR.len {ρ : List Addr} {H : Hp} {bs : List (Nat × D)} {cs : List (Str × Value)} (h : BR X T ρ H (some bs) (some cs)) : bs.length = cs.length := Paired.length h
theorem ip_val {c : D} {f : Sl → M → R D} {v0 : V} (hn : T.wds.Nodup) (he : PE X e (tC v0)) (hr : ∀ ρ H, RD X.K T ρ H c v0) : IP X T (.MatchValue e pos) (.val c) := by
  refine ⟨fun pins s σ ρ m H v u d r Q I rv R rd hp hq => ?_⟩
  have hp' : ((eqS d c).map fun b => if b = true then some ([] : List (Nat × D)) else none) = some r := hp
  cases hb : eqS d c with
  | none => rw [hb] at hp'; cases hp'
  | some b =>
    rw [hb] at hp'
    have hp2 : (if b = true then some ([] : List (Nat × D)) else none) = r := Option.some.inj hp'
    obtain ⟨h1, h2⟩ := eqS_ok hn rd (hr ρ H) hb
    refine wpAny_matchPattern_Value (thn (he.run pins s σ H (fun w H1 => w = v0 ∧ H1 = H) I ⟨rfl, rfl⟩) fun y s1 ⟨w, H1, I1, rw, e1, e2⟩ => ?_)
    subst e1
    rw [e2] at I1
    refine thn (op_eq pins s1 σ H v w u y (fun z H2 => z = .bl b ∧ H2 = H) I1 rv rw ⟨h1, by rw [h2], rfl⟩) fun z s2 ⟨zv, H2, I2, rz, e3, e4⟩ => ?_
    subst e3
    cases rz
    rw [e4] at I2
    refine wpAny_truthy_bool ?_
    cases b with
    | true =>
      rw [if_pos rfl]
      rw [if_pos rfl] at hp2
      subst hp2
      exact hq s2 (some []) I2 .nil
    | false =>
      rw [if_neg Bool.false_ne_true]
      rw [if_neg Bool.false_ne_true] at hp2
      subst hp2
      exact hq s2 none I2 trivial
theorem ip_wd {j : Nat} (hn : T.wds.Nodup) (n : Nat) (h : T.wds[n]? = some x := by rfl) : IP X T (.MatchValue (.Constant (.str x) j pos') pos) (.val (.wd n)) := ip_val (f := fun _ _ => .bad) hn pe_str fun _ _ => ⟨x, h, rfl⟩
theorem ip_non : IP X T (.MatchSingleton .none pos) .non := by
  refine ⟨fun pins s σ ρ m H v u d r Q I rv R rd hp hq => ?_⟩
  have hp2 : (if isNon d = true then some ([] : List (Nat × D)) else none) = r := Option.some.inj hp
  have hi := isNon_ok rd
  show wpAny _ _ (pure _) _ _ _
  refine wpAny_pure ?_
  by_cases hd : isNon d = true
  · rw [if_pos hd] at hp2
    rw [hd] at hi
    have hv : v = .non := of_decide_eq_true hi
    subst hv
    cases rv
    subst hp2
    exact hq s (some []) I .nil
  · rw [if_neg hd] at hp2
    have hd' : isNon d = false := by simpa using hd
    rw [hd'] at hi
    have hv : v ≠ .non := of_decide_eq_false hi
    subst hp2
    cases v with
    | non => exact absurd rfl hv
    | bl _ => cases rv; exact hq s none I trivial
    | int _ => obtain ⟨t, rfl⟩ := rv; exact hq s none I trivial
    | str _ => obtain ⟨t, rfl⟩ := rv; exact hq s none I trivial
    | byt _ => obtain ⟨t, rfl⟩ := rv; exact hq s none I trivial
    | flt _ => obtain ⟨t, rfl⟩ := rv; exact hq s none I trivial
    | ref _ => cases rv; exact hq s none I trivial
    | ty _ => cases rv; exact hq s none I trivial
theorem ip_cap (i : Nat) (hi : X.N[i]? = some x := by rfl) (hx : Loc X.env.scope x := by first | exact Or.inl rfl | exact Or.inr rfl) (hf : X.fn x = true ∨ X.env.scope.names.lookup x = some .local := by first | exact .inl rfl | exact .inr rfl | assumption) : IP X T (.MatchAs none (some x) pos) (.cap i) := by
  refine ⟨fun pins s σ ρ m H v u d r Q I rv R rd hp hq => ?_⟩
  have hp2 : some [(i, d)] = r := Option.some.inj hp
  subst hp2
  exact wpAny_matchPattern_Capture (hq s _ I (.cons ⟨hi, hx, hf, v, rv, rd⟩ .nil))
theorem ip_wild : IP X T (.MatchAs none none pos) .wild := by
  refine ⟨fun pins s σ ρ m H v u d r Q I rv R rd hp hq => ?_⟩
  have hp2 : some [] = r := Option.some.inj hp
  subst hp2
  exact wpAny_matchPattern_Capture (hq s _ I .nil)
theorem ips_nil : IPs X T [] [] := ⟨rfl, fun pins s σ ρ m H vs us ds r Q I rv R rd hp hq => by
  cases ds with
  | cons _ _ => cases hp
  | nil =>
    have hp2 : some [] = r := Option.some.inj hp
    subst hp2
    exact wpAny_matchEach_nil (hq s (some []) I .nil)⟩
theorem Paired.append {α β : Type} {F : α → β → Prop} : ∀ {a : List α} {b : List β} {c : List α} {d : List β}, PySem.Paired F a b → PySem.Paired F c d → PySem.Paired F (a ++ c) (b ++ d)
  | _, _, _, _, .nil, h => h
  | _, _, _, _, .cons r t, h => .cons r (Paired.append t h)
theorem ips_cons {p : Pattern} {ps : List Pattern} {q : Pt} {qs : List Pt} (h1 : IP X T p q) (h2 : IPs X T ps qs) (hst : p.isStar = false := by rfl) : IPs X T (p :: ps) (q :: qs) := by
  refine ⟨by rw [List.length_cons, List.length_cons, h2.len], fun pins s σ ρ m H vs us ds r Q I rv R rd hp hq => ?_⟩
  cases ds with
  | nil => cases hp
  | cons d ds =>
    obtain ⟨v, w, rfl, rdv, rdw⟩ := rd
    cases rv with
    | cons r1 r2 =>
      rename_i u us'
      have hp' : (match pm q d with
        | none => none
        | some none => some none
        | some (some bs) => match pmAll qs ds with
          | none => none
          | some none => some none
          | some (some cs) => some (some (bs ++ cs))) = some r := by
        have := hp
        unfold pmAll at this
        exact this
      refine wpAny_matchEach_cons ?_ hst
      cases e1 : pm q d with
      | none => rw [e1] at hp'; cases hp'
      | some r1' =>
        rw [e1] at hp'
        refine h1.run pins s σ ρ m H v u d r1' _ I r1 R rdv e1 fun s1 o I1 b1 => ?_
        cases r1' with
        | none =>
          cases o with
          | some _ => exact False.elim b1
          | none =>
            have : r = none := (Option.some.inj hp').symm
            subst this
            exact hq s1 none I1 trivial
        | some bs =>
          cases o with
          | none => exact False.elim b1
          | some cs =>
            dsimp only at hp' ⊢
            cases e2 : pmAll qs ds with
            | none => rw [e2] at hp'; cases hp'
            | some r2' =>
              rw [e2] at hp'
              refine h2.run pins s1 σ ρ m H w us' ds r2' _ I1 r2 R rdw e2 fun s2 o2 I2 b2 => ?_
              cases r2' with
              | none =>
                cases o2 with
                | some _ => exact False.elim b2
                | none =>
                  have : r = none := (Option.some.inj hp').symm
                  subst this
                  exact hq s2 none I2 trivial
              | some bs2 =>
                cases o2 with
                | none => exact False.elim b2
                | some cs2 =>
                  have : r = some (bs ++ bs2) := (Option.some.inj hp').symm
                  subst this
                  exact hq s2 _ I2 (Paired.append b1 b2)
theorem ipo_nil : IPo X T [] [] := ⟨fun pins s σ ρ m H v u d r Q I rv R rd hp hq => by
  have : none = r := by
    unfold pmOr at hp
    exact Option.some.inj hp
  subst this
  exact wpAny_matchFirst_nil (hq s none I (.inl ⟨rfl, rfl⟩))⟩
theorem ipo_cons {p : Pattern} {ps : List Pattern} {q : Pt} {qs : List Pt} (h1 : IP X T p q) (h2 : IPo X T ps qs) : IPo X T (p :: ps) (q :: qs) := by
  refine ⟨fun pins s σ ρ m H v u d r Q I rv R rd hp hq => ?_⟩
  have hp' : (match pm q d with
    | none => none
    | some none => pmOr qs d
    | some (some []) => some (some [])
    | some (some (_ :: _)) => none) = some r := by
    have := hp
    unfold pmOr at this
    exact this
  refine wpAny_matchFirst_cons ?_
  cases e1 : pm q d with
  | none => rw [e1] at hp'; cases hp'
  | some r1' =>
    rw [e1] at hp'
    refine h1.run pins s σ ρ m H v u d r1' _ I rv R rd e1 fun s1 o I1 b1 => ?_
    cases r1' with
    | none =>
      cases o with
      | some _ => exact False.elim b1
      | none => exact h2.run pins s1 σ ρ m H v u d r Q I1 rv R rd hp' hq
    | some bs =>
      cases o with
      | none => exact False.elim b1
      | some cs =>
        cases bs with
        | cons _ _ => cases hp'
        | nil =>
          have hl := BR.len b1
          cases cs with
          | cons _ _ => cases hl
          | nil =>
            have : r = some [] := (Option.some.inj hp').symm
            subst this
            exact hq s1 (some []) I1 (.inr ⟨rfl, rfl⟩)
theorem ip_or {ps : List Pattern} {qs : List Pt} (h : IPo X T ps qs) : IP X T (.MatchOr ps pos) (.or qs) := by
  refine ⟨fun pins s σ ρ m H v u d r Q I rv R rd hp hq => ?_⟩
  refine wpAny_matchPattern_Or (h.run pins s σ ρ m H v u d r _ I rv R rd (by unfold pm at hp; exact hp) fun s1 o I1 b1 => ?_)
  rcases b1 with ⟨rfl, rfl⟩ | ⟨rfl, rfl⟩
  · exact hq s1 none I1 trivial
  · refine hq s1 _ I1 ?_
    have : ((namesOfAll (ps.take 1)).filterMap fun n => (([] : List (Str × Value)).lookup n).map (n, ·)) = [] := by
      rw [List.filterMap_eq_nil_iff]
      intro a _
      rfl
    rw [this]
    exact .nil
theorem ip_seq {ps : List Pattern} {qs : List Pt} (hc : X.calm = true) (h : IPs X T ps qs) (hstar : ps.findIdx? (·.isStar) = none := by rfl)
    (hwild : (ps.all fun p => p.isWildcard || (p.isStar && p.names.isEmpty)) = false := by rfl) : IP X T (.MatchSequence ps pos) (.seq qs) := by
  refine ⟨fun pins s σ ρ m H v u d r Q I rv R rd hp hq => ?_⟩
  have miss : ∀ {t : String}, s.TypeIs u t → flagOfType true (.type t) = pure false → some none = some r → wpAny (model X.prog X.w) X.A (matchPattern (.MatchSequence ps pos) X.env u) Q X.xe s := fun hT hf hr => by
    have : r = none := (Option.some.inj hr).symm
    subst this
    refine wpAny_matchPattern_Sequence (wpAny_collectionFlag hT hf ?_) hstar hwild
    rw [if_neg Bool.false_ne_true]
    exact hq s none I trivial
  cases d with
  | tup xs =>
    obtain ⟨a, vs, rfl, hs, rs⟩ := rd
    cases rv
    obtain ⟨its, rvs, ht, hz⟩ := I.tuple hs
    have hl := rvs.length
    have hlx := rs.len
    have hsz : sizeLine = 16777216 := sizeLine_eq
    have hfit : ((its.toArray.size : Nat) : Int) < 2 ^ 63 := by simp only [List.size_toArray]; omega
    have hp' : (if xs.length = qs.length then pmAll qs xs else some none) = some r := by unfold pm at hp; exact hp
    by_cases hn : xs.length = qs.length
    · rw [if_pos hn] at hp'
      refine matchSeq_tuple_hit ht hfit (by rw [List.size_toArray, h.len]; omega) ?_ hstar hwild
      have hps : ps.length = its.toArray.size := by rw [List.size_toArray, h.len]; omega
      rw [hps]
      have I2 : Inv X pins σ H { s with toks := s.toks + 1 + 1 } := I.tok _
      obtain ⟨its2, rvs2, ht2, _⟩ := I2.tuple hs
      have e : its2 = its := by
        have := ht2
        obtain ⟨o, h1, _, n, h3⟩ := ht
        obtain ⟨o2, h4, _, n2, h5⟩ := ht2
        have h4' : s.heap.get? a = some o2 := h4
        rw [h1] at h4'
        cases h4'
        rw [h3] at h5
        have := Data.seq.inj h5
        have h6 : its.toArray = its2.toArray := this.1
        have := congrArg Array.toList h6
        simpa using this.symm
      refine unpackItems_tuple (I.ok.hd hc) ht fun h' hx' => ?_
      have I3 := I2.kept (h' := h') (t' := s.toks + 1 + 1) fun b o e => hx' b o (Nat.ne_of_lt (Heap.lt_size e)) e
      exact h.run pins _ σ ρ m H vs _ xs r Q I3 (by simpa using rvs) R rs hp' hq
    · rw [if_neg hn] at hp'
      have : r = none := (Option.some.inj hp').symm
      subst this
      refine matchSeq_tuple_miss ht hfit (by rw [List.size_toArray, h.len]; omega) ?_ hstar hwild
      exact hq _ none (I.tok _) trivial
  | non => have e : v = .non := rd; subst e; cases rv; exact miss (t := "NoneType") rfl flag_seq_None (by unfold pm at hp; exact hp)
  | int i => have e : v = .int i := rd; subst e; obtain ⟨t, rfl⟩ := rv; exact miss (typeIs_int s i t) flag_seq_int (by unfold pm at hp; exact hp)
  | bl i => have e : v = .bl i := rd; subst e; cases rv; exact miss (t := "bool") rfl flag_seq_bool (by unfold pm at hp; exact hp)
  | wd i => obtain ⟨z, _, e⟩ := rd; subst e; obtain ⟨t, rfl⟩ := rv; exact miss (typeIs_str s z t) flag_seq_str (by unfold pm at hp; exact hp)
  | str i => have e : v = .str i := rd; subst e; obtain ⟨t, rfl⟩ := rv; exact miss (typeIs_str s i t) flag_seq_str (by unfold pm at hp; exact hp)
  | ty i => unfold pm at hp; cases hp
  | obj i => unfold pm at hp; cases hp
  | frl i => unfold pm at hp; cases hp
/-- what is bound comes into the slots -/
def setAll : List (Nat × D) → Sl → Sl
  | [], τ => τ
  | (i, d) :: r, τ => setAll r (τ.set i (some d))
def casesS : List (Pt × (Sl → M → S)) → D → Sl → M → S
  | [], _, τ, m => .nx τ m
  | (p, b) :: r, d, τ, m => match pm p d with
    | none => .bad
    | some none => casesS r d τ m
    | some (some bs) => b (setAll bs τ) m
def sMatch (f : Sl → M → R D) (cs : List (Pt × (Sl → M → S))) : Sl → M → S := fun τ m => bS (f τ m) τ fun d m1 => casesS cs d τ m1
structure ICs (X : Cx) (T : Tb) (cs : List MatchCase) (gs : List (Pt × (Sl → M → S))) : Prop where
  run : ∀ W, Takes X W → ∀ pins s σ ρ m H v u d first τ E, Inv X pins σ H s → RelV v u → Rep X.K X.mg T ρ m H → RD X.K T ρ H d v → RSl X.K T ρ H τ σ → PSr X.K X.mg T W ρ H (casesS gs d τ m) E →
    wpAny (model X.prog X.w) X.A (matchCases cs X.env u first) (SP X pins E) X.xe s
theorem ics_nil : ICs X T [] [] := ⟨fun W tk pins s σ ρ m H v u d first τ E I rv R rd l q => wpAny_matchCases_nil ⟨σ, H, I, q ρ σ H .refl R l⟩⟩
theorem bind_all (hN : X.N.Nodup) {ρ : List Addr} {H : Hp} {Q : Unit → Shared → Prop} {pins : List (Addr × Obj)} : ∀ {bs : List (Nat × D)} {cs : List (Str × Value)} {σ : L2.St} {s : Shared} {τ : Sl}, BR X T ρ H (some bs) (some cs) → Inv X pins σ H s → RSl X.K T ρ H τ σ →
    (∀ s' σ', Inv X pins σ' H s' → RSl X.K T ρ H (setAll bs τ) σ' → Q () s') → wpAny (model X.prog X.w) X.A (assignInOrder (cs.map fun (n, _) => bindName X.env n) (cs.map (·.2))) Q X.xe s := by
  intro bs cs σ s τ h
  have h' : Paired (fun (b : Nat × D) (c : Str × Value) => X.N[b.1]? = some c.1 ∧ Loc X.env.scope c.1 ∧ (X.fn c.1 = true ∨ X.env.scope.names.lookup c.1 = some .local) ∧ ∃ v, RelV v c.2 ∧ RD X.K T ρ H b.2 v) bs cs := h
  clear h
  induction h' generalizing σ s τ with
  | nil => intro I l hq; exact wpAny_assignInOrder_none (hq s σ I l)
  | @cons b c l₁ l₂ r t ih =>
    intro I l hq
    obtain ⟨h1, h2, h3, v, h4, h5⟩ := r
    obtain ⟨i, d⟩ := b
    obtain ⟨n, u⟩ := c
    refine wpAny_assignInOrder_more (wpAny_bindName (store_ok I hN h1 h2 h4 (fun s' I' => ?_) h3))
    exact ih I' (l.set i h5) hq
theorem ics_cons {p : Pattern} {body : List Stmt} {cs : List MatchCase} {q : Pt} {b : Sl → M → S} {gs : List (Pt × (Sl → M → S))} (hN : X.N.Nodup) (hp : IP X T p q) (hb : ISs X T body b) (hr : ICs X T cs gs) : ICs X T (⟨p, none, body⟩ :: cs) ((q, b) :: gs) := by
  refine ⟨fun W tk pins s σ ρ m H v u d first τ E I rv R rd l h => ?_⟩
  refine wpAny_matchCases_cons ?_
  unfold casesS at h
  cases e : pm q d with
  | none => rw [e] at h; exact False.elim h
  | some r =>
    rw [e] at h
    refine hp.run pins s σ ρ m H v u d r _ I rv R rd e fun s1 o I1 b1 => ?_
    cases r with
    | none =>
      cases o with
      | some _ => exact False.elim b1
      | none => exact hr.run W tk pins s1 σ ρ m H v u d false τ E I1 rv R rd l h
    | some bs =>
      cases o with
      | none => exact False.elim b1
      | some cs' =>
        exact bind_all hN b1 I1 l fun s2 σ2 I2 l2 => (hb.run W tk).run pins s2 σ2 H E I2 ⟨ρ, _, m, R, l2, h⟩
theorem is_match {f : Sl → M → R D} {cs : List MatchCase} {gs : List (Pt × (Sl → M → S))} (he : IE X T e f) (hc : ICs X T cs gs) : IS X T (.Match e cs pos) (sMatch f gs) := by
  refine ⟨fun W tk => ⟨fun pins s σ H E I ⟨ρ, τ, m, R, l, q⟩ => ?_⟩⟩
  refine wpAny_Match (thn ((he.run W tk).run pins s σ H (fun v H1 => ∃ ρ1 m1 d, Ext X.K ρ H ρ1 H1 ∧ Rep X.K X.mg T ρ1 m1 H1 ∧ RD X.K T ρ1 H1 d v ∧ PSr X.K X.mg T W ρ1 H1 (casesS gs d τ m1) E) I ⟨ρ, τ, m, R, l, (q.bindE l).imp fun d ρ1 m1 H1 e1 R1 q1 v rv => ⟨ρ1, m1, d, e1, R1, rv, q1⟩⟩) fun u s1 ⟨v, H1, I1, rv, ρ1, m1, d, e1, R1, rd, q1⟩ => ?_)
  exact hc.run W tk pins s1 σ ρ1 m1 H1 v u d true τ E I1 rv R1 rd (l.ext e1) q1
end
end Sh

set_option Elab.async false
set_option linter.all false
set_option autoImplicit false
set_option maxRecDepth 100000
set_option maxHeartbeats 2000000
namespace Sh
open PySem PySem.Spec PyProof.Rows L2

/-! ### methods of lists -/
section
variable {X : Cx} {T : Tb} {e o a b : Expr} {es : List Expr} {pos p apos cpos p2 : Pos} {x : Str}
def lstAt (m : M) (d : D) : Option (Nat × List D) := match d with
  | .obj k => match m[k]? with
    | some (.lst xs) => some (k, xs)
    | _ => none
  | _ => none
theorem lstAt_ok {K : PySem.W.Frag} {mg : Str → Option Value} {ρ : List Addr} {H : Hp} {m : M} {d : D} {v : V} {k : Nat} {xs : List D} (R : Rep K mg T ρ m H) (r : RD K T ρ H d v) (h : lstAt m d = some (k, xs)) : ∃ a vs, d = .obj k ∧ m[k]? = some (.lst xs) ∧ ρ[k]? = some a ∧ v = .ref a ∧ H a = some (.lst vs) ∧ RDs K T ρ H xs vs := by
  cases d with
  | obj i =>
    have h' : (match m[i]? with | some (.lst xs) => some (i, xs) | _ => none) = some (k, xs) := h
    cases e : m[i]? with
    | none => rw [e] at h'; cases h'
    | some w =>
      rw [e] at h'
      cases w with
      | ins c fs => cases h'
      | dct kds => cases h'
      | lst ys =>
        cases h'
        obtain ⟨a, ha, rfl⟩ := r
        obtain ⟨vs, h1, h2⟩ := R.at_ k _ a e ha
        exact ⟨a, vs, rfl, e, ha, rfl, h1, h2⟩
  | _ => cases h
def eApp (fo fa : Sl → M → R D) : Sl → M → R D := fun τ m => (fo τ m).bind fun d m1 => match lstAt m1 d with
  | some _ => (fa τ m1).bind fun y m2 => match lstAt m2 d with
    | some (k, xs) => if xs.length < 16777216 then .ok .non (m2.set k (.lst (xs ++ [y]))) else .bad
    | none => .bad
  | none => .bad
theorem ie_app {fo fa : Sl → M → R D} (ho : IE X T o fo) (ha : IE X T a fa)
    (hbase : attributeBase o "append" X.env (eval o X.env) = eval o X.env := by rfl)
    (hfew : ((backTo cpos (starEach [a] X.env)).all (fun x => !x.1) && (backToKw cpos (keywordEach [] X.env)).all (fun x => x.1.isSome)
      && decide ([a].length + ([] : List Keyword).length + (if ([] : List Keyword).isEmpty then 0 else 1) < 30)) = true := by rfl)
    (hline : (apos.endLine == cpos.line) = true := by rfl) (hs : starEach [a] X.env = (false, eval a X.env) :: starEach [] X.env := by rfl) (hplain : (backTo cpos (starEach [] X.env)).any (·.1) = false := by rfl) :
    IE X T (.Call (.Attribute o "append" apos) [a] [] cpos) (eApp fo fa) :=
  ⟨fun W tk => pe_imp (pe_bm PySem.F.plainAttrs_list PySem.F.slot_list_append PySem.F.type_list_append mt_append (ho.run W tk) (pa_cons (ha.run W tk) pa_nil hs) hbase hfew hline hs hplain) fun σ H Q ⟨ρ, τ, m, R, l, q⟩ => ⟨ρ, τ, m, R, l, q.bind.imp fun d ρ1 m1 H1 e1 R1 q1 v rv => by
    cases h1 : lstAt m1 d with
    | none => rw [h1] at q1; exact False.elim q1
    | some pr =>
      rw [h1] at q1
      obtain ⟨k0, xs0⟩ := pr
      obtain ⟨a0, vs0, _, _, _, rfl, h0, _⟩ := lstAt_ok R1 rv h1
      refine ⟨.inl ⟨rfl, vs0, .inl (.inl h0)⟩, ρ1, τ, m1, R1, l.ext e1, q1.bind.imp fun y ρ2 m2 H2 e2 R2 q2 w rw => ?_⟩
      cases h2 : lstAt m2 d with
      | none => rw [h2] at q2; exact False.elim q2
      | some pr =>
        rw [h2] at q2
        obtain ⟨k, xs⟩ := pr
        dsimp only at q2
        obtain ⟨a1, vs, hd, _, ha1, hv, hH, hr⟩ := lstAt_ok R2 (RD.ext e2 _ _ rv) h2
        cases hv
        by_cases hl : xs.length < 16777216
        · rw [if_pos hl] at q2
          have ex : Ext X.K ρ2 H2 ρ2 (upd H2 a0 (.lst (vs ++ [w]))) := Ext.write R2 (List.mem_of_getElem? ha1)
          refine ⟨a0, vs, w, rfl, rfl, hH, by rw [hr.len, sizeLine_eq]; exact hl, q2 ρ2 _ ex (R2.write ha1 ⟨_, upd_same, (RDs.ext ex _ _ hr).app (RDs.one (RD.ext ex _ _ rw))⟩) .non rfl⟩
        · rw [if_neg hl] at q2
          exact False.elim q2⟩⟩
def eClear (fo : Sl → M → R D) : Sl → M → R D := fun τ m => (fo τ m).bind fun d m1 => match lstAt m1 d with
  | some (k, _) => .ok .non (m1.set k (.lst []))
  | none => .bad
theorem ie_clear {fo : Sl → M → R D} (ho : IE X T o fo) (hbase : attributeBase o "clear" X.env (eval o X.env) = eval o X.env := by rfl) (hline : (apos.endLine == cpos.line) = true := by rfl) :
    IE X T (.Call (.Attribute o "clear" apos) [] [] cpos) (eClear fo) :=
  ⟨fun W tk => pe_imp (pe_bm0 PySem.F.plainAttrs_list PySem.F.slot_list_clear PySem.F.type_list_clear mt_clear (ho.run W tk) hbase hline) fun σ H Q ⟨ρ, τ, m, R, l, q⟩ => ⟨ρ, τ, m, R, l, q.bind.imp fun d ρ1 m1 H1 e1 R1 q1 v rv => by
    cases h1 : lstAt m1 d with
    | none => rw [h1] at q1; exact False.elim q1
    | some pr =>
      rw [h1] at q1
      obtain ⟨k, xs⟩ := pr
      obtain ⟨a, vs, _, _, ha, rfl, hH, _⟩ := lstAt_ok R1 rv h1
      have ex : Ext X.K ρ1 H1 ρ1 (upd H1 a (.lst [])) := Ext.write R1 (List.mem_of_getElem? ha)
      exact ⟨.inl ⟨rfl, vs, .inl (.inl hH)⟩, a, vs, rfl, rfl, hH, q1 ρ1 _ ex (R1.write ha ⟨[], upd_same, rfl⟩) .non rfl⟩⟩⟩
/-! ### new lists -/
/-- list(e) -/
def lOf (f : Sl → M → R D) : Sl → M → R (List D) := fun τ m => (f τ m).bind fun d m1 => R.of (itemsOf m1 d) m1
theorem il_list {f : Sl → M → R D} (hm : X.mg "list" = none) (ha : IE X T a f) (hg : Gl X "list" := by rfl)
    (he : starEach [a] X.env = (false, eval a X.env) :: starEach [] X.env := by rfl) (hpl : (backTo pos (starEach [] X.env)).any (·.1) = false := by rfl) : IL X T (.Call (.Name "list" p) [a] [] pos) (lOf f) :=
  ⟨fun W tk => pe_imp (pe_callTy call_list_of hg hm (by decide +kernel) (pa_cons (ha.run W tk) pa_nil he) (by decide) (by decide) he hpl) fun σ H Q ⟨ρ, τ, m, R, l, q⟩ => ⟨ρ, τ, m, R, l, q.bind.imp fun d ρ1 m1 H1 e1 R1 q1 v rv => by
    obtain ⟨xs, hx, q2⟩ : ∃ xs, itemsOf m1 d = some xs ∧ PR X.K X.mg T W σ ρ1 H1 (.ok xs m1) _ := by
      cases hx : itemsOf m1 d with
      | none => rw [hx] at q1; exact False.elim q1
      | some xs => rw [hx] at q1; exact ⟨xs, rfl, q1⟩
    obtain ⟨a0, vs, rfl, hs, hr⟩ := items_ok R1 rv hx
    refine ⟨a0, vs, rfl, hs, fun l0 hl0 => ?_⟩
    have ex : Ext X.K ρ1 H1 ρ1 (upd H1 l0 (.lst vs)) := Ext.new hl0
    exact q2 ρ1 _ ex (R1.new hl0) l0 vs (new_none e1 hl0) upd_same (R1.notin hl0) (RDs.ext ex _ _ hr)⟩⟩
/-- xs + ys of new lists -/
def lCat (f g : Sl → M → R (List D)) : Sl → M → R (List D) := fun τ m => (f τ m).bind fun xs m1 => (g τ m1).bind fun ys m2 => if xs.length + ys.length ≤ 16777216 then .ok (xs ++ ys) m2 else .bad
theorem il_cat {f g : Sl → M → R (List D)} (ha : IL X T a f) (hb : IL X T b g) : IL X T (.BinOp a .Add b pos) (lCat f g) :=
  ⟨fun W tk => pe_imp (pe_op op_cat (ha.run W tk) (hb.run W tk)) fun σ H Q ⟨ρ, τ, m, R, l, q⟩ => ⟨ρ, τ, m, R, l, q.bind.imp fun xs ρ1 m1 H1 e1 R1 q1 p1 vs hp0 hp hn rvs =>
    ⟨ρ1, τ, m1, R1, l.ext e1, q1.bind.imp fun ys ρ2 m2 H2 e2 R2 q2 p2 ws hp02 hp2 hn2 rws => by
      by_cases hl : xs.length + ys.length ≤ 16777216
      · rw [if_pos hl] at q2
        refine ⟨p1, p2, vs, ws, rfl, rfl, e2.frm _ _ hp hn noTab_lst.1, hp2, by rw [rvs.len, rws.len, sizeLine_eq]; exact hl, fun p3 hp3 => ?_⟩
        have ex : Ext X.K ρ2 H2 ρ2 (upd H2 p3 (.lst (vs ++ ws))) := Ext.new hp3
        exact q2 ρ2 _ ex (R2.new hp3) p3 _ (new_none (e1.trans e2) hp3) upd_same (R2.notin hp3) (RDs.ext ex _ _ ((RDs.ext e2 _ _ rvs).app rws))
      · rw [if_neg hl] at q2
        exact False.elim q2⟩⟩⟩
/-- xs * n of a new list -/
def lRep (f : Sl → M → R (List D)) (g : Sl → M → R D) : Sl → M → R (List D) := fun τ m => (f τ m).bind fun xs m1 => (g τ m1).bind fun y m2 => match y with
  | .int k => if decide (-(2 ^ 63) ≤ k ∧ k < 2 ^ 63 ∧ xs.length * k.toNat ≤ 16777216) = true then .ok (List.replicate k.toNat xs).flatten m2 else .bad
  | _ => .bad
theorem RDs.rep {K : PySem.W.Frag} {ρ : List Addr} {H : Hp} {xs : List D} {vs : List V} (h : RDs K T ρ H xs vs) : ∀ k : Nat, RDs K T ρ H (List.replicate k xs).flatten (List.replicate k vs).flatten
  | 0 => rfl
  | k + 1 => by
    rw [List.replicate_succ, List.replicate_succ, List.flatten_cons, List.flatten_cons]
    exact h.app (RDs.rep h k)
theorem il_rep {f : Sl → M → R (List D)} {g : Sl → M → R D} (ha : IL X T a f) (hb : IE X T b g) : IL X T (.BinOp a .Mult b pos) (lRep f g) :=
  ⟨fun W tk => pe_imp (pe_op op_rep (ha.run W tk) (hb.run W tk)) fun σ H Q ⟨ρ, τ, m, R, l, q⟩ => ⟨ρ, τ, m, R, l, q.bind.imp fun xs ρ1 m1 H1 e1 R1 q1 p1 vs hp0 hp hn rvs =>
    ⟨ρ1, τ, m1, R1, l.ext e1, q1.bind.imp fun y ρ2 m2 H2 e2 R2 q2 u ru => by
      cases y with
      | int k =>
        have ru' : u = .int k := ru
        subst ru'
        by_cases hl : decide (-(2 ^ 63) ≤ k ∧ k < 2 ^ 63 ∧ xs.length * k.toNat ≤ 16777216) = true
        · have q3 : PR X.K X.mg T W σ ρ2 H2 (if decide (-(2 ^ 63) ≤ k ∧ k < 2 ^ 63 ∧ xs.length * k.toNat ≤ 16777216) = true then .ok (List.replicate k.toNat xs).flatten m2 else .bad) _ := q2
          rw [if_pos hl] at q3
          obtain ⟨h1, h2, h3⟩ := of_decide_eq_true hl
          refine ⟨p1, k, vs, rfl, rfl, e2.frm _ _ hp hn noTab_lst.1, h1, h2, by rw [rvs.len, sizeLine_eq]; exact h3, fun p3 hp3 => ?_⟩
          have ex : Ext X.K ρ2 H2 ρ2 (upd H2 p3 (.lst (List.replicate k.toNat vs).flatten)) := Ext.new hp3
          exact q3 ρ2 _ ex (R2.new hp3) p3 _ (new_none (e1.trans e2) hp3) upd_same (R2.notin hp3) (RDs.ext ex _ _ ((RDs.ext e2 _ _ rvs).rep k.toNat))
        · have q3 : PR X.K X.mg T W σ ρ2 H2 (if decide (-(2 ^ 63) ≤ k ∧ k < 2 ^ 63 ∧ xs.length * k.toNat ≤ 16777216) = true then .ok (List.replicate k.toNat xs).flatten m2 else .bad) _ := q2
          rw [if_neg hl] at q3
          exact False.elim q3
      | _ => exact False.elim q2⟩⟩⟩
/-- slices -/
def oNo : Sl → M → R (Option Int) := fun _ m => .ok none m
def oAt (f : Sl → M → R D) : Sl → M → R (Option Int) := fun τ m => (f τ m).bind fun d m1 => match d with
  | .int i => .ok (some i) m1
  | _ => .bad
def rdO (K : PySem.W.Frag) (mg : Str → Option Value) (T : Tb) (W : WX) (f : Sl → M → R (Option Int)) : TO := fun σ H Q => ∃ ρ τ m, Rep K mg T ρ m H ∧ RSl K T ρ H τ σ ∧ PR K mg T W σ ρ H (f τ m) fun o _ _ H' => Q o H'
structure IO (X : Cx) (T : Tb) (e : Option Expr) (f : Sl → M → R (Option Int)) : Prop where
  run : ∀ W, Takes X W → PO X e (rdO X.K X.mg T W f)
theorem po_imp {e : Option Expr} {t t' : TO} (h : PO X e t) (i : ∀ σ H Q, t' σ H Q → t σ H Q) : PO X e t' := ⟨fun pins s σ H Q I q => h.run pins s σ H Q I (i σ H Q q)⟩
theorem io_none : IO X T none oNo := ⟨fun W tk => po_imp po_none fun σ H Q ⟨ρ, τ, m, R, l, q⟩ => PR.ok R q⟩
theorem io_some {f : Sl → M → R D} (h : IE X T e f) : IO X T (some e) (oAt f) := ⟨fun W tk => po_imp (po_some (h.run W tk)) fun σ H Q ⟨ρ, τ, m, R, l, q⟩ => ⟨ρ, τ, m, R, l, q.bind.imp fun d ρ1 m1 H1 e1 R1 q1 v rv => by
  cases d with
  | int i => exact ⟨i, rv, PR.ok R1 q1⟩
  | _ => exact False.elim q1⟩⟩
def cutD (xs : List D) (lo hi : Option Int) : List D := (xs.drop (HT.sIx xs.length 0 lo)).take (HT.sIx xs.length xs.length hi - HT.sIx xs.length 0 lo)
theorem RDs.cut {K : PySem.W.Frag} {ρ : List Addr} {H : Hp} {xs : List D} {vs : List V} (h : RDs K T ρ H xs vs) (lo hi : Option Int) : RDs K T ρ H (cutD xs lo hi) (cutV vs lo hi) := by
  unfold cutD cutV
  rw [h.len]
  exact (h.drop _).take _
/-- xs[lo:hi] of a list of the store -/
def lCut (f : Sl → M → R D) (fl fh : Sl → M → R (Option Int)) : Sl → M → R (List D) := fun τ m => (f τ m).bind fun d m1 => (fl τ m1).bind fun lo m2 => (fh τ m2).bind fun hi m3 => match lstAt m3 d with
  | some (_, xs) => .ok (cutD xs lo hi) m3
  | none => .bad
theorem il_cut {f : Sl → M → R D} {fl fh : Sl → M → R (Option Int)} {lo hi : Option Expr} (ha : IE X T a f) (hl : IO X T lo fl) (hh : IO X T hi fh) : IL X T (.Subscript a (.Slice lo hi none p2) pos) (lCut f fl fh) :=
  ⟨fun W tk => pe_imp (pe_slice sl_list (ha.run W tk) (hl.run W tk) (hh.run W tk)) fun σ H Q ⟨ρ, τ, m, R, l, q⟩ => ⟨ρ, τ, m, R, l, q.bind.imp fun d ρ1 m1 H1 e1 R1 q1 v rv =>
    ⟨ρ1, τ, m1, R1, l.ext e1, q1.bind.imp fun lo ρ2 m2 H2 e2 R2 q2 => ⟨ρ2, τ, m2, R2, (l.ext e1).ext e2, q2.bind.imp fun hi ρ3 m3 H3 e3 R3 q3 => by
      cases h1 : lstAt m3 d with
      | none => rw [h1] at q3; exact False.elim q3
      | some pr =>
        rw [h1] at q3
        obtain ⟨k, xs⟩ := pr
        obtain ⟨a0, vs, _, _, _, rfl, hH, hr⟩ := lstAt_ok R3 (RD.ext e3 _ _ (RD.ext e2 _ _ rv)) h1
        refine ⟨a0, vs, rfl, .inl (.inl hH), fun p3 hp3 => ?_⟩
        have ex : Ext X.K ρ3 H3 ρ3 (upd H3 p3 (.lst (cutV vs lo hi))) := Ext.new hp3
        exact q3 ρ3 _ ex (R3.new hp3) p3 _ (new_none ((e1.trans e2).trans e3) hp3) upd_same (R3.notin hp3) (RDs.ext ex _ _ (hr.cut lo hi))⟩⟩⟩⟩
/-- tuple(e) of a new list -/
def eTupL (f : Sl → M → R (List D)) : Sl → M → R D := fun τ m => (f τ m).bind fun xs m1 => .ok (.tup xs) m1
theorem ie_tupL {f : Sl → M → R (List D)} (hm : X.mg "tuple" = none) (ha : IL X T a f) (hg : Gl X "tuple" := by rfl)
    (he : starEach [a] X.env = (false, eval a X.env) :: starEach [] X.env := by rfl) (hpl : (backTo pos (starEach [] X.env)).any (·.1) = false := by rfl) : IE X T (.Call (.Name "tuple" p) [a] [] pos) (eTupL f) :=
  ⟨fun W tk => pe_imp (pe_callTy call_tuple_of hg hm (by decide +kernel) (pa_cons (ha.run W tk) pa_nil he) (by decide) (by decide) he hpl) fun σ H Q ⟨ρ, τ, m, R, l, q⟩ => ⟨ρ, τ, m, R, l, q.bind.imp fun xs ρ1 m1 H1 e1 R1 q1 p1 vs hp0 hp hn rvs => by
    refine ⟨p1, vs, rfl, .inl ⟨.inl (.inl hp), fun l0 hl0 => ?_⟩⟩
    have ex : Ext X.K ρ1 H1 ρ1 (upd H1 l0 (.tup vs)) := Ext.new hl0
    exact q1 ρ1 _ ex (R1.new hl0) (.ref l0) ⟨l0, vs, rfl, .inl (.inl upd_same), RDs.ext ex _ _ rvs⟩⟩⟩
/-- e == [] of a new list of ints -/
def isIntD : D → Bool
  | .int _ => true
  | _ => false
def eNil (f : Sl → M → R (List D)) : Sl → M → R D := fun τ m => (f τ m).bind fun xs m1 => if xs.all isIntD = true then .ok (.bl xs.isEmpty) m1 else .bad
theorem dpInts {K : PySem.W.Frag} {ρ : List Addr} {H : Hp} : ∀ {xs : List D} {vs : List V}, RDs K T ρ H xs vs → xs.all isIntD = true → ∃ ns : List Int, DpAll K H vs (ns.map PyData.int) ∧ ns.length = xs.length
  | [], vs, h, _ => by
    have h' : vs = [] := h
    subst h'
    exact ⟨[], .nil, rfl⟩
  | d :: xs, vs, h, hi => by
    obtain ⟨v, w, rfl, rv, rw⟩ := h
    rw [List.all_cons, Bool.and_eq_true] at hi
    obtain ⟨ns, h1, h2⟩ := dpInts rw hi.2
    cases d with
    | int i =>
      have rv' : v = .int i := rv
      subst rv'
      exact ⟨i :: ns, .cons (.int i) h1, by rw [List.length_cons, List.length_cons, h2]⟩
    | _ => exact absurd hi.1 Bool.false_ne_true
theorem canInts : ∀ ns : List Int, PyData.canLayAll0 (ns.map PyData.int) = true
  | [] => by simp [PyData.canLayAll0]
  | n :: ns => by simp [PyData.canLayAll0, PyData.canLay0, canInts ns]
theorem depthInts : ∀ ns : List Int, PyData.depthAll (ns.map PyData.int) = 0
  | [] => by simp [PyData.depthAll]
  | n :: ns => by simp [PyData.depthAll, PyData.depth, depthInts ns]
theorem shapedInts (ns : List Int) : SeqAt.shaped (.list (ns.map PyData.int)) = true := by
  simp [SeqAt.shaped, PyData.canLay0, PyData.depth, canInts, depthInts]
theorem ie_nil {f : Sl → M → R (List D)} (hu : X.A.units + 64 < cLine) (ha : IL X T a f) : IE X T (.Compare a [.Eq] [.List [] p2] pos) (eNil f) :=
  ⟨fun W tk => pe_imp (pe_cmpR (op_eqD hu) (ha.run W tk) (pe_lst pa_nil) (nomark _)) fun σ H Q ⟨ρ, τ, m, R, l, q⟩ => ⟨ρ, τ, m, R, l, q.bind.imp fun xs ρ1 m1 H1 e1 R1 q1 p1 vs hp0 hp hn rvs => by
    refine ⟨Nat.zero_le _, fun p3 hp3 => ?_⟩
    by_cases hi : xs.all isIntD = true
    · rw [if_pos hi] at q1
      have ex : Ext X.K ρ1 H1 ρ1 (upd H1 p3 (.lst [])) := Ext.new hp3
      obtain ⟨ns, h1, h2⟩ := dpInts (RDs.ext ex _ _ rvs) hi
      refine ⟨.list (ns.map PyData.int), .list [], .lst (.inl (.inl (ex.frm _ _ hp hn noTab_lst.1))) h1, .lst (.inl (.inl upd_same)) .nil, shapedInts ns, shapedInts [], q1 ρ1 _ ex (R1.new hp3) _ ?_⟩
      have : PyData.eqv (.list (ns.map PyData.int)) (.list []) = xs.isEmpty := by
        cases ns with
        | nil =>
          have : xs = [] := List.eq_nil_of_length_eq_zero h2.symm
          subst this
          simp [PyData.eqv, PyData.eqvAll]
        | cons n ns =>
          cases xs with
          | nil => cases h2
          | cons _ _ => simp [PyData.eqv, PyData.eqvAll]
      rw [this]
      rfl
    · rw [if_neg hi] at q1
      exact False.elim q1⟩⟩
end

/-! ### == of data -/
section
variable (ws : List Str) (res : Nat → Option PyData)
mutual
def datR : D → Option PyData
  | .non => some .none
  | .bl b => some (.bool b)
  | .int i => some (.int i)
  | .wd n => (ws[n]?).map .str
  | .str x => some (.str x)
  | .ty _ => none
  | .obj k => res k
  | .tup xs => (datAll xs).map .tuple
  | .frl xs => (datAll xs).map .list
def datAll : List D → Option (List PyData)
  | [] => some []
  | x :: xs => match datR x with
    | none => none
    | some p => (datAll xs).map (p :: ·)
end
end
def resM (ws : List Str) (m : M) : Nat → Nat → Option PyData
  | 0, _ => none
  | n + 1, k => match m[k]? with
    | some (.lst xs) => (datAll ws (resM ws m n) xs).map .list
    | _ => none
section
variable {K : PySem.W.Frag} {mg : Str → Option Value} {T : Tb} {ρ : List Addr} {H : Hp} {m : M}
mutual
theorem datR_ok {res : Nat → Option PyData} (hres : ∀ k a p, ρ[k]? = some a → res k = some p → Dp K H (.ref a) p) : ∀ (d : D) (v : V) (p : PyData), RD K T ρ H d v → datR T.wds res d = some p → Dp K H v p
  | .non, v, p, r, h => by
    have r' : v = .non := r
    unfold datR at h
    subst r'; cases h; exact .non
  | .bl b, v, p, r, h => by
    have r' : v = .bl b := r
    unfold datR at h
    subst r'; cases h; exact .bl b
  | .int b, v, p, r, h => by
    have r' : v = .int b := r
    unfold datR at h
    subst r'; cases h; exact .int b
  | .str b, v, p, r, h => by
    have r' : v = .str b := r
    unfold datR at h
    subst r'; cases h; exact .str b
  | .wd b, v, p, r, h => by
    obtain ⟨x, hx, rfl⟩ := r
    unfold datR at h
    rw [hx] at h
    cases h; exact .str x
  | .ty b, v, p, r, h => by unfold datR at h; cases h
  | .obj k, v, p, r, h => by
    obtain ⟨a, ha, rfl⟩ := r
    unfold datR at h
    exact hres k a p ha h
  | .tup xs, v, p, r, h => by
    obtain ⟨a, vs, rfl, hs, hr⟩ := r
    unfold datR at h
    cases e : datAll T.wds res xs with
    | none => rw [e] at h; cases h
    | some ps => rw [e] at h; cases h; exact .tup hs (datAll_ok hres xs vs ps hr e)
  | .frl xs, v, p, r, h => by
    obtain ⟨a, vs, rfl, hs, hr⟩ := r
    unfold datR at h
    cases e : datAll T.wds res xs with
    | none => rw [e] at h; cases h
    | some ps => rw [e] at h; cases h; exact .lst hs.sq (datAll_ok hres xs vs ps hr e)
theorem datAll_ok {res : Nat → Option PyData} (hres : ∀ k a p, ρ[k]? = some a → res k = some p → Dp K H (.ref a) p) : ∀ (xs : List D) (vs : List V) (ps : List PyData), RDs K T ρ H xs vs → datAll T.wds res xs = some ps → DpAll K H vs ps
  | [], vs, ps, r, h => by
    have r' : vs = [] := r
    unfold datAll at h
    subst r'; cases h; exact .nil
  | x :: xs, vs, ps, r, h => by
    obtain ⟨v, w, rfl, rv, rw⟩ := r
    unfold datAll at h
    cases e : datR T.wds res x with
    | none => rw [e] at h; cases h
    | some p =>
      rw [e] at h
      dsimp only at h
      cases e2 : datAll T.wds res xs with
      | none => rw [e2] at h; cases h
      | some qs => rw [e2] at h; cases h; exact .cons (datR_ok hres x v p rv e) (datAll_ok hres xs w qs rw e2)
end
theorem resM_ok (R : Rep K mg T ρ m H) : ∀ (n k : Nat) (a : Addr) (p : PyData), ρ[k]? = some a → resM T.wds m n k = some p → Dp K H (.ref a) p
  | 0, k, a, p, _, h => by cases h
  | n + 1, k, a, p, ha, h => by
    unfold resM at h
    cases e : m[k]? with
    | none => rw [e] at h; cases h
    | some o =>
      rw [e] at h
      cases o with
      | ins c fs => cases h
      | dct kds => cases h
      | lst xs =>
        dsimp only at h
        cases e2 : datAll T.wds (resM T.wds m n) xs with
        | none => rw [e2] at h; cases h
        | some ps =>
          rw [e2] at h; cases h
          obtain ⟨vs, h1, h2⟩ := R.at_ k _ a e ha
          exact .lst (.inl (.inl h1)) (datAll_ok (resM_ok R n) xs vs ps h2 e2)
end
/-- the data that a value is, objects within objects up to three -/
def dat (ws : List Str) (m : M) (d : D) : Option PyData := datR ws (resM ws m 3) d
def gEqD (ws : List Str) : M → D → D → Option D := fun m x y => match dat ws m x, dat ws m y with
  | some p, some q => if (SeqAt.shaped p && SeqAt.shaped q) = true then some (.bl (PyData.eqv p q)) else none
  | _, _ => none
def gNeD (ws : List Str) : M → D → D → Option D := fun m x y => match dat ws m x, dat ws m y with
  | some p, some q => if (SeqAt.shaped p && SeqAt.shaped q) = true then some (.bl (!PyData.eqv p q)) else none
  | _, _ => none
section
variable {X : Cx} {T : Tb}
theorem o_eqD (hu : X.A.units + 64 < cLine) : OpS X T (compareOp .Eq) (gEqD T.wds) := ⟨_, op_eqD hu, fun ρ m H x y d v u Q R rx ry hd q => by
  unfold gEqD at hd
  cases e1 : dat T.wds m x with
  | none => rw [e1] at hd; cases hd
  | some a =>
    cases e2 : dat T.wds m y with
    | none => rw [e1, e2] at hd; cases hd
    | some b =>
      rw [e1, e2] at hd
      dsimp only at hd
      by_cases h : (SeqAt.shaped a && SeqAt.shaped b) = true
      · rw [if_pos h] at hd
        cases hd
        rw [Bool.and_eq_true] at h
        exact ⟨a, b, datR_ok (resM_ok R 3) x v a rx e1, datR_ok (resM_ok R 3) y u b ry e2, h.1, h.2, q _ rfl⟩
      · rw [if_neg h] at hd; cases hd⟩
theorem o_neD (hu : X.A.units + 64 < cLine) : OpS X T (compareOp .NotEq) (gNeD T.wds) := ⟨_, op_neD hu, fun ρ m H x y d v u Q R rx ry hd q => by
  unfold gNeD at hd
  cases e1 : dat T.wds m x with
  | none => rw [e1] at hd; cases hd
  | some a =>
    cases e2 : dat T.wds m y with
    | none => rw [e1, e2] at hd; cases hd
    | some b =>
      rw [e1, e2] at hd
      dsimp only at hd
      by_cases h : (SeqAt.shaped a && SeqAt.shaped b) = true
      · rw [if_pos h] at hd
        cases hd
        rw [Bool.and_eq_true] at h
        exact ⟨a, b, datR_ok (resM_ok R 3) x v a rx e1, datR_ok (resM_ok R 3) y u b ry e2, h.1, h.2, q _ rfl⟩
      · rw [if_neg h] at hd; cases hd⟩
/-! ### in, of words -/
def flatD : D → Bool
  | .non => true | .bl _ => true | .int _ => true | .wd _ => true | .str _ => true
  | _ => false
def isWd : D → Bool
  | .wd _ => true
  | _ => false
/-- x in (words) -/
def gInW : M → D → D → Option D := fun m x y => match x, itemsOf m y with
  | .wd n, some ys => if ys.all isWd = true then some (.bl (ys.any fun z => match z with
    | .wd k => decide (k = n)
    | _ => false)) else none
  | _, _ => none
theorem wds_in {K : PySem.W.Frag} {ρ : List Addr} {H : Hp} (hn : T.wds.Nodup) {n : Nat} {x : Str} (hx : T.wds[n]? = some x) : ∀ {ys : List D} {vs : List V}, RDs K T ρ H ys vs → ys.all isWd = true → vs.all flatV = true ∧ inV (.str x) vs = ys.any fun z => match z with
    | .wd k => decide (k = n)
    | _ => false
  | [], vs, r, _ => by
    have r' : vs = [] := r
    subst r'
    exact ⟨rfl, rfl⟩
  | d :: ys, vs, r, h => by
    obtain ⟨v, w, rfl, rv, rw⟩ := r
    rw [List.all_cons, Bool.and_eq_true] at h
    obtain ⟨h1, h2⟩ := wds_in hn hx rw h.2
    cases d with
    | wd k =>
      obtain ⟨y, hy, rfl⟩ := rv
      refine ⟨?_, ?_⟩
      · rw [List.all_cons, h1]; rfl
      · have e : eqV (.str y) (.str x) = decide (k = n) := by
          by_cases z : k = n
          · subst z
            rw [hx] at hy; cases hy
            simp [eqV]
          · have : y ≠ x := fun q => z (wd_inj hn hy (by rw [hx, q]))
            simp [eqV, z, this]
        have h3 : inV (.str x) (.str y :: w) = (eqV (.str y) (.str x) || inV (.str x) w) := rfl
        rw [h3, e, h2, List.any_cons]
    | _ => exact absurd h.1 Bool.false_ne_true
theorem o_inW (hn : T.wds.Nodup) : OpS X T (compareOp .In) gInW := ⟨_, op_in_seq, fun ρ m H x y d v u Q R rx ry hd q => by
  cases x with
  | wd n =>
    obtain ⟨z, hz, rfl⟩ := rx
    unfold gInW at hd
    cases e : itemsOf m y with
    | none => rw [e] at hd; cases hd
    | some ys =>
      rw [e] at hd
      dsimp only at hd
      by_cases h : ys.all isWd = true
      · rw [if_pos h] at hd
        cases hd
        obtain ⟨a, vs, rfl, hs, hr⟩ := items_ok R ry e
        obtain ⟨h1, h2⟩ := wds_in hn hz hr h
        exact ⟨a, vs, rfl, hs, rfl, h1, q _ (by rw [if_neg Bool.false_ne_true, h2]; rfl)⟩
      · rw [if_neg h] at hd; cases hd
  | _ => cases hd⟩
end
end Sh

set_option Elab.async false
set_option linter.all false
set_option autoImplicit false
set_option maxRecDepth 100000
set_option maxHeartbeats 2000000
namespace Sh
open PySem PySem.Spec PyProof.Rows L2

/-! ### what is walked -/
section
variable {K : PySem.W.Frag} {mg : Str → Option Value} {T : Tb} {ρ : List Addr} {H H' : Hp} {m : M}
mutual
theorem RD.tf (ht : ∀ a xs, SqT K H a xs → SqT K H' a xs) (hf : ∀ a xs, Fz K H a xs → Fz K H' a xs) : ∀ (d : D) (v : V), RD K T ρ H d v → RD K T ρ H' d v
  | .non, v, h => h
  | .bl _, v, h => h
  | .int _, v, h => h
  | .wd _, v, h => h
  | .str _, v, h => h
  | .ty _, v, h => h
  | .obj i, v, h => h
  | .tup xs, v, h => by
    obtain ⟨a, vs, h1, h2, h3⟩ := h
    exact ⟨a, vs, h1, ht _ _ h2, RDs.tf ht hf xs vs h3⟩
  | .frl xs, v, h => by
    obtain ⟨a, vs, h1, h2, h3⟩ := h
    exact ⟨a, vs, h1, hf _ _ h2, RDs.tf ht hf xs vs h3⟩
theorem RDs.tf (ht : ∀ a xs, SqT K H a xs → SqT K H' a xs) (hf : ∀ a xs, Fz K H a xs → Fz K H' a xs) : ∀ (xs : List D) (vs : List V), RDs K T ρ H xs vs → RDs K T ρ H' xs vs
  | [], vs, h => h
  | x :: xs, vs, h => by
    obtain ⟨v, r, h1, h2, h3⟩ := h
    exact ⟨v, r, h1, RD.tf ht hf x v h2, RDs.tf ht hf xs r h3⟩
end
theorem Rep.tf (ht : ∀ a xs, SqT K H a xs → SqT K H' a xs) (hf : ∀ a xs, Fz K H a xs → Fz K H' a xs) (hs : ∀ a ∈ ρ, H' a = H a) (htb : LamX.Tabs T.tabs H') (R : Rep K mg T ρ m H) : Rep K mg T ρ m H' :=
  ⟨R.nd, R.len, fun i o a h1 h2 => by
    have r := R.at_ i o a h1 h2
    have e := hs a (List.mem_of_getElem? h2)
    cases o with
    | lst xs =>
      obtain ⟨vs, e1, e2⟩ := r
      exact ⟨vs, by rw [e]; exact e1, RDs.tf ht hf _ _ e2⟩
    | dct kds =>
      obtain ⟨vs, e1, e2, e3⟩ := r
      exact ⟨vs, by rw [e]; exact e1, e2, fun n d q => let ⟨x, v, a, b, c⟩ := e3 n d q; ⟨x, v, a, b, RD.tf ht hf d v c⟩⟩
    | ins c fs =>
      obtain ⟨C, dx, vs, h1, h2, h3, h4, h5, h6⟩ := r
      exact ⟨C, dx, vs, h1, by rw [e]; exact h2, h3, h4, h5, fun k f d q1 q2 => let ⟨v, a, b⟩ := h6 k f d q1 q2; ⟨v, a, RD.tf ht hf d v b⟩⟩, htb⟩
end
/-- a sequence that is walked: its items; the list of the store that is to stay -/
abbrev Sq := List D × Option Nat
def okS (s : Sq) (m : M) : Prop := match s.2 with
  | none => True
  | some k => m[k]? = some (.lst s.1)
def Seqs (K : PySem.W.Frag) (mg : Str → Option Value) (T : Tb) (J : It) (s : Sq) (ρ1 : List Addr) (H1 : Hp) : Prop :=
  ∀ ρ' m' H' j, Ext K ρ1 H1 ρ' H' → Rep K mg T ρ' m' H' → okS s m' → (j < s.1.length → J.go j H') ∧ (∀ x d H'', J.yld j H' x H'' → s.1[j]? = some d → H'' = H' ∧ RD K T ρ' H' d x) ∧ (s.1.length ≤ j → J.stop j H')
structure II (X : Cx) (T : Tb) (tg iter : Expr) (f : Sl → M → R Sq) : Prop where
  run : ∀ W, Takes X W → ∃ wi, PI X tg iter wi ∧ ∀ σ H Rr, (∃ ρ τ m, Rep X.K X.mg T ρ m H ∧ RSl X.K T ρ H τ σ ∧ PR X.K X.mg T W σ ρ H (f τ m) fun s ρ1 m1 H1 => ∀ J, Seqs X.K X.mg T J s ρ1 H1 → Rr J H1) → wi σ H Rr
section
variable {X : Cx} {T : Tb} {tg e a b : Expr} {pos p : Pos}
def iT (f : Sl → M → R D) : Sl → M → R Sq := fun τ m => (f τ m).bind fun d m1 => match d with
  | .tup xs => .ok (xs, none) m1
  | _ => .bad
theorem ii_tup {f : Sl → M → R D} (he : IE X T e f) : II X T tg e (iT f) := ⟨fun W tk => ⟨_, pi_tup (he.run W tk), fun σ H Rr ⟨ρ, τ, m, R, l, q⟩ => ⟨ρ, τ, m, R, l, q.bind.imp fun d ρ1 m1 H1 e1 R1 q1 v rv => by
  cases d with
  | tup xs =>
    obtain ⟨a, vs, rfl, hs, hr⟩ := rv
    refine ⟨a, rfl, ⟨vs, hs⟩, PR.ok R1 q1 _ fun ρ' m' H' j e' R' _ => ⟨fun hj => ?_, fun x d H'' y hd => ?_, fun hj => ?_⟩⟩
    · exact ⟨vs, vs[j]'(by rw [hr.len]; exact hj), e'.tup _ _ hs, List.getElem?_eq_getElem _⟩
    · obtain ⟨rfl, hy⟩ := y
      obtain ⟨w, hw, rw'⟩ := (RDs.ext e' _ _ hr).get hd
      have := hy vs (e'.tup _ _ hs)
      rw [hw] at this; cases this
      exact ⟨rfl, rw'⟩
    · exact ⟨vs, e'.tup _ _ hs, by rw [hr.len]; exact hj⟩
  | _ => exact False.elim q1⟩⟩⟩
def iO (f : Sl → M → R D) : Sl → M → R Sq := fun τ m => (f τ m).bind fun d m1 => match lstAt m1 d with
  | some (k, xs) => .ok (xs, some k) m1
  | none => .bad
theorem ii_obj {f : Sl → M → R D} (he : IE X T e f) : II X T tg e (iO f) := ⟨fun W tk => ⟨_, pi_list (he.run W tk), fun σ H Rr ⟨ρ, τ, m, R, l, q⟩ => ⟨ρ, τ, m, R, l, q.bind.imp fun d ρ1 m1 H1 e1 R1 q1 v rv => by
  cases h1 : lstAt m1 d with
  | none => rw [h1] at q1; exact False.elim q1
  | some pr =>
    rw [h1] at q1
    obtain ⟨k, xs⟩ := pr
    obtain ⟨a, vs0, _, hk, ha, rfl, hH, hr0⟩ := lstAt_ok R1 rv h1
    refine ⟨a, rfl, ⟨vs0, .inl (.inl hH)⟩, PR.ok R1 q1 _ fun ρ' m' H' j e' R' hm => ?_⟩
    have hm' : m'[k]? = some (.lst xs) := hm
    obtain ⟨vs, hv, hr⟩ := R'.at_ k _ a hm' (e'.get ha)
    refine ⟨fun hj => ?_, fun x d H'' y hd => ?_, fun hj => ?_⟩
    · exact ⟨vs, vs[j]'(by rw [hr.len]; exact hj), .inl (.inl hv), List.getElem?_eq_getElem _⟩
    · obtain ⟨rfl, hy⟩ := y
      obtain ⟨w, hw, rw'⟩ := hr.get hd
      have := hy vs (.inl (.inl hv))
      rw [hw] at this; cases this
      exact ⟨rfl, rw'⟩
    · exact ⟨vs, .inl (.inl hv), by rw [hr.len]; exact hj⟩⟩⟩⟩
def iF (f : Sl → M → R D) : Sl → M → R Sq := fun τ m => (f τ m).bind fun d m1 => match d with
  | .frl xs => .ok (xs, none) m1
  | _ => .bad
theorem ii_frl {f : Sl → M → R D} (he : IE X T e f) : II X T tg e (iF f) := ⟨fun W tk => ⟨_, pi_list (he.run W tk), fun σ H Rr ⟨ρ, τ, m, R, l, q⟩ => ⟨ρ, τ, m, R, l, q.bind.imp fun d ρ1 m1 H1 e1 R1 q1 v rv => by
  cases d with
  | frl xs =>
    obtain ⟨a, vs, rfl, hs, hr⟩ := rv
    refine ⟨a, rfl, ⟨vs, hs.sq⟩, PR.ok R1 q1 _ fun ρ' m' H' j e' R' _ => ⟨fun hj => ?_, fun x d H'' y hd => ?_, fun hj => ?_⟩⟩
    · exact ⟨vs, vs[j]'(by rw [hr.len]; exact hj), (e'.frz _ _ hs).sq, List.getElem?_eq_getElem _⟩
    · obtain ⟨rfl, hy⟩ := y
      obtain ⟨w, hw, rw'⟩ := (RDs.ext e' _ _ hr).get hd
      have := hy vs (e'.frz _ _ hs).sq
      rw [hw] at this; cases this
      exact ⟨rfl, rw'⟩
    · exact ⟨vs, (e'.frz _ _ hs).sq, by rw [hr.len]; exact hj⟩
  | _ => exact False.elim q1⟩⟩⟩
def iN (f : Sl → M → R (List D)) : Sl → M → R Sq := fun τ m => (f τ m).bind fun xs m1 => .ok (xs, none) m1
theorem ii_new {f : Sl → M → R (List D)} (he : IL X T e f) : II X T tg e (iN f) := ⟨fun W tk => ⟨_, pi_list (he.run W tk), fun σ H Rr ⟨ρ, τ, m, R, l, q⟩ => ⟨ρ, τ, m, R, l, q.bind.imp fun xs ρ1 m1 H1 e1 R1 q1 a vs hp0 ha hn hr => by
    refine ⟨a, rfl, ⟨vs, .inl (.inl ha)⟩, PR.ok R1 q1 _ fun ρ' m' H' j e' R' _ => ?_⟩
    have hs : SqL X.K H' a vs := .inl (.inl (e'.frm _ _ ha hn noTab_lst.1))
    refine ⟨fun hj => ?_, fun x d H'' y hd => ?_, fun hj => ?_⟩
    · exact ⟨vs, vs[j]'(by rw [hr.len]; exact hj), hs, List.getElem?_eq_getElem _⟩
    · obtain ⟨rfl, hy⟩ := y
      obtain ⟨w, hw, rw'⟩ := (RDs.ext e' _ _ hr).get hd
      have := hy vs hs
      rw [hw] at this; cases this
      exact ⟨rfl, rw'⟩
    · exact ⟨vs, hs, by rw [hr.len]; exact hj⟩⟩⟩⟩
def rangeFrom (i : Int) (n : Nat) : List D := (List.range n).map fun k => .int (i + (k : Nat))
theorem rangeFrom_len {i : Int} {n : Nat} : (rangeFrom i n).length = n := by simp [rangeFrom]
theorem rangeFrom_get {i : Int} {n j : Nat} {d : D} (h : (rangeFrom i n)[j]? = some d) : d = .int (i + j) := by
  have hj : j < n := by have := (List.getElem?_eq_some_iff.mp h).1; rwa [rangeFrom_len] at this
  unfold rangeFrom at h
  rw [List.getElem?_map, List.getElem?_range hj] at h
  exact (Option.some.inj h).symm
theorem seqs_range {K : PySem.W.Frag} {mg : Str → Option Value} {ρ1 : List Addr} {H1 : Hp} {i : Int} {n : Nat} : Seqs K mg T (Itr i n) (rangeFrom i n, none) ρ1 H1 := fun ρ' m' H' j e' R' _ =>
  ⟨fun hj => by rw [rangeFrom_len] at hj; exact hj, fun x d H'' y hd => by
    obtain ⟨rfl, rfl⟩ := y
    rw [rangeFrom_get hd]
    exact ⟨rfl, rfl⟩, fun hj => by rw [rangeFrom_len] at hj; exact hj⟩
def iR (f : Sl → M → R D) : Sl → M → R Sq := fun τ m => (f τ m).bind fun d m1 => match d with
  | .int n => if decide (-(2 ^ 62) ≤ n ∧ n < 2 ^ 62) = true then .ok (rangeFrom 0 n.toNat, none) m1 else .bad
  | _ => .bad
theorem ii_range {f : Sl → M → R D} (hm : X.mg "range" = none) (he : IE X T e f) (hgl : Gl X "range" := by rfl)
    (hst : starEach [e] X.env = [(false, eval e X.env)] := by rfl) (hst' : starEach [e] X.env = (false, eval e X.env) :: starEach [] X.env := by rfl) : II X T tg (.Call (.Name "range" p) [e] [] pos) (iR f) :=
  ⟨fun W tk => ⟨_, pi_range1 hgl hm (pa_cons (he.run W tk) pa_nil hst') hst, fun σ H Rr ⟨ρ, τ, m, R, l, q⟩ => ⟨ρ, τ, m, R, l, q.bind.imp fun d ρ1 m1 H1 e1 R1 q1 v rv => by
    cases d with
    | int n =>
      have rv' : v = .int n := rv
      subst rv'
      have q0 : PR X.K X.mg T W σ ρ1 H1 (if decide (-(2 ^ 62) ≤ n ∧ n < 2 ^ 62) = true then .ok (rangeFrom 0 n.toNat, none) m1 else .bad) (fun s ρ1 m1 H1 => ∀ J, Seqs X.K X.mg T J s ρ1 H1 → Rr J H1) := q1
      by_cases hn : decide (-(2 ^ 62) ≤ n ∧ n < 2 ^ 62) = true
      · rw [if_pos hn] at q0
        obtain ⟨n1, n2⟩ := of_decide_eq_true hn
        exact ⟨n, rfl, n1, n2, PR.ok R1 q0 _ seqs_range⟩
      · rw [if_neg hn] at q0
        exact False.elim q0
    | _ => exact False.elim q1⟩⟩⟩
def iR2 (f g : Sl → M → R D) : Sl → M → R Sq := fun τ m => (f τ m).bind fun d m1 => (g τ m1).bind fun d2 m2 => match d, d2 with
  | .int i, .int j => if decide (-(2 ^ 62) ≤ i ∧ i < 2 ^ 62 ∧ -(2 ^ 62) ≤ j ∧ j < 2 ^ 62) = true then .ok (rangeFrom i (j - i).toNat, none) m2 else .bad
  | _, _ => .bad
theorem ii_range2 {f g : Sl → M → R D} (hm : X.mg "range" = none) (ha : IE X T a f) (hb : IE X T b g) (hgl : Gl X "range" := by rfl)
    (hs : starEach [a, b] X.env = [(false, eval a X.env), (false, eval b X.env)] := by rfl) (hs2 : starEach [b] X.env = [(false, eval b X.env)] := by rfl)
    (h1 : starEach [a, b] X.env = (false, eval a X.env) :: starEach [b] X.env := by rfl) (h2 : starEach [b] X.env = (false, eval b X.env) :: starEach [] X.env := by rfl) : II X T tg (.Call (.Name "range" p) [a, b] [] pos) (iR2 f g) :=
  ⟨fun W tk => ⟨_, pi_range2 hgl hm (pa_cons (ha.run W tk) (pa_cons (hb.run W tk) pa_nil h2) h1) hs hs2, fun σ H Rr ⟨ρ, τ, m, R, l, q⟩ => ⟨ρ, τ, m, R, l, q.bind.imp fun d ρ1 m1 H1 e1 R1 q1 v rv =>
    ⟨ρ1, τ, m1, R1, l.ext e1, q1.bind.imp fun d2 ρ2 m2 H2 e2 R2 q2 u ru => by
      cases d with
      | int i =>
        have rv' : v = .int i := rv
        subst rv'
        cases d2 with
        | int j =>
          have ru' : u = .int j := ru
          subst ru'
          have q0 : PR X.K X.mg T W σ ρ2 H2 (if decide (-(2 ^ 62) ≤ i ∧ i < 2 ^ 62 ∧ -(2 ^ 62) ≤ j ∧ j < 2 ^ 62) = true then .ok (rangeFrom i (j - i).toNat, none) m2 else .bad) (fun s ρ1 m1 H1 => ∀ J, Seqs X.K X.mg T J s ρ1 H1 → Rr J H1) := q2
          by_cases hn : decide (-(2 ^ 62) ≤ i ∧ i < 2 ^ 62 ∧ -(2 ^ 62) ≤ j ∧ j < 2 ^ 62) = true
          · rw [if_pos hn] at q0
            exact ⟨i, j, rfl, of_decide_eq_true hn, PR.ok R2 q0 _ seqs_range⟩
          · rw [if_neg hn] at q0
            exact False.elim q0
        | _ => exact False.elim q2
      | _ => exact False.elim q2⟩⟩⟩⟩
end

/-! ### for, over what is walked -/
noncomputable def sFor (g : D → Sl → M → S) (f : Sl → M → R Sq) (body : Sl → M → S) : Sl → M → S := fun τ m => bS (f τ m) τ fun s m1 => match s.2 with
  | none => loop g body s.1 τ m1
  | some k => loopO g body k s.1 s.1 τ m1
section
variable {X : Cx} {T : Tb} {tg e : Expr} {sts : List Stmt} {pos : Pos}
theorem is_for {g : D → Sl → M → S} {f : Sl → M → R Sq} {body : Sl → M → S} (hp : PassesOwn (model X.prog X.w) X.A X.env X.xe) (hc : X.calm = true) (hi : II X T tg e f) (hg : IG X T tg g) (hb : ISs X T sts body)
    (hs : ∀ x, foldedSetIterable e X.env x = pure x := by intro _; rfl) : IS X T (.For tg e sts [] pos) (sFor g f body) := by
  refine ⟨fun W tk => ?_⟩
  obtain ⟨wi, h1, h2⟩ := hi.run W tk
  refine ps_imp (ps_for hp hc h1 (hg.run W tk) (hb.run W tk) hs) fun σ H E ⟨ρ, τ, m, R, l, q⟩ => h2 σ H _ ⟨ρ, τ, m, R, l, (q.bindE l).imp fun s ρ1 m1 H1 e1 R1 q1 J hJ => ?_⟩
  obtain ⟨xs, ko⟩ := s
  cases ko with
  | none =>
    have q1' : PSr X.K X.mg T W ρ1 H1 (loop g body xs τ m1) E := q1
    refine ⟨fun i n σ' H' => n = xs.length - i ∧ i ≤ xs.length ∧ Lv X.K X.mg T W (loop g body) xs ρ1 H1 E i σ' H', ⟨xs.length, by simp, Nat.zero_le _, ρ1, τ, m1, .refl, R1, l.ext e1, by simpa using q1'⟩, ?_⟩
    rintro i n σ' H' ⟨rfl, hi, ρ', τ', m', e', R', l', q'⟩
    obtain ⟨j1, j2, j3⟩ := hJ ρ' m' H' i e' R' trivial
    by_cases hlt : i < xs.length
    · obtain ⟨x, hx, hd⟩ := drop_at hlt
      refine .inr ⟨j1 hlt, Lv X.K X.mg T W (loop g body) xs ρ1 H1 E (i + 1), fun σ2 H2 p2 => ⟨xs.length - (i + 1), by omega, rfl, hlt, p2⟩, fun y H2 hy => ?_⟩
      obtain ⟨rfl, rw'⟩ := j2 y x H2 hy hx
      rw [hd] at q'
      exact turn_read (go := loop g body (xs.drop (i + 1))) R' l' rw' q' fun ρ2 σ2 H2 τ2 m2 e2 R2 l2 q2 => ⟨ρ2, τ2, m2, e'.trans e2, R2, l2, q2⟩
    · have hn : xs.drop i = [] := by rw [List.drop_eq_nil_iff]; omega
      rw [hn] at q'
      exact .inl ⟨j3 (by show xs.length ≤ i; omega), q' ρ' σ' H' .refl R' l'⟩
  | some k =>
    have q1' : PSr X.K X.mg T W ρ1 H1 (loopO g body k xs xs τ m1) E := q1
    refine ⟨fun i n σ' H' => n = xs.length - i ∧ i ≤ xs.length ∧ Lv X.K X.mg T W (loopO g body k xs) xs ρ1 H1 E i σ' H', ⟨xs.length, by simp, Nat.zero_le _, ρ1, τ, m1, .refl, R1, l.ext e1, by simpa using q1'⟩, ?_⟩
    rintro i n σ' H' ⟨rfl, hi, ρ', τ', m', e', R', l', q'⟩
    have hm := loopO_there q'
    obtain ⟨j1, j2, j3⟩ := hJ ρ' m' H' i e' R' hm
    by_cases hlt : i < xs.length
    · obtain ⟨x, hx, hd⟩ := drop_at hlt
      refine .inr ⟨j1 hlt, Lv X.K X.mg T W (loopO g body k xs) xs ρ1 H1 E (i + 1), fun σ2 H2 p2 => ⟨xs.length - (i + 1), by omega, rfl, hlt, p2⟩, fun y H2 hy => ?_⟩
      obtain ⟨rfl, rw'⟩ := j2 y x H2 hy hx
      rw [hd] at q'
      unfold loopO at q'
      rw [if_pos hm] at q'
      exact turn_read (go := loopO g body k xs (xs.drop (i + 1))) R' l' rw' q' fun ρ2 σ2 H2 τ2 m2 e2 R2 l2 q2 => ⟨ρ2, τ2, m2, e'.trans e2, R2, l2, q2⟩
    · have hn : xs.drop i = [] := by rw [List.drop_eq_nil_iff]; omega
      rw [hn] at q'
      unfold loopO at q'
      rw [if_pos hm] at q'
      exact .inl ⟨j3 (by show xs.length ≤ i; omega), q' ρ' σ' H' .refl R' l'⟩
end

/-! ### comprehensions -/
def noExR {α : Type} (r : R α) : R α := match r with
  | .ex _ _ _ => .bad
  | r => r
open Classical in
noncomputable def compG (ok : M → Prop) (i : Nat) (tt : Sl → M → R Bool) (te : Sl → M → R D) (τ : Sl) : List D → List D → M → R (List D)
  | [], acc, m => if ok m then .ok acc m else .bad
  | x :: r, acc, m => if ok m then (noExR (tt (τ.set i (some x)) m)).bind fun b m1 => if b = true then
      (noExR (te (τ.set i (some x)) m1)).bind fun d m2 => if acc.length < 16777216 then compG ok i tt te τ r (acc ++ [d]) m2 else .bad
    else compG ok i tt te τ r acc m1 else .bad
noncomputable def lLc (i : Nat) (f : Sl → M → R Sq) (tt : Sl → M → R Bool) (te : Sl → M → R D) : Sl → M → R (List D) := fun τ m => (f τ m).bind fun s m1 => compG (okS s) i tt te τ s.1 [] m1
section
variable {X : Cx} {T : Tb}
structure ITs (X : Cx) (T : Tb) (es : List Expr) (f : Sl → M → R Bool) : Prop where
  run : ∀ W, Takes X W → PTs X es (rdT X.K X.mg T W f)
def tYs : Sl → M → R Bool := fun _ m => .ok true m
theorem its_nil : ITs X T [] tYs := ⟨fun W tk => ⟨fun pins s σ H Q I ⟨ρ, τ, m, R, l, q⟩ => pts_nil.run pins s σ H Q I (PR.ok R q)⟩⟩
theorem its_one {c : Expr} {f : Sl → M → R Bool} (h : IT X T c f) : ITs X T [c] f := ⟨fun W tk => pts_one (h.run W tk)⟩
theorem noExR_ok {α : Type} {K : PySem.W.Frag} {mg : Str → Option Value} {W W' : WX} {σ σ' : L2.St} {ρ : List Addr} {H : Hp} {r : R α} {Q : α → List Addr → M → Hp → Prop} (h : PR K mg T W σ ρ H (noExR r) Q) : PR K mg T W' σ' ρ H r Q := by
  cases r with
  | ok a m => exact h
  | ex x p m => exact False.elim h
  | bad => exact False.elim h
theorem compG_ok {K : PySem.W.Frag} {mg : Str → Option Value} {W : WX} {σ : L2.St} {ρ : List Addr} {H : Hp} {ok : M → Prop} {i : Nat} {tt : Sl → M → R Bool} {te : Sl → M → R D} {τ : Sl} {Q : List D → List Addr → M → Hp → Prop} : ∀ {xs acc : List D} {m : M}, PR K mg T W σ ρ H (compG ok i tt te τ xs acc m) Q → ok m
  | [], acc, m, h => by
    unfold compG at h
    by_cases z : ok m
    · exact z
    · rw [if_neg z] at h; exact False.elim h
  | x :: r, acc, m, h => by
    unfold compG at h
    by_cases z : ok m
    · exact z
    · rw [if_neg z] at h; exact False.elim h
theorem PR.bind0 {α β : Type} {K : PySem.W.Frag} {mg : Str → Option Value} {W : WX} {σ : L2.St} {ρ : List Addr} {H : Hp} {r : R α} {g : α → M → R β} {Q : β → List Addr → M → Hp → Prop} (h : PR K mg T W σ ρ H (r.bind g) Q) : PR K mg T W σ ρ H r (fun a _ m1 _ => PR K mg T W σ ρ H (g a m1) Q) := by
  cases r with
  | ok a m => exact fun ρ' H' e R => h
  | ex x p m => exact h
  | bad => exact h
theorem lc_imp {i : Nat} {x : Str} {npos : Pos} {iter : Expr} {f : Sl → M → R Sq} {tt : Sl → M → R Bool} {te : Sl → M → R D} (hi : II X T (.Name x npos) iter f) (W : WX) (tk : Takes X W) :
    ∃ wi, PI X (.Name x npos) iter wi ∧ ∀ σ H (Q : VK), rdL X.K X.mg T W (lLc i f tt te) σ H Q → tLc wi (gName i) (rdT X.K X.mg T (fun _ _ _ _ => False) tt) (rdE X.K X.mg T (fun _ _ _ _ => False) te) ([(x, i)].map (·.2)) σ H Q := by
  obtain ⟨wi, h1, h2⟩ := hi.run W tk
  refine ⟨wi, h1, fun σ H Q ⟨ρ, τ, m, R, l, q⟩ => h2 σ H _ ⟨ρ, τ, m, R, l, q.bind.imp fun s ρ1 m1 H1 e1 R1 q1 J hJ D hD => ?_⟩⟩
  obtain ⟨xs, ko⟩ := s
  have hD0 : H D = none := new_none e1 hD
  -- the target of all: what follows
  let G : List Sh.D → List Addr → M → Hp → Prop := fun ds ρ' _ H' => ∀ p vs, H p = none → H' p = some (.lst vs) → p ∉ ρ' → RDs X.K T ρ' H' ds vs → Q (.ref p) H'
  have exD : Ext X.K ρ1 H1 ρ1 (upd H1 D (.lst [])) := Ext.new hD
  refine ⟨fun j n H' => n = xs.length - j ∧ j ≤ xs.length ∧ ∃ ρ' m' acc vs, Ext X.K ρ1 H1 ρ' H' ∧ Rep X.K X.mg T ρ' m' H' ∧ H' D = some (.lst vs) ∧ D ∉ ρ' ∧ RDs X.K T ρ' H' acc vs ∧
    PR X.K X.mg T W σ ρ1 H1 (compG (okS (xs, ko)) i tt te τ (xs.drop j) acc m') G, ⟨xs.length, by simp, Nat.zero_le _, ρ1, m1, [], [], exD, R1.new hD, upd_same, R1.notin hD, rfl, by simpa using q1⟩, ?_⟩
  rintro j n H' ⟨rfl, hj, ρ', m', acc, vs, e', R', hH, hn, hr, q'⟩
  have hok := compG_ok q'
  obtain ⟨j1, j2, j3⟩ := hJ ρ' m' H' j e' R' hok
  by_cases hlt : j < xs.length
  · obtain ⟨d, hx, hd⟩ := drop_at hlt
    rw [hd] at q'
    unfold compG at q'
    rw [if_pos hok] at q'
    refine .inr ⟨j1 hlt, fun H' => j + 1 ≤ xs.length ∧ ∃ ρ' m' acc vs, Ext X.K ρ1 H1 ρ' H' ∧ Rep X.K X.mg T ρ' m' H' ∧ H' D = some (.lst vs) ∧ D ∉ ρ' ∧ RDs X.K T ρ' H' acc vs ∧
      PR X.K X.mg T W σ ρ1 H1 (compG (okS (xs, ko)) i tt te τ (xs.drop (j + 1)) acc m') G, fun H2 p2 => ⟨xs.length - (j + 1), by omega, rfl, p2⟩, fun y H2 hy => ?_⟩
    obtain ⟨rfl, rdy⟩ := j2 y d H2 hy hx
    have l' : RSl X.K T ρ' H2 τ σ := (l.ext e1).ext e'
    have hw : ∀ (z : Option V), ((wipe σ (List.map (fun x => x.snd) [(x, i)])).set i z) = σ.set i z := fun z => by
      show ((σ.set i none).set i z) = _
      rw [List.set_set]
    refine ⟨?_, ?_⟩
    · show (((σ.set i none).set i (some y)).set i none) = σ.set i none
      rw [List.set_set, List.set_set]
    · rw [hw]
      refine ⟨ρ', τ.set i (some d), m', R', l'.set i rdy, (noExR_ok (σ' := σ.set i (some y)) (PR.bind0 q')).ext e' |>.imp fun k ρ2 m2 H3 e2 R2 q2 => ?_⟩
      have hH3 : H3 D = some (.lst vs) := e2.frm _ _ hH hn noTab_lst.1
      have hn3 : D ∉ ρ2 := by
        obtain ⟨t, et, ht2⟩ := e2.pre
        rw [et]
        intro hm
        rcases List.mem_append.mp hm with z | z
        · exact hn z
        · rw [ht2 D z] at hH; cases hH
      cases k with
      | false =>
        refine (if_neg Bool.false_ne_true).mpr ?_
        rw [if_neg Bool.false_ne_true] at q2
        exact ⟨hlt, ρ2, m2, acc, vs, e'.trans e2, R2, hH3, hn3, RDs.ext e2 _ _ hr, q2⟩
      | true =>
        refine (if_pos rfl).mpr ?_
        rw [if_pos rfl] at q2
        refine ⟨ρ2, τ.set i (some d), m2, R2, (l'.set i rdy).ext e2, (noExR_ok (σ' := σ.set i (some y)) (PR.bind0 q2)).ext (e'.trans e2) |>.imp fun dd ρ3 m3 H4 e3 R3 q3 w rw' => ?_⟩
        have hH4 : H4 D = some (.lst vs) := e3.frm _ _ hH3 hn3 noTab_lst.1
        have hn4 : D ∉ ρ3 := by
          obtain ⟨t, et, ht2⟩ := e3.pre
          rw [et]
          intro hm
          rcases List.mem_append.mp hm with z | z
          · exact hn3 z
          · rw [ht2 D z] at hH3; cases hH3
        by_cases hl : acc.length < 16777216
        · rw [if_pos hl] at q3
          have hr4 : RDs X.K T ρ3 H4 acc vs := RDs.ext e3 _ _ (RDs.ext e2 _ _ hr)
          have ht : ∀ a xs, SqT X.K H4 a xs → SqT X.K (upd H4 D (.lst (vs ++ [w]))) a xs := fun a xs h => sqT_upd (.inr ⟨_, hH4, fun _ z => HO.noConfusion z, fun _ _ z => HO.noConfusion z⟩) h
          have hf : ∀ a xs, Fz X.K H4 a xs → Fz X.K (upd H4 D (.lst (vs ++ [w]))) a xs := fun a xs h => fz_upd (.inr ⟨_, hH4, fun _ z => HO.noConfusion z, fun _ _ z => HO.noConfusion z⟩) h
          have e4 : Ext X.K ρ1 H1 ρ3 H4 := (e'.trans e2).trans e3
          have e5 : Ext X.K ρ1 H1 ρ3 (upd H4 D (.lst (vs ++ [w]))) := ⟨e4.pre, fun a xs h => ht a xs (e4.tup a xs h), fun a xs h => hf a xs (e4.frz a xs h), fun a o h hna hnt => by
            rw [upd_ne (ne_of_none h hD)]
            exact e4.frm a o h hna hnt, fun a h => kp_upd a (e4.kp a h)⟩
          have R5 : Rep X.K X.mg T ρ3 m3 (upd H4 D (.lst (vs ++ [w]))) := R3.tf ht hf (fun a ha => upd_ne fun z => hn4 (by rw [← z]; exact ha)) (tabs_upd (.inr ⟨_, hH4, noTab_lst⟩) R3.tab)
          refine ⟨vs, hH4, by rw [hr4.len, sizeLine_eq]; exact hl, hlt, ρ3, m3, acc ++ [dd], vs ++ [w], e5, R5, upd_same, hn4, (RDs.tf ht hf _ _ hr4).app (RDs.one (RD.tf ht hf _ _ rw')), q3⟩
        · rw [if_neg hl] at q3
          exact False.elim q3
  · have hz : xs.drop j = [] := by rw [List.drop_eq_nil_iff]; omega
    rw [hz] at q'
    unfold compG at q'
    rw [if_pos hok] at q'
    exact .inl ⟨j3 (by show xs.length ≤ j; omega), q' ρ' H' e' R' D vs hD0 hH hn hr⟩
theorem il_lc {i : Nat} {x : Str} {npos pos : Pos} {iter elt : Expr} {ifs : List Expr} {scope : Scope} {f : Sl → M → R Sq} {tt : Sl → M → R Bool} {te : Sl → M → R D} (hc : X.calm = true) (hN : X.N.Nodup) (hi : II X T (.Name x npos) iter f) (ok : BlkOk X.N X.env.scope scope [(x, i)])
    (hg : ∀ (s : Shared) (H : Hp) (C : Addr) (cl : List (Str × Addr)) (fp : List Addr), PG (X.blk s H scope (compEnvC scope cl C X.env) fp) (.Name x npos) (gName i))
    (ht : ∀ (s : Shared) (H : Hp) (C : Addr) (cl : List (Str × Addr)) (fp : List Addr), ITs (X.blk s H scope (compEnvC scope cl C X.env) fp) T ifs tt)
    (he : ∀ (s : Shared) (H : Hp) (C : Addr) (cl : List (Str × Addr)) (fp : List Addr), IE (X.blk s H scope (compEnvC scope cl C X.env) fp) T elt te) (hs : ∀ x, foldedSetIterable iter X.env x = pure x := by intro _; rfl) :
    IL X T (.ListComp elt [⟨.Name x npos, iter, ifs, 0⟩] scope pos) (lLc i f tt te) := by
  refine ⟨fun W tk => ?_⟩
  obtain ⟨wi, h1, h2⟩ := lc_imp (te := te) (tt := tt) (i := i) hi W tk
  exact pe_imp (pe_lc (own := [(x, i)]) (te := rdE X.K X.mg T (fun _ _ _ _ => False) te) (tt := rdT X.K X.mg T (fun _ _ _ _ => False) tt) hc hN h1 ok hg (fun s H C cl fp => (ht s H C cl fp).run (fun _ _ _ _ => False) takes0) (fun s H C cl fp => (he s H C cl fp).run (fun _ _ _ _ => False) takes0) hs) h2
theorem new_read {K : PySem.W.Frag} {mg : Str → Option Value} {W : WX} {σ : L2.St} {ρ : List Addr} {H : Hp} {τ : Sl} {m : M} {f : Sl → M → R (List D)} {Q : VK} (q : PR K mg T W σ ρ H (eNew f τ m) fun d ρ1 _ H1 => ∀ v, RD K T ρ1 H1 d v → Q v H1) :
    PR K mg T W σ ρ H (f τ m) fun ds ρ' _ H' => ∀ p vs, H p = none → H' p = some (.lst vs) → p ∉ ρ' → RDs K T ρ' H' ds vs → Q (.ref p) H' := by
  unfold eNew at q
  cases hf : f τ m with
  | ok xs m1 =>
    rw [hf] at q
    intro ρ1 H1 e1 R1 p vs hp0 hp hn rvs
    have e2 : Ext K ρ H (ρ1 ++ [p]) H1 := e1.adopt hp0
    have R2 : Rep K mg T (ρ1 ++ [p]) (m1 ++ [.lst xs]) H1 := R1.adopt hn ⟨vs, hp, RDs.grow _ _ rvs⟩
    exact q _ _ e2 R2 (.ref p) ⟨p, by rw [← R1.len]; simp, rfl⟩
  | ex x p m1 => rw [hf] at q; exact q
  | bad => rw [hf] at q; exact q
/-- name = [.. for ..] on one row -/
theorem is_setLc {j i : Nat} {y x : Str} {py npos pos spos : Pos} {iter elt : Expr} {ifs : List Expr} {scope : Scope} {f : Sl → M → R Sq} {tt : Sl → M → R Bool} {te : Sl → M → R D} (hc : X.calm = true) (hN : X.N.Nodup) (hi : II X T (.Name x npos) iter f) (ok : BlkOk X.N X.env.scope scope [(x, i)])
    (hg : ∀ (s : Shared) (H : Hp) (C : Addr) (cl : List (Str × Addr)) (fp : List Addr), PG (X.blk s H scope (compEnvC scope cl C X.env) fp) (.Name x npos) (gName i))
    (ht : ∀ (s : Shared) (H : Hp) (C : Addr) (cl : List (Str × Addr)) (fp : List Addr), ITs (X.blk s H scope (compEnvC scope cl C X.env) fp) T ifs tt)
    (he : ∀ (s : Shared) (H : Hp) (C : Addr) (cl : List (Str × Addr)) (fp : List Addr), IE (X.blk s H scope (compEnvC scope cl C X.env) fp) T elt te)
    (hsw : swapsWith (.ListComp elt [⟨.Name x npos, iter, ifs, 0⟩] scope pos) (some (.Name y py)) spos.line X.env = pure true) (hy : X.N[j]? = some y := by rfl) (hyl : X.env.scope.names.lookup y = some .local := by rfl) (hs : ∀ x, foldedSetIterable iter X.env x = pure x := by intro _; rfl) :
    IS X T (.Assign [.Name y py] (.ListComp elt [⟨.Name x npos, iter, ifs, 0⟩] scope pos) spos) (sSet j (eNew (lLc i f tt te))) := by
  refine ⟨fun W tk => ?_⟩
  obtain ⟨wi, h1, h2⟩ := lc_imp (te := te) (tt := tt) (i := i) hi W tk
  exact ps_imp (ps_setLc (own := [(x, i)]) (te := rdE X.K X.mg T (fun _ _ _ _ => False) te) (tt := rdT X.K X.mg T (fun _ _ _ _ => False) tt) hc hN hy hyl hsw h1 ok hg (fun s H C cl fp => (ht s H C cl fp).run (fun _ _ _ _ => False) takes0) (fun s H C cl fp => (he s H C cl fp).run (fun _ _ _ _ => False) takes0) hs) fun σ H E ⟨ρ, τ, m, R, l, q⟩ =>
    h2 σ H _ ⟨ρ, τ, m, R, l, new_read ((q.bindE l).imp fun d ρ1 m1 H1 e1 R1 q1 v rv => q1 ρ1 _ H1 .refl R1 ((l.ext e1).set j rv))⟩
end
end Sh

set_option Elab.async false
set_option linter.all false
set_option autoImplicit false
set_option maxRecDepth 100000
set_option maxHeartbeats 2000000
namespace Sh
open PySem PySem.Spec PyProof.Rows L2

/-! ### {word: e, ..}[e] -/
section
variable {X : Cx} {T : Tb} {e : Expr} {pos p2 dpos : Pos}
structure IDl (X : Cx) (T : Tb) (pos : Pos) (keys : List (Option Expr)) (values : List Expr) (f : Sl → M → R (List (Nat × D))) : Prop where
  len : keys.length = values.length
  all : keys.all (·.isSome) = true
  run : ∀ W, Takes X W → ∃ trs, PPs X pos keys values trs ∧ ∀ σ ρ τ m H Qd (Qk : List (V × V) → Hp → Prop), Rep X.K X.mg T ρ m H → RSl X.K T ρ H τ σ → PR X.K X.mg T W σ ρ H (f τ m) Qd →
    (∀ kvs ρ2 m2 vs H2, Ext X.K ρ H ρ2 H2 → Rep X.K X.mg T ρ2 m2 H2 → Paired (fun (a : Nat × D) (b : Str × V) => T.wds[a.1]? = some b.1 ∧ RD X.K T ρ2 H2 a.2 b.2) kvs vs → Qd kvs ρ2 m2 H2 → Qk (vs.map (fun kv : Str × V => (kV (.inr kv.1), kv.2))) H2) →
    tPairs trs σ H Qk
def dlNil : Sl → M → R (List (Nat × D)) := fun _ m => .ok [] m
def dlCons (n : Nat) (f : Sl → M → R D) (g : Sl → M → R (List (Nat × D))) : Sl → M → R (List (Nat × D)) := fun τ m => (f τ m).bind fun d m1 => (g τ m1).bind fun r m2 => .ok ((n, d) :: r) m2
theorem idl_nil : IDl X T pos [] [] dlNil := ⟨rfl, rfl, fun W tk => ⟨[], pps_nil, fun σ ρ τ m H Qd Qk R l q hk => hk [] ρ m [] H .refl R .nil (PR.ok R q)⟩⟩
theorem idl_cons {x : Str} {j : Nat} {v : Expr} {ks : List (Option Expr)} {vs : List Expr} {f : Sl → M → R D} {g : Sl → M → R (List (Nat × D))} (n : Nat) (hv : IE X T v f) (hr : IDl X T pos ks vs g) (h : T.wds[n]? = some x := by rfl) :
    IDl X T pos (some (.Constant (.str x) j p2) :: ks) (v :: vs) (dlCons n f g) := by
  refine ⟨by rw [List.length_cons, List.length_cons, hr.len], by rw [List.all_cons, hr.all]; rfl, fun W tk => ?_⟩
  obtain ⟨trs, h1, h2⟩ := hr.run W tk
  refine ⟨_, pps_cons pe_str (hv.run W tk) h1, fun σ ρ τ m H Qd Qk R l q hk => ?_⟩
  show rdE X.K X.mg T W f σ H _
  refine ⟨ρ, τ, m, R, l, q.bind.imp fun d ρ1 m1 H1 e1 R1 q1 y ry => ?_⟩
  exact h2 σ ρ1 τ m1 H1 _ _ R1 (l.ext e1) (PR.bind q1) fun kvs ρ2 m2 ws H2 e2 R2 pr q2 => hk ((n, d) :: kvs) ρ2 m2 ((x, y) :: ws) H2 (e1.trans e2) R2 (.cons ⟨h, RD.ext e2 _ _ ry⟩ pr) (PR.ok R2 q2)
def lastV : List (Key × V) → Key → Option V
  | [], _ => none
  | (k, d) :: r, n => match lastV r n with
    | some x => some x
    | none => if k = n then some d else none
theorem valV_merge (j : Key) : ∀ (more kvs : List (Key × V)), valV (mergeK kvs more) j = (match lastV more j with
    | some x => some x
    | none => valV kvs j)
  | [], kvs => rfl
  | (k, d) :: r, kvs => by
    have ih := valV_merge j r (putK kvs k d)
    show valV (mergeK (putK kvs k d) r) j = _
    rw [ih]
    cases e : lastV r j with
    | some x => simp only [lastV, e]
    | none =>
      simp only [lastV, e]
      rw [valV_put]
      by_cases h : j = k
      · rw [if_pos h, if_pos h.symm]
      · rw [if_neg h, if_neg fun z => h z.symm]
theorem lastL_ok {K : PySem.W.Frag} {ρ : List Addr} {H : Hp} (hn : T.wds.Nodup) {n : Nat} {x : Str} (hx : T.wds[n]? = some x) : ∀ {kvs : List (Nat × D)} {vs : List (Str × V)}, Paired (fun (a : Nat × D) (b : Str × V) => T.wds[a.1]? = some b.1 ∧ RD K T ρ H a.2 b.2) kvs vs →
    (∀ d, lastL kvs n = some d → ∃ v, lastV (vs.map fun kv => (Sum.inr kv.1, kv.2)) (.inr x) = some v ∧ RD K T ρ H d v) ∧ (lastL kvs n = none → lastV (vs.map fun kv => (Sum.inr kv.1, kv.2)) (.inr x) = none) := by
  intro kvs vs h
  induction h with
  | nil => exact ⟨fun d e => (nomatch e), fun _ => rfl⟩
  | @cons a b l₁ l₂ r t ih =>
    obtain ⟨k, d0⟩ := a
    obtain ⟨y, v0⟩ := b
    obtain ⟨i1, i2⟩ := ih
    obtain ⟨r1, r2⟩ := r
    refine ⟨fun d e => ?_, fun e => ?_⟩
    · cases q : lastL l₁ n with
      | some z =>
        simp only [lastL, q] at e
        cases e
        obtain ⟨v, hv, rv⟩ := i1 _ q
        exact ⟨v, by simp only [List.map_cons, lastV, hv], rv⟩
      | none =>
        simp only [lastL, q] at e
        by_cases hk : k = n
        · rw [if_pos hk] at e
          cases e
          subst hk
          have r1' : T.wds[k]? = some y := r1
          rw [hx] at r1'; cases r1'
          exact ⟨v0, by simp only [List.map_cons, lastV, i2 q, if_true], r2⟩
        · rw [if_neg hk] at e; cases e
    · cases q : lastL l₁ n with
      | some z => simp only [lastL, q] at e; cases e
      | none =>
        simp only [lastL, q] at e
        by_cases hk : k = n
        · rw [if_pos hk] at e; cases e
        · have : y ≠ x := fun z => hk (wd_inj hn r1 (by rw [hx, z]))
          simp only [List.map_cons, lastV, i2 q]
          rw [if_neg fun z => this (Sum.inr.inj z)]
def eDlit (f : Sl → M → R (List (Nat × D))) (g : Sl → M → R D) : Sl → M → R D := fun τ m => (f τ m).bind fun kvs m1 => if kvs.length ≤ 15 then (g τ m1).bind fun k m2 => match k with
  | .wd n => R.of (lastL kvs n) m2
  | _ => .bad
  else .bad
theorem ie_dlit {keys : List (Option Expr)} {values : List Expr} {f : Sl → M → R (List (Nat × D))} {g : Sl → M → R D} {k0 : Option Expr} (hn : T.wds.Nodup) (hu : X.A.units + 1 < cLine) (hd : IDl X T dpos (k0 :: keys) values f) (hk : IE X T e g) (h15 : (k0 :: keys).length ≤ 15 := by decide) (hs : NoSl e := by exact fun _ _ => rfl) :
    IE X T (.Subscript (.Dict (k0 :: keys) values dpos) e pos) (eDlit f g) := by
  refine ⟨fun W tk => ?_⟩
  obtain ⟨trs, h1, h2⟩ := hd.run W tk
  refine pe_imp (pe_dget hu (pe_disp h1 hd.all hd.len (by simp) h15) (hk.run W tk) hs) fun σ H Q ⟨ρ, τ, m, R, l, q⟩ => ?_
  intro p hp
  have ex : Ext X.K ρ H ρ (upd H p (.dK [])) := Ext.new hp
  have hpn : p ∉ ρ := R.notin hp
  refine h2 σ ρ τ m _ _ _ (R.new hp) (l.ext ex) (PR.ext (PR.bind0 q) ex) fun kvs ρ2 m2 vs H2 e2 R2 pr q2 => ?_
  have hp2 : H2 p = some (.dK []) := e2.frm _ _ upd_same hpn noTab_dK.1
  have hpn2 : p ∉ ρ2 := by
    obtain ⟨t, et, ht2⟩ := e2.pre
    rw [et]
    intro hm
    rcases List.mem_append.mp hm with z | z
    · exact hpn z
    · have := ht2 p z
      rw [upd_same] at this; cases this
  have hlen : kvs.length = vs.length := Paired.length pr
  by_cases hl : kvs.length ≤ 15
  · rw [if_pos hl] at q2
    refine ⟨hp2, vs.map (fun kv => (Sum.inr kv.1, kv.2)), by rw [List.map_map]; rfl, by rw [List.length_map, ← hlen]; exact hl, ?_⟩
    have ht : ∀ a xs, SqT X.K H2 a xs → SqT X.K (upd H2 p (.dK (mergeK [] (vs.map fun kv => (Sum.inr kv.1, kv.2))))) a xs := fun a xs h => sqT_upd (.inr ⟨_, hp2, fun _ z => HO.noConfusion z, fun _ _ z => HO.noConfusion z⟩) h
    have hf : ∀ a xs, Fz X.K H2 a xs → Fz X.K (upd H2 p (.dK (mergeK [] (vs.map fun kv => (Sum.inr kv.1, kv.2))))) a xs := fun a xs h => fz_upd (.inr ⟨_, hp2, fun _ z => HO.noConfusion z, fun _ _ z => HO.noConfusion z⟩) h
    have e3 : Ext X.K ρ H ρ2 (upd H2 p (.dK (mergeK [] (vs.map fun kv => (Sum.inr kv.1, kv.2))))) := by
      have e4 := ex.trans e2
      exact ⟨e4.pre, fun a xs h => ht a xs (e4.tup a xs h), fun a xs h => hf a xs (e4.frz a xs h), fun a o h hna hnt => by
        rw [upd_ne (ne_of_none h hp)]
        exact e4.frm a o h hna hnt, fun a h => kp_upd a (e4.kp a h)⟩
    have R3 : Rep X.K X.mg T ρ2 m2 (upd H2 p (.dK (mergeK [] (vs.map fun kv => (Sum.inr kv.1, kv.2))))) := R2.tf ht hf (fun a ha => upd_ne fun z => hpn2 (by rw [← z]; exact ha)) (tabs_upd (.inr ⟨_, hp2, noTab_dK⟩) R2.tab)
    have pr3 : Paired (fun (a : Nat × D) (b : Str × V) => T.wds[a.1]? = some b.1 ∧ RD X.K T ρ2 (upd H2 p (.dK (mergeK [] (vs.map fun kv => (Sum.inr kv.1, kv.2))))) a.2 b.2) kvs vs := Paired.mapP pr fun a b h => ⟨h.1, RD.tf ht hf _ _ h.2⟩
    refine ⟨ρ2, τ, m2, R3, l.ext e3, (PR.ext q2 e3).bind.imp fun k ρ4 m4 H4 e5 R4 q4 y ry => ?_⟩
    cases k with
    | wd n =>
      obtain ⟨x, hx, rfl⟩ := ry
      obtain ⟨d, hd', q5⟩ := PR.of R4 q4
      obtain ⟨v, hv, rv⟩ := (lastL_ok hn hx (Paired.mapP pr3 fun a b h => ⟨h.1, RD.ext e5 _ _ h.2⟩)).1 d hd'
      have hp4 := e5.frm _ _ (show (upd H2 p (.dK (mergeK [] (vs.map fun kv => (Sum.inr kv.1, kv.2))))) p = some _ from upd_same) hpn2 noTab_dK.1
      refine ⟨p, v, rfl, .inl ⟨_, .inr x, .inl hp4, rfl, ?_⟩, q5 v rv⟩
      rw [valV_merge, hv]
    | _ => exact False.elim q4
  · rw [if_neg hl] at q2
    exact False.elim q2
end
/-! ### a def's body -/
/-- N names, n parameters -/
def mkF (n N : Nat) (g : Sl → M → S) : List D → M → R D := fun ds m => if ds.length = n then toR (g (ds.map some ++ List.replicate (N - n) none) m) else .bad
theorem rsl_start {K : PySem.W.Frag} {T : Tb} {ρ : List Addr} {H : Hp} {N : List Str} {ds : List D} {vs : List V} (h : RDs K T ρ H ds vs) (hpn : T.pin = none) : RSl K T ρ H (ds.map some ++ List.replicate (N.length - ds.length) none) (L2.start N vs) := by
  refine ⟨by unfold L2.start; rw [List.length_append, List.length_append, List.length_map, List.length_map, List.length_replicate, List.length_replicate, h.len], fun i d q => ?_, fun p hp => by rw [hpn] at hp; cases hp⟩
  by_cases hi : i < ds.length
  · rw [List.getElem?_append_left (by simpa using hi), List.getElem?_map] at q
    cases e : ds[i]? with
    | none => rw [e] at q; cases q
    | some x =>
      rw [e] at q; cases q
      obtain ⟨v, hv, rv⟩ := h.get e
      refine ⟨v, ?_, rv⟩
      unfold L2.start
      rw [List.getElem?_append_left (by rw [List.length_map, h.len]; exact hi), List.getElem?_map, hv]
      rfl
  · rw [List.getElem?_append_right (by simpa using Nat.le_of_not_lt hi), List.getElem?_replicate] at q
    split at q <;> cases q
section
variable {P : Program} {w : World} {K : PySem.W.Frag} {mg : Str → Option Value} {base : Heap} {T : Tb}
theorem fnok_mk {x qual : Str} {st : Stmt} {f : Addr} {fd : FuncData} {N ps : List Str} {k : Nat} {g : Sl → M → S} (Fu : Fun K x qual st f fd) (Sc : FnScope N ps (defScope st)) (hb : Binds K fd ps [])
    (body : ∀ (cdv : Value) (A : Around) (outer : List Env) (s : Shared) (H : Hp) (E : XK), Room k (A.deeper (envOfC qual (defScope st) s.heap.objs.size f cdv)) → ISs (cxOf (L2.CX P w) P w K mg base N qual (defScope st) f cdv A outer s H E) T (defBody st) g) (hpn : T.pin = none := by rfl) :
    FnOk P w K mg base (L2.CX P w) (k + 1) f fd ps (spI K mg T ps.length (mkF ps.length N.length g)) := by
  refine Fu.okX Sc (fun vs H Q E ⟨ρ, ds, m, _, r, hl, _⟩ => by rw [r.len]; exact hl) fun cdv A outer s H vs Q E hr ⟨ρ, ds, m, R, r, hl, q⟩ =>
    ⟨rdS K mg T (fun c d _ H => E c d H) g, (body cdv A outer s H E hr).run _ (takes_of rfl rfl rfl rfl), ρ, _, m, R, rsl_start r hpn, ?_⟩
  unfold mkF at q
  rw [if_pos hl] at q
  rw [← hl] at q
  cases hg : g (ds.map some ++ List.replicate (N.length - ds.length) none) m with
  | nx τ' m' => rw [hg] at q; exact fun ρ' σ' H' e R' l => q ρ' H' e R' .non rfl
  | rt d m' => rw [hg] at q; exact fun ρ' v H' e R' rv => q ρ' H' e R' v rv
  | ex y p τ' m' => rw [hg] at q; exact fun ρ' σ' H' C dd e R' l rx => q ρ' H' C dd e R' rx
  | bk τ' m' => rw [hg] at q; exact False.elim q
  | ct τ' m' => rw [hg] at q; exact False.elim q
  | bad => rw [hg] at q; exact False.elim q
theorem fn_mk {x qual : Str} {st : Stmt} {f : Addr} {fd : FuncData} {N ps : List Str} {k : Nat} {g : Sl → M → S} (Fu : Fun K x qual st f fd) (Sc : FnScope N ps (defScope st)) (hb : Binds K fd ps [])
    (body : ∀ (cdv : Value) (A : Around) (outer : List Env) (s : Shared) (H : Hp) (E : XK), Room k (A.deeper (envOfC qual (defScope st) s.heap.objs.size f cdv)) → ISs (cxOf (L2.CX P w) P w K mg base N qual (defScope st) f cdv A outer s H E) T (defBody st) g) (hpn : T.pin = none := by rfl) :
    Fn P w K mg base T (k + 1) f ps.length (mkF ps.length N.length g) := ⟨fd, ps, rfl, hb, fnok_mk Fu Sc hb body hpn⟩
/-- a promise that is never asked -/
theorem fn_bad {x qual : Str} {st : Stmt} {f : Addr} {fd : FuncData} {N ps : List Str} {k : Nat} (Fu : Fun K x qual st f fd) (Sc : FnScope N ps (defScope st)) (hb : Binds K fd ps []) (hpn : T.pin = none := by rfl) : Fn P w K mg base T (k + 1) f ps.length (fun _ _ => .bad) := by
  have h : Fn P w K mg base T (k + 1) f ps.length (mkF ps.length N.length (fun _ _ => .bad)) := fn_mk Fu Sc hb (fun cdv A outer s H E hr => ⟨fun W _ => ⟨fun pins s σ H E' I ⟨ρ, τ, m, R, l, q⟩ => False.elim q⟩⟩) hpn
  have e : mkF ps.length N.length (fun _ _ => S.bad) = fun _ _ => R.bad := by
    funext ds m
    unfold mkF
    split <;> rfl
  rw [e] at h
  exact h
theorem rds_ints {ρ : List Addr} {H : Hp} : ∀ ns : List Int, RDs K T ρ H (ns.map D.int) (ns.map V.int)
  | [] => rfl
  | n :: ns => ⟨.int n, ns.map V.int, rfl, rfl, rds_ints ns⟩
end
end Sh

set_option Elab.async false
set_option linter.all false
set_option autoImplicit false
set_option maxRecDepth 100000
set_option maxHeartbeats 2000000
namespace Sh
open PySem PySem.Spec PyProof.Rows L2
abbrev gLt : M → D → D → Option D := gB fun i j => decide (i < j)
abbrev gLe : M → D → D → Option D := gB fun i j => decide (i ≤ j)
abbrev gGt : M → D → D → Option D := gB fun i j => decide (j < i)
abbrev gGe : M → D → D → Option D := gB fun i j => decide (j ≤ i)
section
variable {X : Cx} {T : Tb} {e a : Expr} {pos : Pos} {x : Str}
def eNeg (f : Sl → M → R D) : Sl → M → R D := fun τ m => (f τ m).bind fun d m1 => match d with
  | .int i => .ok (.int (-i)) m1
  | _ => .bad
theorem ie_neg {f : Sl → M → R D} (h : IE X T a f) : IE X T (.UnaryOp .USub a pos) (eNeg f) :=
  ⟨fun W tk => pe_imp (pe_un un_neg (h.run W tk)) fun σ H Q ⟨ρ, τ, m, R, l, q⟩ => ⟨ρ, τ, m, R, l, q.bind.imp fun d ρ1 m1 H1 e1 R1 q1 v rv => by
    cases d with
    | int i => exact ⟨i, rv, PR.ok R1 q1 _ rfl⟩
    | _ => exact False.elim q1⟩⟩
/-- a number of the module -/
theorem ie_cint {i : Int} (h : ∃ t, X.mg x = some (.int i t)) (hg : Gl X x := by rfl) (hd : (x == ("__debug__" : Str)) = false := by decide) : IE X T (.Name x pos) (eC (.int i)) := by
  obtain ⟨t, h⟩ := h
  exact ie_con (v := .int i) (pe_glob hg h ⟨t, rfl⟩ hd) fun _ _ => rfl
/-- a type -/
theorem ie_ty {t : Ty} (h : X.mg x = none) (hb : bootBuiltins x = some (.type t.name)) (hg : Gl X x := by rfl) (hn : x ≠ "__name__" := by decide) (hd : (x == ("__debug__" : Str)) = false := by decide) : IE X T (.Name x pos) (eC (.ty t)) :=
  ie_con (pe_bltn (v := .ty t.name) hg h hb rfl hn hd) fun _ _ => rfl
end
end Sh

set_option linter.all false
set_option autoImplicit false
namespace Sh
open PySem L2
/-! rows that simp runs -/
section
variable {α β : Type} {m : M} {τ : Sl} {i k n N c nf : Nat} {d x y : D} {f g fa fb fo : Sl → M → R D}
@[simp] theorem bind_ok {a : α} {g : α → M → R β} : (R.ok a m).bind g = g a m := rfl
@[simp] theorem bind_ex {x : Nat} {p : List D} {g : α → M → R β} : (R.ex x p m : R α).bind g = .ex x p m := rfl
@[simp] theorem bind_bad {g : α → M → R β} : (R.bad : R α).bind g = .bad := rfl
@[simp] theorem of_some {a : α} : R.of (some a) m = .ok a m := rfl
@[simp] theorem of_none : R.of (none : Option α) m = .bad := rfl
@[simp] theorem bS_ok {a : α} {k : α → M → S} : bS (.ok a m) τ k = k a m := rfl
@[simp] theorem bS_ex {x : Nat} {p : List D} {k : α → M → S} : bS (.ex x p m) τ k = .ex x p τ m := rfl
@[simp] theorem bS_bad {k : α → M → S} : bS .bad τ k = .bad := rfl
@[simp] theorem toR_nx : toR (.nx τ m) = .ok .non m := rfl
@[simp] theorem toR_rt : toR (.rt d m) = .ok d m := rfl
@[simp] theorem toR_ex {x : Nat} {p : List D} : toR (.ex x p τ m) = .ex x p m := rfl
@[simp] theorem toR_bad : toR .bad = .bad := rfl
@[simp] theorem eC_eq : eC d τ m = .ok d m := rfl
@[simp] theorem eVar_eq : eVar i τ m = match τ[i]? with
  | some (some d) => .ok d m
  | _ => .bad := rfl
@[simp] theorem eOp_eq {g : M → D → D → Option D} : eOp g fa fb τ m = (fa τ m).bind fun x m1 => (fb τ m1).bind fun y m2 => R.of (g m2 x y) m2 := rfl
@[simp] theorem gI_eq {f : Int → Int → Int} {i j : Int} : gI f m (.int i) (.int j) = some (.int (f i j)) := rfl
@[simp] theorem gB_eq {f : Int → Int → Bool} {i j : Int} : gB f m (.int i) (.int j) = some (.bl (f i j)) := rfl
@[simp] theorem gIc_eq {C : Int → Int → Bool} {f : Int → Int → Int} {i j : Int} : gIc C f m (.int i) (.int j) = if C i j = true then some (.int (f i j)) else none := rfl
@[simp] theorem gEq_ii {i j : Int} : gEq m (.int i) (.int j) = some (.bl (decide (i = j))) := rfl
@[simp] theorem gEq_ww {i j : Nat} : gEq m (.wd i) (.wd j) = some (.bl (decide (i = j))) := rfl
@[simp] theorem gEq_bb {i j : Bool} : gEq m (.bl i) (.bl j) = some (.bl (decide (i = j))) := rfl
@[simp] theorem gNe_ii {i j : Int} : gNe m (.int i) (.int j) = some (.bl (!decide (i = j))) := rfl
@[simp] theorem gNe_ww {i j : Nat} : gNe m (.wd i) (.wd j) = some (.bl (!decide (i = j))) := rfl
@[simp] theorem gNe_bb {i j : Bool} : gNe m (.bl i) (.bl j) = some (.bl (!decide (i = j))) := rfl
@[simp] theorem gIs_eq : gIs m x .non = some (.bl (isNon x)) := rfl
@[simp] theorem gIsN_eq : gIsN m x .non = some (.bl (!isNon x)) := rfl
@[simp] theorem isNon_non : isNon .non = true := rfl
@[simp] theorem isNon_bl {b : Bool} : isNon (.bl b) = false := rfl
@[simp] theorem isNon_int {b : Int} : isNon (.int b) = false := rfl
@[simp] theorem isNon_wd {b : Nat} : isNon (.wd b) = false := rfl
@[simp] theorem isNon_tup {b : List D} : isNon (.tup b) = false := rfl
@[simp] theorem isNon_obj {b : Nat} : isNon (.obj b) = false := rfl
def asBk {γ : Type} (z : γ) (d : D) (k : Bool → γ) : γ := match d with
  | .bl b => k b
  | _ => z
@[simp] theorem asBk_bl {γ : Type} {z : γ} {b : Bool} {k : Bool → γ} : asBk z (.bl b) k = k b := rfl
@[simp] theorem asB_bl {b : Bool} : asB (.bl b) m = .ok b m := rfl
@[simp] theorem tB_eq : tB f τ m = (f τ m).bind asB := rfl
@[simp] theorem tAnd_eq {f g : Sl → M → R Bool} : tAnd f g τ m = (f τ m).bind fun b m1 => if b = true then g τ m1 else .ok false m1 := rfl
@[simp] theorem tOr_eq {f g : Sl → M → R Bool} : tOr f g τ m = (f τ m).bind fun b m1 => if b = true then .ok true m1 else g τ m1 := rfl
@[simp] theorem tNot_eq {f : Sl → M → R Bool} : tNot f τ m = (f τ m).bind fun b m1 => .ok (!b) m1 := rfl
@[simp] theorem eAnd_eq : eAnd f g τ m = (f τ m).bind fun d m1 => asBk .bad d fun b => if b = true then g τ m1 else .ok (.bl false) m1 := by
  unfold eAnd; congr 1; funext d m1; cases d with
  | bl b => cases b <;> rfl
  | _ => rfl
@[simp] theorem eOr_eq : eOr f g τ m = (f τ m).bind fun d m1 => asBk .bad d fun b => if b = true then .ok (.bl true) m1 else g τ m1 := by
  unfold eOr; congr 1; funext d m1; cases d with
  | bl b => cases b <;> rfl
  | _ => rfl
@[simp] theorem eNot_eq : eNot f τ m = (f τ m).bind fun d m1 => asBk .bad d fun b => .ok (.bl (!b)) m1 := by
  rfl
@[simp] theorem eIf_eq {c : Sl → M → R Bool} : eIf c f g τ m = (c τ m).bind fun b m1 => if b = true then f τ m1 else g τ m1 := rfl
@[simp] theorem eNeg_eq : eNeg f τ m = (f τ m).bind fun d m1 => match d with
  | .int i => .ok (.int (-i)) m1
  | _ => .bad := rfl
@[simp] theorem eChain_eq {g g' : M → D → D → Option D} {fa fb fc : Sl → M → R D} : eChain g g' fa fb fc τ m = (fa τ m).bind fun x m1 => (fb τ m1).bind fun y m2 => (R.of (g m2 x y) m2).bind fun z m2 => asBk .bad z fun b => if b = true then (fc τ m2).bind fun z m3 => R.of (g' m3 y z) m3 else .ok (.bl false) m2 := by
  unfold eChain
  congr 1; funext x m1
  congr 1; funext y m2
  cases g m2 x y with
  | none => rfl
  | some z => cases z with
    | bl b => cases b <;> rfl
    | _ => rfl
@[simp] theorem lNil_eq : lNil τ m = .ok [] m := rfl
@[simp] theorem lCons_eq {g : Sl → M → R (List D)} : lCons f g τ m = (f τ m).bind fun x m1 => (g τ m1).bind fun xs m2 => .ok (x :: xs) m2 := rfl
@[simp] theorem eTup_eq {f : Sl → M → R (List D)} : eTup f τ m = (f τ m).bind fun xs m1 => if xs.length ≤ 1000 then .ok (.tup xs) m1 else .bad := rfl
@[simp] theorem lLst_eq {f : Sl → M → R (List D)} : lLst f τ m = (f τ m).bind fun xs m1 => if xs.length ≤ 1000 then .ok xs m1 else .bad := rfl
@[simp] theorem eNew_eq {f : Sl → M → R (List D)} : eNew f τ m = (f τ m).bind fun xs m1 => .ok (.obj m1.length) (m1 ++ [.lst xs]) := rfl
@[simp] theorem eIxL_eq {f : Sl → M → R (List D)} : eIxL f g τ m = (f τ m).bind fun xs m1 => (g τ m1).bind fun y m2 => match y with
  | .int i => R.of (L2.atI xs i) m2
  | _ => .bad := rfl
@[simp] theorem gIx_tup {xs : List D} {i : Int} : gIx m (.tup xs) (.int i) = L2.atI xs i := rfl
@[simp] theorem gIx_frl {xs : List D} {i : Int} : gIx m (.frl xs) (.int i) = L2.atI xs i := rfl
@[simp] theorem gIx_obj {k : Nat} {i : Int} : gIx m (.obj k) (.int i) = match m[k]? with
    | some (.lst xs) => L2.atI xs i
    | _ => none := rfl
@[simp] theorem at0 {x : D} {xs : List D} : L2.atI (x :: xs) 0 = some x := by simp [L2.atI, L2.ixN]
@[simp] theorem at1 {x y : D} {xs : List D} : L2.atI (x :: y :: xs) 1 = some y := by
  have h : (1 : Int) < (xs.length : Int) + 1 + 1 := by omega
  simp [L2.atI, L2.ixN, h]
@[simp] theorem at2 {x y z : D} {xs : List D} : L2.atI (x :: y :: z :: xs) 2 = some z := by
  have h : (2 : Int) < (xs.length : Int) + 1 + 1 + 1 := by omega
  simp [L2.atI, L2.ixN, h]
@[simp] theorem at3 {x y z w : D} {xs : List D} : L2.atI (x :: y :: z :: w :: xs) 3 = some w := by
  have h : (3 : Int) < (xs.length : Int) + 1 + 1 + 1 + 1 := by omega
  simp [L2.atI, L2.ixN, h]
@[simp] theorem eCB_eq {g : M → List D → Option D} {f : Sl → M → R (List D)} : eCB g f τ m = (f τ m).bind fun ds m1 => R.of (g m1 ds) m1 := rfl
@[simp] theorem gLen_eq : gLen m [x] = (itemsOf m x).map fun ys => .int ys.length := rfl
@[simp] theorem gTuple_eq : gTuple m [x] = (itemsOf m x).map .tup := rfl
@[simp] theorem gInt_i {i : Int} : gInt m [.int i] = some (.int i) := rfl
@[simp] theorem gInt_b {b : Bool} : gInt m [.bl b] = some (.int (if b then 1 else 0)) := rfl
@[simp] theorem gMin_eq {i j : Int} : gMin m [.int i, .int j] = some (.int (if j < i then j else i)) := rfl
@[simp] theorem items_tup {xs : List D} : itemsOf m (.tup xs) = some xs := rfl
@[simp] theorem items_frl {xs : List D} : itemsOf m (.frl xs) = some xs := rfl
@[simp] theorem items_obj {k : Nat} : itemsOf m (.obj k) = match m[k]? with
    | some (.lst xs) => some xs
    | _ => none := rfl
@[simp] theorem gIsi_eq {t : Ty} : gIsi m [x, .ty t] = if t = .none then none else (tyOf m x).map fun s => .bl (isT s t) := rfl
@[simp] theorem ty_non : tyOf m .non = some .none := rfl
@[simp] theorem ty_bl {b : Bool} : tyOf m (.bl b) = some .bool := rfl
@[simp] theorem ty_int {b : Int} : tyOf m (.int b) = some .int := rfl
@[simp] theorem ty_wd {b : Nat} : tyOf m (.wd b) = some .str := rfl
@[simp] theorem ty_tup {b : List D} : tyOf m (.tup b) = some .tuple := rfl
@[simp] theorem ty_frl {b : List D} : tyOf m (.frl b) = some .list := rfl
@[simp] theorem ty_obj {k : Nat} : tyOf m (.obj k) = match m[k]? with
    | some (.lst _) => some .list
    | _ => none := rfl
@[simp] theorem isT_eq {a b : Ty} : isT a b = (decide (a = b) || (decide (a = .bool) && decide (b = .int))) := rfl
@[simp] theorem eIsi2_eq {g : Sl → M → R (List D)} : eIsi2 f g τ m = (f τ m).bind fun x m1 => (g τ m1).bind fun ts m2 => if ts.length ≤ 1000 then R.of ((tyOf m2 x).bind fun s => (isTs s ts).map .bl) m2 else .bad := rfl
@[simp] theorem isTs_nil {a : Ty} : isTs a [] = some false := rfl
@[simp] theorem isTs_cons {a t : Ty} {r : List D} : isTs a (.ty t :: r) = if t = .none then none else if isT a t = true then (isTs a r).map fun _ => true else isTs a r := rfl
@[simp] theorem eCall_eq {F : List D → M → R D} {f : Sl → M → R (List D)} : eCall n F f τ m = (f τ m).bind fun ds m1 => if ds.length = n then F ds m1 else .bad := rfl
@[simp] theorem eMeth_eq {F : List D → M → R D} {f : Sl → M → R (List D)} : eMeth c n F fo f τ m = (fo τ m).bind fun d m1 => if isIns c m1 d = true then (f τ m1).bind fun ds m2 => if ds.length + 1 = n then F (d :: ds) m2 else .bad else .bad := rfl
@[simp] theorem isIns_obj {k : Nat} : isIns c m (.obj k) = match m[k]? with
    | some (.ins c' _) => decide (c' = c)
    | _ => false := rfl
@[simp] theorem eMake_eq {F : List D → M → R D} {f : Sl → M → R (List D)} : eMake c nf n F f τ m = (f τ m).bind fun ds m1 => if ds.length + 1 = n then (match F (.obj m1.length :: ds) (m1 ++ [.ins c (List.replicate nf none)]) with
  | .ok .non m2 => .ok (.obj m1.length) m2
  | _ => .bad) else .bad := rfl
@[simp] theorem eFld_eq : eFld c k fo τ m = (fo τ m).bind fun d m1 => match d with
  | .obj i => match m1[i]? with
    | some (.ins c' fs) => if c' = c then (match fs[k]? with
      | some (some d) => .ok d m1
      | _ => .bad) else .bad
    | _ => .bad
  | _ => .bad := rfl
@[simp] theorem sNx_eq : sNx τ m = .nx τ m := rfl
@[simp] theorem sBad_eq : sBad τ m = .bad := rfl
@[simp] theorem sSeq_eq {f g : Sl → M → S} : sSeq f g τ m = match f τ m with
  | .nx τ' m' => g τ' m'
  | r => r := rfl
@[simp] theorem sExpr_eq : sExpr f τ m = bS (f τ m) τ fun _ m1 => .nx τ m1 := rfl
@[simp] theorem sRet_eq : sRet f τ m = bS (f τ m) τ fun d m1 => .rt d m1 := rfl
@[simp] theorem sIf_eq {c : Sl → M → R Bool} {f g : Sl → M → S} : sIf c f g τ m = bS (c τ m) τ fun b m1 => if b = true then f τ m1 else g τ m1 := rfl
@[simp] theorem sSet_eq : sSet i f τ m = bS (f τ m) τ fun d m1 => .nx (τ.set i (some d)) m1 := rfl
@[simp] theorem gN_eq : gN i d τ m = .nx (τ.set i (some d)) m := rfl
@[simp] theorem gT_eq {is : List Nat} {xs : List D} : gT is (.tup xs) τ m = if xs.length = is.length then .nx (gNs is xs τ) m else .bad := rfl
@[simp] theorem gNs_nil : gNs [] [] τ = τ := rfl
@[simp] theorem gNs_cons {is : List Nat} {ds : List D} : gNs (i :: is) (d :: ds) τ = gNs is ds (τ.set i (some d)) := rfl
@[simp] theorem gS_eq {fi : Sl → M → R D} : gS fo fi d τ m = bS (fo τ m) τ fun x m1 => bS (fi τ m1) τ fun y m2 => match x, y with
  | .obj k, .int i => match m2[k]? with
    | some (.lst xs) => match ixN xs.length i with
      | some j => .nx τ (m2.set k (.lst (xs.set j d)))
      | none => .bad
    | _ => .bad
  | _, _ => .bad := rfl
@[simp] theorem sAsg_eq {g : D → Sl → M → S} : sAsg f g τ m = bS (f τ m) τ fun d m1 => match g d τ m1 with
  | .nx τ' m' => .nx τ' m'
  | .ex x p τ' m' => .ex x p τ' m'
  | _ => .bad := rfl
@[simp] theorem setF_obj {i : Nat} : setF c k (.obj i) d τ m = match m[i]? with
    | some (.ins c' fs) => if c' = c then .nx τ (m.set i (.ins c (fs.set k (some d)))) else .bad
    | _ => .bad := rfl
@[simp] theorem sFld_eq {fv : Sl → M → R D} : sFld c k fo fv τ m = bS (fv τ m) τ fun d m1 => bS (fo τ m1) τ fun x m2 => setF c k x d τ m2 := rfl
@[simp] theorem sFldA_eq {g : M → D → D → Option D} {fv : Sl → M → R D} : sFldA c k g fo fv τ m = bS (fo τ m) τ fun x m1 => bS (eFld c k (eC x) τ m1) τ fun d m2 => bS (fv τ m2) τ fun y m3 => bS (R.of (g m3 d y) m3) τ fun z m4 => setF c k x z τ m4 := rfl
@[simp] theorem sRaise_eq {y : Nat} : sRaise y τ m = .ex y [] τ m := rfl
@[simp] theorem sTry_eq {sub : Nat → Bool} {f g : Sl → M → S} : sTry sub f g τ m = match f τ m with
  | .ex y p τ' m' => if sub y = true then noEx (g τ' m') else .ex y p τ' m'
  | r => r := rfl
@[simp] theorem noEx_nx : noEx (.nx τ m) = .nx τ m := rfl
@[simp] theorem noEx_rt : noEx (.rt d m) = .rt d m := rfl
@[simp] theorem sMatch_eq {cs : List (Pt × (Sl → M → S))} : sMatch f cs τ m = bS (f τ m) τ fun d m1 => casesS cs d τ m1 := rfl
@[simp] theorem cases_nil : casesS [] d τ m = .nx τ m := rfl
@[simp] theorem cases_cons {p : Pt} {b : Sl → M → S} {r : List (Pt × (Sl → M → S))} : casesS ((p, b) :: r) d τ m = match pm p d with
    | none => .bad
    | some none => casesS r d τ m
    | some (some bs) => b (setAll bs τ) m := rfl
@[simp] theorem setAll_nil : setAll [] τ = τ := rfl
@[simp] theorem setAll_cons {r : List (Nat × D)} : setAll ((i, d) :: r) τ = setAll r (τ.set i (some d)) := rfl
@[simp] theorem pm_vww {i j : Nat} : pm (.val (.wd i)) (.wd j) = some (if decide (j = i) = true then some [] else none) := by simp [pm, eqS]
@[simp] theorem pm_non : pm .non d = some (if isNon d = true then some [] else none) := by simp [pm]
@[simp] theorem pm_cap : pm (.cap i) d = some (some [(i, d)]) := by simp [pm]
@[simp] theorem pm_wild : pm .wild d = some (some []) := by simp [pm]
@[simp] theorem pm_seq_tup {ps : List Pt} {xs : List D} : pm (.seq ps) (.tup xs) = if xs.length = ps.length then pmAll ps xs else some none := by simp [pm]
@[simp] theorem pm_seq_non {ps : List Pt} : pm (.seq ps) .non = some none := by simp [pm]
@[simp] theorem pm_or {ps : List Pt} : pm (.or ps) d = pmOr ps d := by simp [pm]
@[simp] theorem pmAll_nil : pmAll [] [] = some (some []) := by simp [pmAll]
@[simp] theorem pmAll_cons {p : Pt} {ps : List Pt} {xs : List D} : pmAll (p :: ps) (x :: xs) = match pm p x with
    | none => none
    | some none => some none
    | some (some bs) => match pmAll ps xs with
      | none => none
      | some none => some none
      | some (some cs) => some (some (bs ++ cs)) := by rw [pmAll] <;> rfl
@[simp] theorem pmOr_nil : pmOr [] x = some none := by rw [pmOr]
@[simp] theorem pmOr_cons {p : Pt} {ps : List Pt} : pmOr (p :: ps) x = match pm p x with
    | none => none
    | some none => pmOr ps x
    | some (some []) => some (some [])
    | some (some (_ :: _)) => none := by rw [pmOr] <;> rfl
@[simp] theorem lstAt_obj {k : Nat} : lstAt m (.obj k) = match m[k]? with
    | some (.lst xs) => some (k, xs)
    | _ => none := rfl
@[simp] theorem eApp_eq : eApp fo fa τ m = (fo τ m).bind fun d m1 => match lstAt m1 d with
  | some _ => (fa τ m1).bind fun y m2 => match lstAt m2 d with
    | some (k, xs) => if xs.length < 16777216 then .ok .non (m2.set k (.lst (xs ++ [y]))) else .bad
    | none => .bad
  | none => .bad := rfl
@[simp] theorem eClear_eq : eClear fo τ m = (fo τ m).bind fun d m1 => match lstAt m1 d with
  | some (k, _) => .ok .non (m1.set k (.lst []))
  | none => .bad := rfl
@[simp] theorem lOf_eq : lOf f τ m = (f τ m).bind fun d m1 => R.of (itemsOf m1 d) m1 := rfl
@[simp] theorem lCat_eq {f g : Sl → M → R (List D)} : lCat f g τ m = (f τ m).bind fun xs m1 => (g τ m1).bind fun ys m2 => if xs.length + ys.length ≤ 16777216 then .ok (xs ++ ys) m2 else .bad := rfl
@[simp] theorem lRep_eq {f : Sl → M → R (List D)} : lRep f g τ m = (f τ m).bind fun xs m1 => (g τ m1).bind fun y m2 => match y with
  | .int k => if decide (-(2 ^ 63) ≤ k ∧ k < 2 ^ 63 ∧ xs.length * k.toNat ≤ 16777216) = true then .ok (List.replicate k.toNat xs).flatten m2 else .bad
  | _ => .bad := rfl
@[simp] theorem eTupL_eq {f : Sl → M → R (List D)} : eTupL f τ m = (f τ m).bind fun xs m1 => .ok (.tup xs) m1 := rfl
@[simp] theorem eNil_eq {f : Sl → M → R (List D)} : eNil f τ m = (f τ m).bind fun xs m1 => if xs.all isIntD = true then .ok (.bl xs.isEmpty) m1 else .bad := rfl
@[simp] theorem iT_eq : iT f τ m = (f τ m).bind fun d m1 => match d with
  | .tup xs => .ok (xs, none) m1
  | _ => .bad := rfl
@[simp] theorem iO_eq : iO f τ m = (f τ m).bind fun d m1 => match lstAt m1 d with
  | some (k, xs) => .ok (xs, some k) m1
  | none => .bad := rfl
@[simp] theorem iN_eq {f : Sl → M → R (List D)} : iN f τ m = (f τ m).bind fun xs m1 => .ok (xs, none) m1 := rfl
@[simp] theorem iR_eq : iR f τ m = (f τ m).bind fun d m1 => match d with
  | .int n => if decide (-(2 ^ 62) ≤ n ∧ n < 2 ^ 62) = true then .ok (rangeFrom 0 n.toNat, none) m1 else .bad
  | _ => .bad := rfl
@[simp] theorem sFor_eq {g : D → Sl → M → S} {f : Sl → M → R Sq} {body : Sl → M → S} : sFor g f body τ m = bS (f τ m) τ fun s m1 => match s.2 with
  | none => loop g body s.1 τ m1
  | some k => loopO g body k s.1 s.1 τ m1 := rfl
@[simp] theorem lLc_eq {f : Sl → M → R Sq} {tt : Sl → M → R Bool} {te : Sl → M → R D} : lLc i f tt te τ m = (f τ m).bind fun s m1 => compG (okS s) i tt te τ s.1 [] m1 := rfl
@[simp] theorem eDlit_eq {f : Sl → M → R (List (Nat × D))} : eDlit f g τ m = (f τ m).bind fun kvs m1 => if kvs.length ≤ 15 then (g τ m1).bind fun k m2 => match k with
  | .wd n => R.of (lastL kvs n) m2
  | _ => .bad
  else .bad := rfl
@[simp] theorem dlNil_eq : dlNil τ m = .ok [] m := rfl
@[simp] theorem dlCons_eq {g : Sl → M → R (List (Nat × D))} : dlCons n f g τ m = (f τ m).bind fun d m1 => (g τ m1).bind fun r m2 => .ok ((n, d) :: r) m2 := rfl
@[simp] theorem lastL_nil : lastL [] n = none := rfl
@[simp] theorem lastL_cons {r : List (Nat × D)} : lastL ((k, d) :: r) n = match lastL r n with
    | some x => some x
    | none => if k = n then some d else none := rfl
@[simp] theorem lCut_eq {fl fh : Sl → M → R (Option Int)} : lCut f fl fh τ m = (f τ m).bind fun d m1 => (fl τ m1).bind fun lo m2 => (fh τ m2).bind fun hi m3 => match lstAt m3 d with
  | some (_, xs) => .ok (cutD xs lo hi) m3
  | none => .bad := rfl
@[simp] theorem oNo_eq : oNo τ m = .ok none m := rfl
@[simp] theorem oAt_eq : oAt f τ m = (f τ m).bind fun d m1 => match d with
  | .int i => .ok (some i) m1
  | _ => .bad := rfl
end
end Sh

set_option Elab.async false
set_option linter.all false
set_option autoImplicit false
set_option maxRecDepth 100000
set_option maxHeartbeats 2000000
namespace Sh
open PySem PySem.Spec PyProof.Rows L2
section
variable {X : Cx} {T : Tb} {e a b : Expr} {pos p p2 : Pos}
/-- t + u of tuples -/
def eCatT (f g : Sl → M → R D) : Sl → M → R D := fun τ m => (f τ m).bind fun x m1 => (g τ m1).bind fun y m2 => match x, y with
  | .tup xs, .tup ys => if xs.length + ys.length ≤ 1000 then .ok (.tup (xs ++ ys)) m2 else .bad
  | _, _ => .bad
theorem ie_catT {f g : Sl → M → R D} (ha : IE X T a f) (hb : IE X T b g) : IE X T (.BinOp a .Add b pos) (eCatT f g) :=
  ⟨fun W tk => pe_imp (pe_op op_catA (ha.run W tk) (hb.run W tk)) fun σ H Q ⟨ρ, τ, m, R, l, q⟩ => ⟨ρ, τ, m, R, l, q.bind.imp fun x ρ1 m1 H1 e1 R1 q1 v rv =>
    ⟨ρ1, τ, m1, R1, l.ext e1, q1.bind.imp fun y ρ2 m2 H2 e2 R2 q2 u ru => by
      have rv2 := RD.ext e2 _ _ rv
      cases x with
      | tup xs =>
        cases y with
        | tup ys =>
          have q3 : PR X.K X.mg T W σ ρ2 H2 (if xs.length + ys.length ≤ 1000 then .ok (D.tup (xs ++ ys)) m2 else .bad) _ := q2
          by_cases hl : xs.length + ys.length ≤ 1000
          · rw [if_pos hl] at q3
            obtain ⟨a0, vs, rfl, hs, hr⟩ := rv2
            obtain ⟨b0, ws, rfl, hs2, hr2⟩ := ru
            refine ⟨a0, b0, vs, ws, rfl, rfl, hs, hs2, line1000 (by rw [hr.len, hr2.len]; exact hl), fun z => ?_, fun _ z => ?_, fun _ z p hp => ?_⟩
            · rw [z] at hr
              have hx : xs = [] := List.eq_nil_of_length_eq_zero hr.len.symm
              subst hx
              exact q3 ρ2 _ (Ext.refl) R2 (.ref b0) ⟨b0, ws, rfl, hs2, hr2⟩
            · rw [z] at hr2
              have hy : ys = [] := List.eq_nil_of_length_eq_zero hr2.len.symm
              subst hy
              exact q3 ρ2 _ (Ext.refl) R2 (.ref a0) ⟨a0, vs, rfl, hs, by rw [List.append_nil]; exact hr⟩
            · have ex : Ext X.K ρ2 H2 ρ2 (upd H2 p (.tup (vs ++ ws))) := Ext.new hp
              exact q3 ρ2 _ ex (R2.new hp) (.ref p) ⟨p, vs ++ ws, rfl, .inl (.inl upd_same), RDs.ext ex _ _ (hr.app hr2)⟩
          · rw [if_neg hl] at q3
            exact False.elim q3
        | _ => exact False.elim q2
      | _ => exact False.elim q2⟩⟩⟩
/-- t[lo:hi] of a tuple -/
def eCutT (f : Sl → M → R D) (fl fh : Sl → M → R (Option Int)) : Sl → M → R D := fun τ m => (f τ m).bind fun d m1 => (fl τ m1).bind fun lo m2 => (fh τ m2).bind fun hi m3 => match d with
  | .tup xs => .ok (.tup (cutD xs lo hi)) m3
  | _ => .bad
theorem ie_cutT {f : Sl → M → R D} {fl fh : Sl → M → R (Option Int)} {lo hi : Option Expr} (ha : IE X T a f) (hl : IO X T lo fl) (hh : IO X T hi fh) : IE X T (.Subscript a (.Slice lo hi none p2) pos) (eCutT f fl fh) :=
  ⟨fun W tk => pe_imp (pe_slice sl_tupA (ha.run W tk) (hl.run W tk) (hh.run W tk)) fun σ H Q ⟨ρ, τ, m, R, l, q⟩ => ⟨ρ, τ, m, R, l, q.bind.imp fun d ρ1 m1 H1 e1 R1 q1 v rv =>
    ⟨ρ1, τ, m1, R1, l.ext e1, q1.bind.imp fun lo ρ2 m2 H2 e2 R2 q2 => ⟨ρ2, τ, m2, R2, (l.ext e1).ext e2, q2.bind.imp fun hi ρ3 m3 H3 e3 R3 q3 => by
      cases d with
      | tup xs =>
        have q4 : PR X.K X.mg T W σ ρ3 H3 (.ok (D.tup (cutD xs lo hi)) m3) _ := q3
        obtain ⟨a0, vs, rfl, hs, hr⟩ := RD.ext e3 _ _ (RD.ext e2 _ _ rv)
        refine ⟨a0, vs, rfl, hs, fun hw => ?_, fun hw p hp => ?_⟩
        · have hc : cutD xs lo hi = xs := by
            unfold cutD
            rw [hr.len] at hw
            rw [hw.1, hw.2, List.drop_zero, Nat.sub_zero, List.take_length]
          exact q4 ρ3 _ (Ext.refl) R3 (.ref a0) ⟨a0, vs, rfl, hs, by rw [hc]; exact hr⟩
        · have ex : Ext X.K ρ3 H3 ρ3 (upd H3 p (.tup (cutV vs lo hi))) := Ext.new hp
          exact q4 ρ3 _ ex (R3.new hp) (.ref p) ⟨p, _, rfl, .inl (.inl upd_same), RDs.ext ex _ _ (hr.cut lo hi)⟩
      | _ => exact False.elim q3⟩⟩⟩⟩
/-- xs + ys, xs a list of the store -/
def lCatV (f : Sl → M → R D) (g : Sl → M → R (List D)) : Sl → M → R (List D) := fun τ m => (f τ m).bind fun d m1 => (g τ m1).bind fun ys m2 => match lstAt m2 d with
  | some (_, xs) => if xs.length + ys.length ≤ 16777216 then .ok (xs ++ ys) m2 else .bad
  | none => .bad
theorem il_catV {f : Sl → M → R D} {g : Sl → M → R (List D)} (ha : IE X T a f) (hb : IL X T b g) : IL X T (.BinOp a .Add b pos) (lCatV f g) :=
  ⟨fun W tk => pe_imp (pe_op op_cat (ha.run W tk) (hb.run W tk)) fun σ H Q ⟨ρ, τ, m, R, l, q⟩ => ⟨ρ, τ, m, R, l, q.bind.imp fun d ρ1 m1 H1 e1 R1 q1 v rv =>
    ⟨ρ1, τ, m1, R1, l.ext e1, q1.bind.imp fun ys ρ2 m2 H2 e2 R2 q2 p2 ws hp02 hp2 hn2 rws => by
      cases h1 : lstAt m2 d with
      | none => rw [h1] at q2; exact False.elim q2
      | some pr =>
        rw [h1] at q2
        obtain ⟨k, xs⟩ := pr
        obtain ⟨a0, vs, _, _, _, rfl, hH, hr⟩ := lstAt_ok R2 (RD.ext e2 _ _ rv) h1
        have q3 : PR X.K X.mg T W σ ρ2 H2 (if xs.length + ys.length ≤ 16777216 then .ok (xs ++ ys) m2 else .bad) _ := q2
        by_cases hl : xs.length + ys.length ≤ 16777216
        · rw [if_pos hl] at q3
          refine ⟨a0, p2, vs, ws, rfl, rfl, hH, hp2, by rw [hr.len, rws.len, sizeLine_eq]; exact hl, fun p3 hp3 => ?_⟩
          have ex : Ext X.K ρ2 H2 ρ2 (upd H2 p3 (.lst (vs ++ ws))) := Ext.new hp3
          exact q3 ρ2 _ ex (R2.new hp3) p3 _ (new_none (e1.trans e2) hp3) upd_same (R2.notin hp3) (RDs.ext ex _ _ (hr.app rws))
        · rw [if_neg hl] at q3
          exact False.elim q3⟩⟩⟩
/-- list(range(n)) -/
def lRg (f : Sl → M → R D) : Sl → M → R (List D) := fun τ m => (f τ m).bind fun d m1 => match d with
  | .int n => if 0 ≤ n ∧ n ≤ 1000000 then .ok (rangeFrom 0 n.toNat) m1 else .bad
  | _ => .bad
theorem rds_rg {K : PySem.W.Frag} {ρ : List Addr} {H : Hp} : ∀ (ks : List Nat), RDs K T ρ H (ks.map fun k => D.int (0 + (k : Nat))) (ks.map fun i => V.int (0 + (i : Nat)))
  | [] => rfl
  | k :: ks => ⟨_, _, rfl, rfl, rds_rg ks⟩
theorem il_rg {f : Sl → M → R D} {p1 : Pos} (hc : X.calm = true) (hm : X.mg "list" = none) (hm2 : X.mg "range" = none) (ha : IE X T a f) (hg : Gl X "list" := by rfl) (hg2 : Gl X "range" := by rfl)
    (na : starEach [a] X.env = (false, eval a X.env) :: starEach [] X.env := by rfl) (nb : starEach [(Expr.Call (.Name "range" p1) [a] [] p2)] X.env = (false, eval (Expr.Call (.Name "range" p1) [a] [] p2) X.env) :: starEach [] X.env := by rfl) :
    IL X T (.Call (.Name "list" p) [.Call (.Name "range" p1) [a] [] p2] [] pos) (lRg f) :=
  ⟨fun W tk => pe_imp (pe_listRg hc hg hm (prg_1 hg2 hm2 (ha.run W tk) na) nb) fun σ H Q ⟨ρ, τ, m, R, l, q⟩ => ⟨ρ, τ, m, R, l, q.bind.imp fun d ρ1 m1 H1 e1 R1 q1 v rv => by
    cases d with
    | int n =>
      have rv' : v = .int n := rv
      subst rv'
      have q2 : PR X.K X.mg T W σ ρ1 H1 (if 0 ≤ n ∧ n ≤ 1000000 then .ok (rangeFrom 0 n.toNat) m1 else .bad) _ := q1
      by_cases h : 0 ≤ n ∧ n ≤ 1000000
      · rw [if_pos h] at q2
        refine ⟨n, rfl, RgOk.of_le (by omega) (by omega) (by omega) (by omega), fun p3 hp3 => ?_⟩
        have ex : Ext X.K ρ1 H1 ρ1 (upd H1 p3 (.lst (rgV 0 n))) := Ext.new hp3
        refine q2 ρ1 _ ex (R1.new hp3) p3 _ (new_none e1 hp3) upd_same (R1.notin hp3) ?_
        unfold rangeFrom rgV
        rw [Int.sub_zero]
        exact rds_rg _
      · rw [if_neg h] at q2; exact False.elim q2
    | _ => exact False.elim q1⟩⟩
@[simp] theorem eCatT_eq {f g : Sl → M → R D} {τ : Sl} {m : M} : eCatT f g τ m = (f τ m).bind fun x m1 => (g τ m1).bind fun y m2 => match x, y with
  | .tup xs, .tup ys => if xs.length + ys.length ≤ 1000 then .ok (.tup (xs ++ ys)) m2 else .bad
  | _, _ => .bad := rfl
@[simp] theorem eCutT_eq {f : Sl → M → R D} {fl fh : Sl → M → R (Option Int)} {τ : Sl} {m : M} : eCutT f fl fh τ m = (f τ m).bind fun d m1 => (fl τ m1).bind fun lo m2 => (fh τ m2).bind fun hi m3 => match d with
  | .tup xs => .ok (.tup (cutD xs lo hi)) m3
  | _ => .bad := rfl
@[simp] theorem lCatV_eq {f : Sl → M → R D} {g : Sl → M → R (List D)} {τ : Sl} {m : M} : lCatV f g τ m = (f τ m).bind fun d m1 => (g τ m1).bind fun ys m2 => match lstAt m2 d with
  | some (_, xs) => if xs.length + ys.length ≤ 16777216 then .ok (xs ++ ys) m2 else .bad
  | none => .bad := rfl
@[simp] theorem lRg_eq {f : Sl → M → R D} {τ : Sl} {m : M} : lRg f τ m = (f τ m).bind fun d m1 => match d with
  | .int n => if 0 ≤ n ∧ n ≤ 1000000 then .ok (rangeFrom 0 n.toNat) m1 else .bad
  | _ => .bad := rfl
end
end Sh

set_option Elab.async false
set_option linter.all false
set_option autoImplicit false
set_option maxRecDepth 100000
set_option maxHeartbeats 2000000
namespace Sh
open PySem PySem.Spec PyProof.Rows L2
section
variable {X : Cx} {T : Tb} {e a b o i : Expr} {rest : List Expr} {pos p p2 pos' dpos : Pos}
/-! ### a or b, by truth: of None, tuples -/
def eOrT (f g : Sl → M → R D) : Sl → M → R D := fun τ m => (f τ m).bind fun d m1 => match d with
  | .non => g τ m1
  | .tup (x :: xs) => .ok (.tup (x :: xs)) m1
  | _ => .bad
theorem ie_orT {f g : Sl → M → R D} (ha : IE X T a f) (hb : IE X T (.BoolOp .Or (b :: rest) pos) g) : IE X T (.BoolOp .Or (a :: b :: rest) pos) (eOrT f g) :=
  ⟨fun W tk => pe_imp (pe_orT (ha.run W tk) (hb.run W tk)) fun σ H Q ⟨ρ, τ, m, R, l, q⟩ => ⟨ρ, τ, m, R, l, q.bind.imp fun d ρ1 m1 H1 e1 R1 q1 v rv => by
    cases d with
    | non =>
      have rv' : v = .non := rv
      subst rv'
      exact ⟨false, rfl, (if_neg Bool.false_ne_true).mpr ⟨ρ1, τ, m1, R1, l.ext e1, q1⟩⟩
    | tup xs =>
      cases xs with
      | nil => exact False.elim q1
      | cons x xs =>
        have q2 : PR X.K X.mg T W σ ρ1 H1 (.ok (D.tup (x :: xs)) m1) _ := q1
        obtain ⟨a0, vs, rfl, hs, hr⟩ := id rv
        refine ⟨true, .inr (.inl ⟨vs, hs, ?_⟩), (if_pos rfl).mpr (PR.ok R1 q2 _ rv)⟩
        obtain ⟨w, r, rfl, _⟩ := hr
        rfl
    | _ => exact False.elim q1⟩⟩
/-! ### None in xs, of ints and None -/
def isNI : D → Bool
  | .non => true
  | .int _ => true
  | _ => false
def gNoneIn : M → D → D → Option D := fun m x y => match x, itemsOf m y with
  | .non, some ys => if ys.all isNI = true then some (.bl (ys.any isNon)) else none
  | _, _ => none
theorem none_in {K : PySem.W.Frag} {ρ : List Addr} {H : Hp} : ∀ {ys : List D} {vs : List V}, RDs K T ρ H ys vs → ys.all isNI = true → vs.all flatV = true ∧ inV .non vs = ys.any isNon
  | [], vs, r, _ => by
    have r' : vs = [] := r
    subst r'
    exact ⟨rfl, rfl⟩
  | d :: ys, vs, r, h => by
    obtain ⟨v, w, rfl, rv, rw⟩ := r
    rw [List.all_cons, Bool.and_eq_true] at h
    obtain ⟨h1, h2⟩ := none_in rw h.2
    have h3 : inV .non (v :: w) = (eqV v .non || inV .non w) := rfl
    cases d with
    | non =>
      have rv' : v = .non := rv
      subst rv'
      exact ⟨by rw [List.all_cons, h1]; rfl, by rw [h3, h2, List.any_cons]; rfl⟩
    | int k =>
      have rv' : v = .int k := rv
      subst rv'
      exact ⟨by rw [List.all_cons, h1]; rfl, by rw [h3, h2, List.any_cons]; rfl⟩
    | _ => exact absurd h.1 Bool.false_ne_true
theorem o_noneIn : OpS X T (compareOp .In) gNoneIn := ⟨_, op_in_seq, fun ρ m H x y d v u Q R rx ry hd q => by
  cases x with
  | non =>
    have rx' : v = .non := rx
    subst rx'
    unfold gNoneIn at hd
    cases e : itemsOf m y with
    | none => rw [e] at hd; cases hd
    | some ys =>
      rw [e] at hd
      dsimp only at hd
      by_cases h : ys.all isNI = true
      · rw [if_pos h] at hd
        cases hd
        obtain ⟨a, vs, rfl, hs, hr⟩ := items_ok R ry e
        obtain ⟨h1, h2⟩ := none_in hr h
        exact ⟨a, vs, rfl, hs, rfl, h1, q _ (by rw [if_neg Bool.false_ne_true, h2]; rfl)⟩
      · rw [if_neg h] at hd; cases hd
  | _ => cases hd⟩
/-! ### dicts by words -/
def putL (kds : List (Nat × D)) (n : Nat) (d : D) : List (Nat × D) := kds.map fun p => if p.1 = n then (p.1, d) else p
theorem lastL_put (n j : Nat) (d : D) : ∀ (kds : List (Nat × D)), lastL (putL kds n d) j = if j = n then (lastL kds n).map fun _ => d else lastL kds j
  | [] => by by_cases h : j = n <;> simp [putL, lastL, h]
  | (k, x) :: r => by
    have ih := lastL_put n j d r
    by_cases hk : k = n
    · have e : putL ((k, x) :: r) n d = (k, d) :: putL r n d := by simp [putL, hk]
      rw [e]
      simp only [lastL, ih]
      by_cases hj : j = n
      · subst hj
        simp only [if_pos rfl, if_pos hk]
        cases lastL r j <;> rfl
      · have : ¬ k = j := fun z => hj (z.symm.trans hk)
        simp only [if_neg hj, if_neg this]
    · have e : putL ((k, x) :: r) n d = (k, x) :: putL r n d := by simp [putL, hk]
      rw [e]
      simp only [lastL, ih]
      by_cases hj : j = n
      · subst hj
        simp only [if_pos rfl, if_neg hk]
        cases lastL r j <;> rfl
      · simp only [if_neg hj]
def gDk (m : M) (d : D) (n : Nat) : Option D := match d with
  | .obj k => match m[k]? with
    | some (.dct kds) => lastL kds n
    | _ => none
  | _ => none
def eDGet (f : Sl → M → R D) (n : Nat) : Sl → M → R D := fun τ m => (f τ m).bind fun d m1 => R.of (gDk m1 d n) m1
theorem ie_dget {f : Sl → M → R D} {x : Str} {j : Nat} (n : Nat) (hu : X.A.units + 1 < cLine) (ho : IE X T o f) (h : T.wds[n]? = some x := by rfl) (hs : NoSl (.Constant (.str x) j p2) := by exact fun _ _ => rfl) : IE X T (.Subscript o (.Constant (.str x) j p2) pos) (eDGet f n) :=
  ⟨fun W tk => pe_imp (pe_dget hu (ho.run W tk) pe_str hs) fun σ H Q ⟨ρ, τ, m, R, l, q⟩ => ⟨ρ, τ, m, R, l, q.bind.imp fun d ρ1 m1 H1 e1 R1 q1 v rv => by
    obtain ⟨y, hy, q2⟩ := PR.of R1 q1
    cases d with
    | obj k =>
      obtain ⟨a0, ha, rfl⟩ := rv
      cases em : m1[k]? with
      | none => simp [gDk, em] at hy
      | some w =>
        cases w with
        | dct kds =>
          have hy' : lastL kds n = some y := by simpa [gDk, em] using hy
          obtain ⟨kvs, h1, h2, h3⟩ := R1.at_ k _ a0 em ha
          obtain ⟨x', v, hx', hv, rd⟩ := h3 n y hy'
          rw [h] at hx'; cases hx'
          refine ⟨a0, v, rfl, .inl ⟨kvs, .inr x, .inl h1, rfl, hv.symm⟩, q2 v rd⟩
        | lst xs => simp [gDk, em] at hy
        | ins c fs => simp [gDk, em] at hy
    | _ => simp [gDk] at hy⟩⟩
theorem len_put {kvs : List (Key × V)} {k : Key} {v w : V} (h : valV kvs k = some w) : (putK kvs k v).length = kvs.length := by
  unfold putK
  have : (kvs.any fun kv => decide (kv.1 = k)) = true := by
    unfold valV at h
    cases e : kvs.find? (fun kv => decide (kv.1 = k)) with
    | none => rw [e] at h; cases h
    | some p =>
      rw [List.any_eq_true]
      exact ⟨p, List.mem_of_find?_eq_some e, List.find?_some (p := fun kv : Key × V => decide (kv.1 = k)) e⟩
  rw [if_pos this, List.length_map]
def sDPutM (fo : Sl → M → R D) (n : Nat) (fv : Sl → M → R D) : Sl → M → S := fun τ m => bS (fv τ m) τ fun d m1 => bS (fo τ m1) τ fun x m2 => match x with
  | .obj k => match m2[k]? with
    | some (.dct kds) => match lastL kds n with
      | some _ => .nx τ (m2.set k (.dct (putL kds n d)))
      | none => .bad
    | _ => .bad
  | _ => .bad
theorem is_dput {fo fv : Sl → M → R D} {x : Str} {j : Nat} (n : Nat) (hn : T.wds.Nodup) (hu : X.A.units + 1 < cLine) (ho : IE X T o fo) (hv : IE X T e fv) (h : T.wds[n]? = some x := by rfl) (hs : swapsWith e (some (.Subscript o (.Constant (.str x) j p2) pos')) pos.line X.env = pure false := by rfl) :
    IS X T (.Assign [.Subscript o (.Constant (.str x) j p2) pos'] e pos) (sDPutM fo n fv) :=
  ⟨fun W tk => ps_imp (ps_dput hu (ho.run W tk) pe_str (hv.run W tk) hs) fun σ H E ⟨ρ, τ, m, R, l, q⟩ => ⟨ρ, τ, m, R, l, (q.bindE l).imp fun d ρ1 m1 H1 e1 R1 q1 v rv => ⟨ρ1, τ, m1, R1, l.ext e1, (q1.bindE (l.ext e1)).imp fun y ρ2 m2 H2 e2 R2 q2 u ru => by
    have rd := RD.ext e2 _ _ rv
    have l2 := (l.ext e1).ext e2
    cases y with
    | obj k =>
      obtain ⟨a0, ha, rfl⟩ := ru
      cases em : m2[k]? with
      | none => simp only [em] at q2; exact False.elim q2
      | some w =>
        cases w with
        | dct kds =>
          simp only [em] at q2
          cases ek : lastL kds n with
          | none => rw [ek] at q2; exact False.elim q2
          | some z =>
            rw [ek] at q2
            obtain ⟨kvs, h1, h2, h3⟩ := R2.at_ k _ a0 em ha
            obtain ⟨x', w, hx', hw, _⟩ := h3 n z ek
            rw [h] at hx'; cases hx'
            have hm : a0 ∈ ρ2 := List.mem_of_getElem? ha
            have ex : Ext X.K ρ2 H2 ρ2 (upd H2 a0 (.dK (putK kvs (.inr x) v))) := Ext.write R2 hm
            refine ⟨a0, upd H2 a0 (.dK (putK kvs (.inr x) v)), rfl, .inl ⟨kvs, .inr x, h1, rfl, Nat.lt_of_le_of_lt h2 (by decide), rfl⟩, q2 ρ2 σ _ ex (R2.write ha ⟨_, upd_same, by rw [len_put hw]; exact h2, fun i d' hi => ?_⟩) (l2.ext ex)⟩
            rw [lastL_put] at hi
            by_cases hin : i = n
            · subst hin
              rw [if_pos rfl, ek] at hi
              cases hi
              exact ⟨x, v, h, by rw [valV_put, if_pos rfl], RD.ext ex _ _ rd⟩
            · rw [if_neg hin] at hi
              obtain ⟨x2, v2, g1, g2, g3⟩ := h3 i d' hi
              have : x2 ≠ x := fun z => hin (wd_inj hn g1 (by rw [h, z]))
              exact ⟨x2, v2, g1, by rw [valV_put, if_neg fun z => this (Sum.inr.inj z)]; exact g2, RD.ext ex _ _ g3⟩
        | lst xs => simp only [em] at q2; exact False.elim q2
        | ins c fs => simp only [em] at q2; exact False.elim q2
    | _ => exact False.elim q2⟩⟩⟩
theorem lastL_word {P : Nat × D → Str × V → Prop} {n : Nat} {d : D} {kvs : List (Nat × D)} {vs : List (Str × V)} (h : Paired (fun (a : Nat × D) (b : Str × V) => T.wds[a.1]? = some b.1 ∧ P a b) kvs vs) : lastL kvs n = some d → ∃ x, T.wds[n]? = some x := by
  induction h with
  | nil => intro e; cases e
  | @cons a b l₁ l₂ r t ih =>
    intro e
    obtain ⟨k, d0⟩ := a
    cases q : lastL l₁ n with
    | some z => exact ih (by simp only [lastL, q] at e; rw [q]; exact e)
    | none =>
      simp only [lastL, q] at e
      by_cases hk : k = n
      · subst hk; exact ⟨_, r.1⟩
      · rw [if_neg hk] at e; cases e
/-- {word: e, ..}, an object of the store -/
def eDNew (f : Sl → M → R (List (Nat × D))) : Sl → M → R D := fun τ m => (f τ m).bind fun kvs m1 => if kvs.length ≤ 15 then .ok (.obj m1.length) (m1 ++ [.dct kvs]) else .bad
theorem len_merge : ∀ (more kvs : List (Key × V)), (mergeK kvs more).length ≤ kvs.length + more.length
  | [], kvs => Nat.le_refl _
  | (k, d) :: r, kvs => by
    have ih := len_merge r (putK kvs k d)
    have h := length_putK kvs k d
    show (mergeK (putK kvs k d) r).length ≤ _
    rw [List.length_cons]; omega
theorem ie_dnew {keys : List (Option Expr)} {values : List Expr} {f : Sl → M → R (List (Nat × D))} {k0 : Option Expr} (hn : T.wds.Nodup) (hd : IDl X T dpos (k0 :: keys) values f) (h15 : (k0 :: keys).length ≤ 15 := by decide) :
    IE X T (.Dict (k0 :: keys) values dpos) (eDNew f) := by
  refine ⟨fun W tk => ?_⟩
  obtain ⟨trs, h1, h2⟩ := hd.run W tk
  refine pe_imp (pe_disp h1 hd.all hd.len (by simp) h15) fun σ H Q ⟨ρ, τ, m, R, l, q⟩ => ?_
  intro p hp
  have ex : Ext X.K ρ H ρ (upd H p (.dK [])) := Ext.new hp
  have hpn : p ∉ ρ := R.notin hp
  refine h2 σ ρ τ m _ _ _ (R.new hp) (l.ext ex) (PR.ext (PR.bind0 q) ex) fun kvs ρ2 m2 vs H2 e2 R2 pr q2 => ?_
  have hp2 : H2 p = some (.dK []) := e2.frm _ _ upd_same hpn noTab_dK.1
  have hpn2 : p ∉ ρ2 := by
    obtain ⟨t, et, ht2⟩ := e2.pre
    rw [et]
    intro hm
    rcases List.mem_append.mp hm with z | z
    · exact hpn z
    · have := ht2 p z
      rw [upd_same] at this; cases this
  have hlen : kvs.length = vs.length := Paired.length pr
  by_cases hl : kvs.length ≤ 15
  · rw [if_pos hl] at q2
    refine ⟨hp2, vs.map (fun kv => (Sum.inr kv.1, kv.2)), by rw [List.map_map]; rfl, by rw [List.length_map, ← hlen]; exact hl, ?_⟩
    have ht : ∀ a xs, SqT X.K H2 a xs → SqT X.K (upd H2 p (.dK (mergeK [] (vs.map fun kv => (Sum.inr kv.1, kv.2))))) a xs := fun a xs h => sqT_upd (.inr ⟨_, hp2, fun _ z => HO.noConfusion z, fun _ _ z => HO.noConfusion z⟩) h
    have hf : ∀ a xs, Fz X.K H2 a xs → Fz X.K (upd H2 p (.dK (mergeK [] (vs.map fun kv => (Sum.inr kv.1, kv.2))))) a xs := fun a xs h => fz_upd (.inr ⟨_, hp2, fun _ z => HO.noConfusion z, fun _ _ z => HO.noConfusion z⟩) h
    have e3 : Ext X.K ρ H ρ2 (upd H2 p (.dK (mergeK [] (vs.map fun kv => (Sum.inr kv.1, kv.2))))) := by
      have e4 := ex.trans e2
      exact ⟨e4.pre, fun a xs h => ht a xs (e4.tup a xs h), fun a xs h => hf a xs (e4.frz a xs h), fun a o h hna hnt => by
        rw [upd_ne (ne_of_none h hp)]
        exact e4.frm a o h hna hnt, fun a h => kp_upd a (e4.kp a h)⟩
    have R3 : Rep X.K X.mg T ρ2 m2 (upd H2 p (.dK (mergeK [] (vs.map fun kv => (Sum.inr kv.1, kv.2))))) := R2.tf ht hf (fun a ha => upd_ne fun z => hpn2 (by rw [← z]; exact ha)) (tabs_upd (.inr ⟨_, hp2, noTab_dK⟩) R2.tab)
    have pr3 : Paired (fun (a : Nat × D) (b : Str × V) => T.wds[a.1]? = some b.1 ∧ RD X.K T ρ2 (upd H2 p (.dK (mergeK [] (vs.map fun kv => (Sum.inr kv.1, kv.2))))) a.2 b.2) kvs vs := Paired.mapP pr fun a b h => ⟨h.1, RD.tf ht hf _ _ h.2⟩
    have e5 := e3.adopt hp
    have R5 : Rep X.K X.mg T (ρ2 ++ [p]) (m2 ++ [.dct kvs]) (upd H2 p (.dK (mergeK [] (vs.map fun kv => (Sum.inr kv.1, kv.2))))) := R3.adopt hpn2 ⟨_, upd_same, by have := len_merge (vs.map fun kv : Str × V => ((Sum.inr kv.1, kv.2) : Key × V)) []; rw [List.length_map, ← hlen, List.length_nil] at this; omega, fun n d hnd => by
      have hx : ∃ x, T.wds[n]? = some x := lastL_word pr3 hnd
      obtain ⟨x, hx⟩ := hx
      obtain ⟨v, hv, rv⟩ := (lastL_ok hn hx pr3).1 d hnd
      exact ⟨x, v, hx, by rw [valV_merge, hv], RD.grow _ _ rv⟩⟩
    exact q2 _ _ e5 R5 (.ref p) ⟨p, by rw [← R3.len]; simp, rfl⟩
  · rw [if_neg hl] at q2
    exact False.elim q2
@[simp] theorem eOrT_eq {f g : Sl → M → R D} {τ : Sl} {m : M} : eOrT f g τ m = (f τ m).bind fun d m1 => match d with
  | .non => g τ m1
  | .tup (x :: xs) => .ok (.tup (x :: xs)) m1
  | _ => .bad := rfl
@[simp] theorem gDk_obj {m : M} {k n : Nat} : gDk m (.obj k) n = match m[k]? with
    | some (.dct kds) => lastL kds n
    | _ => none := rfl
@[simp] theorem eDGet_eq {f : Sl → M → R D} {n : Nat} {τ : Sl} {m : M} : eDGet f n τ m = (f τ m).bind fun d m1 => R.of (gDk m1 d n) m1 := rfl
@[simp] theorem sDPutM_eq {fo fv : Sl → M → R D} {n : Nat} {τ : Sl} {m : M} : sDPutM fo n fv τ m = bS (fv τ m) τ fun d m1 => bS (fo τ m1) τ fun x m2 => match x with
  | .obj k => match m2[k]? with
    | some (.dct kds) => match lastL kds n with
      | some _ => .nx τ (m2.set k (.dct (putL kds n d)))
      | none => .bad
    | _ => .bad
  | _ => .bad := rfl
@[simp] theorem eDNew_eq {f : Sl → M → R (List (Nat × D))} {τ : Sl} {m : M} : eDNew f τ m = (f τ m).bind fun kvs m1 => if kvs.length ≤ 15 then .ok (.obj m1.length) (m1 ++ [.dct kvs]) else .bad := rfl
@[simp] theorem putL_nil {n : Nat} {d : D} : putL [] n d = [] := rfl
@[simp] theorem putL_cons {n k : Nat} {x d : D} {r : List (Nat × D)} : putL ((k, x) :: r) n d = (if k = n then (k, d) else (k, x)) :: putL r n d := rfl
end
end Sh

set_option Elab.async false
set_option linter.all false
set_option autoImplicit false
set_option maxRecDepth 100000
set_option maxHeartbeats 4000000
namespace Sh
open PySem PySem.Spec PyProof.Rows L2
theorem tuple_mul0 (l : Addr) (items : Array Value) (n : Nat) (dd : Option Addr) (sl : Array (Option Value)) (u : Tok) (hi : items.isEmpty = false) :
    Meets (Builtin.«tuple.__mul__» ⟨[.ref l, .int 0 u], []⟩) (fun _ R s => s.heap.get? l = some { cls := .type "tuple", dict := dd, data := .seq items n, slots := sl } ∧
      R (.ok (.ret (Value.ref s.heap.objs.size))) { s with heap := s.heap.push { cls := Value.type "tuple", data := Data.seq #[] }, toks := s.toks }) :=
  .of_wp fun prog w A R s h => by
    obtain ⟨hp, g, d, tk, os⟩ := s
    obtain ⟨hl, h⟩ := h
    have f1 := AutoSeq1.idx_int
    wp_walk using wpAny_loadPart' hl
    repeat (first
      | (refine wpAny_ite_false (decide_eq_false (by rw [show (decide ((0 : Int) < -(2 ^ 63)) || decide ((0 : Int) ≥ 2 ^ 63)) = false by decide]; exact Bool.false_ne_true)) ?_; wp_walk using wpAny_loadPart' hl)
      | (refine wpAny_ite_false (decide_eq_false (by rw [hi]; exact Bool.false_ne_true)) ?_; wp_walk using wpAny_loadPart' hl)
      | (refine wpAny_ite_true (decide_eq_true (by rw [hi]; rfl)) ?_; wp_walk using wpAny_loadPart' hl)
      | (refine wpAny_ite_false (decide_eq_false (Nat.not_lt.mpr (Nat.zero_le _))) ?_; wp_walk using wpAny_loadPart' hl))
    exact ⟨_, rfl, h⟩
theorem tuple_mul1 (l : Addr) (items : Array Value) (n : Nat) (dd : Option Addr) (sl : Array (Option Value)) (u : Tok) (hi : items.isEmpty = false) :
    Meets (Builtin.«tuple.__mul__» ⟨[.ref l, .int 1 u], []⟩) (fun _ R s => s.heap.get? l = some { cls := .type "tuple", dict := dd, data := .seq items n, slots := sl } ∧
      R (.ok (.ret (Value.ref l))) s) :=
  .of_wp fun prog w A R s h => by
    obtain ⟨hp, g, d, tk, os⟩ := s
    obtain ⟨hl, h⟩ := h
    have f1 := AutoSeq1.idx_int
    wp_walk using wpAny_loadPart' hl
    repeat (first
      | (refine wpAny_ite_false (decide_eq_false (by rw [show (decide ((1 : Int) < -(2 ^ 63)) || decide ((1 : Int) ≥ 2 ^ 63)) = false by decide]; exact Bool.false_ne_true)) ?_; wp_walk using wpAny_loadPart' hl)
      | (refine wpAny_ite_true (decide_eq_true (by rw [hi]; rfl)) ?_; wp_walk using wpAny_loadPart' hl))
    exact ⟨_, rfl, h⟩
section
variable {X : Cx} {T : Tb} {a b : Expr} {pos : Pos}
def rRepU (K : PySem.W.Frag) : R2 := fun x y H Q => ∃ l k xs, x = .ref l ∧ y = .int k ∧ SqT K H l xs ∧ xs ≠ [] ∧ 0 ≤ k ∧ k ≤ 1000 ∧ xs.length ≤ 1000 ∧ (k = 1 → Q (.ref l) H) ∧ (k ≠ 1 → ∀ p, H p = none → Q (.ref p) (upd H p (.tup (List.replicate k.toNat xs).flatten)))
theorem op_repU : OpR X (binaryOp .Mult) (rRepU X.K) := by
  intro pins s σ H x y v u Q I rx ry h
  obtain ⟨l, k, xs, rfl, rfl, hT, hne, h0, h2, hz, q1, q2⟩ := h
  by_cases hk : 2 ≤ k
  · exact op_repT pins s σ H _ _ v u Q I rx ry ⟨l, k, xs, rfl, rfl, hT, hne, hk, h2, hz, q2 (by omega)⟩
  · cases rx
    obtain ⟨t, rfl⟩ := ry
    obtain ⟨its, r, ⟨⟨cls, dd, data, sl⟩, ho, hc, n, hd⟩, hs⟩ := I.tuple hT
    simp only at hc hd
    subst hc hd
    have hle : its.length = xs.length := r.length.symm
    have hn : its ≠ [] := fun e => hne (by
      rw [e] at hle
      exact List.eq_nil_of_length_eq_zero hle.symm)
    have hi : its.toArray.isEmpty = false := by
      cases its with
      | nil => exact absurd rfl hn
      | cons a b => rfl
    have hk' : k = 0 ∨ k = 1 := by omega
    rcases hk' with rfl | rfl
    · refine wpAny_binaryOp_repeat_ref (T := "tuple") (U := "int") (by decide) ⟨_, ho, rfl⟩ (fun s' => typeIs_int s' 0 t) noFill_tuple_mul F.fills_int_mul F.slot_int_rmul repeat_tuple F.slot_int_index.lookup
        (call_meets F.slot_int_rmul (typeIs_int s 0 t) F.entry_int_rmul (F.args_int_rmul_2 _ _) (int_rmul_tuple 0 t l its.toArray n dd sl)
          ⟨ho, rfl, ⟨_, ho, rfl⟩, call_meets F.slot_tuple_mul ⟨_, ho, rfl⟩ F.entry_tuple_mul (F.args_tuple_mul_2 _ _) (tuple_mul0 l its.toArray n dd sl t hi) ⟨ho, ?_⟩⟩)
      refine ⟨.ref s.heap.objs.size, _, I.laid (t' := s.toks) (o := .tup []) (fun b ob q => Heap.get?_push_of_some _ q) (Nat.le_refl _) ?_, rfl, q2 (by decide) _ (I.hok.fresh (Nat.le_refl _))⟩
      exact ⟨Nat.zero_le _, [], .nil, IsTup.new _ _⟩
    · refine wpAny_binaryOp_repeat_ref (T := "tuple") (U := "int") (by decide) ⟨_, ho, rfl⟩ (fun s' => typeIs_int s' 1 t) noFill_tuple_mul F.fills_int_mul F.slot_int_rmul repeat_tuple F.slot_int_index.lookup
        (call_meets F.slot_int_rmul (typeIs_int s 1 t) F.entry_int_rmul (F.args_int_rmul_2 _ _) (int_rmul_tuple 1 t l its.toArray n dd sl)
          ⟨ho, rfl, ⟨_, ho, rfl⟩, call_meets F.slot_tuple_mul ⟨_, ho, rfl⟩ F.entry_tuple_mul (F.args_tuple_mul_2 _ _) (tuple_mul1 l its.toArray n dd sl t hi) ⟨ho, ?_⟩⟩)
      exact ⟨.ref l, H, I, rfl, q1 rfl⟩
/-- t * k of a tuple that is not empty -/
def eRepT (f g : Sl → M → R D) : Sl → M → R D := fun τ m => (f τ m).bind fun x m1 => (g τ m1).bind fun y m2 => match x, y with
  | .tup (d :: xs), .int k => if 0 ≤ k ∧ k ≤ 1000 ∧ (d :: xs).length ≤ 1000 then .ok (.tup (List.replicate k.toNat (d :: xs)).flatten) m2 else .bad
  | _, _ => .bad
theorem rds_rep {K : PySem.W.Frag} {ρ : List Addr} {H : Hp} {xs : List D} {vs : List V} (h : RDs K T ρ H xs vs) : ∀ n : Nat, RDs K T ρ H (List.replicate n xs).flatten (List.replicate n vs).flatten
  | 0 => rfl
  | n + 1 => by rw [List.replicate_succ, List.replicate_succ, List.flatten_cons, List.flatten_cons]; exact h.app (rds_rep h n)
theorem ie_repT {f g : Sl → M → R D} (ha : IE X T a f) (hb : IE X T b g) : IE X T (.BinOp a .Mult b pos) (eRepT f g) :=
  ⟨fun W tk => pe_imp (pe_op op_repU (ha.run W tk) (hb.run W tk)) fun σ H Q ⟨ρ, τ, m, R, l, q⟩ => ⟨ρ, τ, m, R, l, q.bind.imp fun x ρ1 m1 H1 e1 R1 q1 v rv =>
    ⟨ρ1, τ, m1, R1, l.ext e1, q1.bind.imp fun y ρ2 m2 H2 e2 R2 q2 u ru => by
      have rv2 := RD.ext e2 _ _ rv
      cases x with
      | tup xs =>
        cases xs with
        | nil => exact False.elim q2
        | cons d xs =>
          cases y with
          | int k =>
            have ru' : u = .int k := ru
            subst ru'
            have q3 : PR X.K X.mg T W σ ρ2 H2 (if 0 ≤ k ∧ k ≤ 1000 ∧ (d :: xs).length ≤ 1000 then .ok (D.tup (List.replicate k.toNat (d :: xs)).flatten) m2 else .bad) _ := q2
            by_cases hl : 0 ≤ k ∧ k ≤ 1000 ∧ (d :: xs).length ≤ 1000
            · rw [if_pos hl] at q3
              obtain ⟨a0, vs, rfl, hs, hr⟩ := id rv2
              refine ⟨a0, k, vs, rfl, rfl, hs, ?_, hl.1, hl.2.1, by rw [hr.len]; exact hl.2.2, fun z => ?_, fun z p hp => ?_⟩
              · intro z; rw [z] at hr; have := hr.len; cases this
              · subst z
                exact q3 ρ2 _ (Ext.refl) R2 (.ref a0) ⟨a0, vs, rfl, hs, by simpa using hr⟩
              · have ex : Ext X.K ρ2 H2 ρ2 (upd H2 p (.tup (List.replicate k.toNat vs).flatten)) := Ext.new hp
                exact q3 ρ2 _ ex (R2.new hp) (.ref p) ⟨p, _, rfl, .inl (.inl upd_same), RDs.ext ex _ _ (rds_rep hr _)⟩
            · rw [if_neg hl] at q3
              exact False.elim q3
          | _ => exact False.elim q2
      | _ => exact False.elim q2⟩⟩⟩
@[simp] theorem eRepT_eq {f g : Sl → M → R D} {τ : Sl} {m : M} : eRepT f g τ m = (f τ m).bind fun x m1 => (g τ m1).bind fun y m2 => match x, y with
  | .tup (d :: xs), .int k => if 0 ≤ k ∧ k ≤ 1000 ∧ (d :: xs).length ≤ 1000 then .ok (.tup (List.replicate k.toNat (d :: xs)).flatten) m2 else .bad
  | _, _ => .bad := rfl
end
end Sh

set_option Elab.async false
set_option linter.all false
set_option autoImplicit false
set_option maxRecDepth 100000
set_option maxHeartbeats 2000000
/-! ShT: the law's own promise over a heap with tables of code objects. -/
namespace Sh
open PySem PySem.Spec PyProof.Rows L2
section
variable {P : Program} {w : World} {K : PySem.W.Frag} {mg : Str → Option Value} {base : Heap} {T : Tb}
/-- what the law's def is asked: a script of whole numbers, the tables -/
def spLawT (K : PySem.W.Frag) (Tt : List (Addr × Str)) : Sp := fun vs H Q _ => ∃ (a : Addr) (ns : List Int), vs = [.ref a] ∧ ns.length ≤ 63 ∧ (∀ z ∈ ns, Builtin.Int.intBits z ≤ 1048576) ∧ LamX.Tabs Tt H ∧ SqL K H a (ns.map V.int) ∧ ∀ H', Q (.bl true) H'
theorem cx_no {outer : List Env} {H : Hp} {s s' : Shared} {u : Value} (h : L2.CX P w outer H s (fun _ _ _ => False) u s') : False := by
  unfold L2.CX at h
  obtain ⟨_, _, _, _, _, _, _, _, _, _, _, _, z⟩ := h
  exact z
theorem fn_lawT {k : Nat} {f : Addr} {fd : FuncData} {ps : List Str} {F : List D → M → R D} (h3 : FnOk P w K mg base (L2.CX P w) k f fd ps (spI K mg T 1 F))
    (hF : ∀ ns : List Int, ns.length ≤ 63 → (∀ z ∈ ns, Builtin.Int.intBits z ≤ 1048576) → ∃ m, F [.frl (ns.map D.int)] [] = .ok (.bl true) m) : FnOk P w K mg base (L2.CX P w) k f fd ps (spLawT K T.tabs) := by
  -- what is asked of the mirror, at a script that nobody writes
  have ask : ∀ (H : Hp) (a : Addr) (ns : List Int) (Q : VK), ns.length ≤ 63 → (∀ z ∈ ns, Builtin.Int.intBits z ≤ 1048576) → LamX.Tabs T.tabs H → Fz K H a (ns.map V.int) → (∀ H', Q (.bl true) H') → spI K mg T 1 F [.ref a] H Q fun _ _ _ => False := by
    intro H a ns Q hl hb ht hz hQ
    obtain ⟨m, hm⟩ := hF ns hl hb
    refine ⟨[], [.frl (ns.map D.int)], [], ⟨by simp, rfl, fun i o a h1 h2 => by simp at h1, ht⟩, ⟨.ref a, [], rfl, ⟨a, _, rfl, hz, rds_ints ns⟩, rfl⟩, rfl, ?_⟩
    rw [hm]
    intro ρ' H' e R' v rv
    have rv' : v = .bl true := rv
    subst rv'
    exact hQ H'
  refine ⟨fun vs H Q E ⟨a, ns, e1, hl, hb, hT, hS, hQ⟩ => ?_, fun A outer s H args us vs Q E hr e0 bt rv ⟨a, ns, e1, hl, hb, hT, hS, hQ⟩ => ?_⟩
  · -- any heap will do
    subst e1
    rcases hS with (hS | hS) | hS
    · -- the same list, as if nobody wrote it
      have hT' : LamX.Tabs T.tabs (upd H a (.frz { cls := .type "list", data := .plain } (.lst (ns.map V.int)))) := tabs_upd (.inr ⟨_, hS, noTab_lst⟩) hT
      exact h3.len [.ref a] _ _ _ (ask _ a ns (fun _ _ => True) hl hb hT' (.inl ⟨_, upd_same⟩) fun _ => True.intro)
    · exact h3.len [.ref a] _ _ _ (ask H a ns (fun _ _ => True) hl hb hT (.inl hS) fun _ => True.intro)
    · exact h3.len [.ref a] _ _ _ (ask H a ns (fun _ _ => True) hl hb hT (.inr hS) fun _ => True.intro)
  · subst e1
    have done : ∀ {r : Result} {s' : Shared}, CR (L2.CX P w) outer P w H s Q (fun _ _ _ => False) r s' → CR (L2.CX P w) outer P w H s Q E r s' := fun {r s'} h => by
      cases r with
      | error e => exact (cx_no (show L2.CX P w outer H s (fun _ _ _ => False) e s' from h)).elim
      | ok fl => cases fl <;> exact h
    rcases hS with (hS | hS) | hS
    · obtain ⟨_, its, n, rits, hget⟩ := e0.hok a _ hS
      generalize ho : ({ cls := .type "list", data := .seq its.toArray n } : Obj) = o at hget
      have ne : ∀ {b : Addr} {u : HO}, H b = some u → (∀ xs, u ≠ .lst xs) → b ≠ a := fun {b u} e hu z => by
        subst z; rw [hS] at e; cases e; exact hu _ rfl
      have nn : ∀ {b : Addr}, H b = none → b ≠ a := fun {b} e z => by subst z; rw [hS] at e; cases e
      have n2 : ∀ {b : Addr}, H b = none → upd H a (.frz o (.lst (ns.map V.int))) b = none := fun {b} e => by rw [upd_ne (nn e)]; exact e
      have hok2 : HOk P w (upd H a (.frz o (.lst (ns.map V.int)))) s.heap := fun b u e => by
        by_cases hb : b = a
        · subst hb
          rw [upd_same] at e; cases e
          refine ⟨hget, ?_⟩
          exact e0.hok b _ hS
        · rw [upd_ne hb] at e
          exact (e0.hok b u e).stay (fun _ _ _ q => q) (fun c q => by rw [upd_ne (ne q fun _ z => HO.noConfusion z)]; exact q) fun c xs q => by rw [upd_ne (ne q fun _ z => HO.noConfusion z)]; exact q
      have e2 : Env0 P w K mg base A outer s (upd H a (.frz o (.lst (ns.map V.int)))) := ⟨e0.frames, e0.mod, fun b ob q => ⟨(e0.bs b ob q).1, n2 (e0.bs b ob q).2⟩, e0.bsz, e0.funs, fun b hb => n2 (e0.frf b hb), hok2, e0.bare⟩
      have hT' := tabs_upd (o := .frz o (.lst (ns.map V.int))) (.inr ⟨_, hS, noTab_lst⟩) hT
      refine codeAny_mono (h3.run A outer s _ args us [.ref a] Q _ hr e2 bt rv (ask _ a ns Q hl hb hT' (.inl ⟨_, upd_same⟩) hQ)) fun r s' h => ?_
      cases r with
      | error e => exact (cx_no (show L2.CX P w outer _ s (fun _ _ _ => False) e s' from h)).elim
      | ok fl =>
        cases fl with
        | ret u =>
          obtain ⟨v, H', os, bare, un, hok', r', q⟩ := h
          refine ⟨v, H', os, bare, ⟨fun b ob x y => un.keep b ob x (n2 y), fun b ob x y => un.slot b ob x (n2 y), fun b ob x y => un.free b ob x (n2 y), un.there, fun b xs x => un.tups b xs ?_, fun b ob x y => un.frzs b ob x ?_, fun b xs x => un.tbls b xs ?_⟩, hok', r', q⟩
          · rw [upd_ne (ne x fun _ z => HO.noConfusion z)]; exact x
          · rw [upd_ne (ne y fun _ z => HO.noConfusion z)]; exact y
          · rw [upd_ne (ne x fun _ z => HO.noConfusion z)]; exact x
        | next => exact h
        | brk => exact h
        | cont => exact h
    · exact codeAny_mono (h3.run A outer s H args us [.ref a] Q _ hr e0 bt rv (ask H a ns Q hl hb hT (.inl hS) hQ)) fun r s' h => done h
    · exact codeAny_mono (h3.run A outer s H args us [.ref a] Q _ hr e0 bt rv (ask H a ns Q hl hb hT (.inr hS) hQ)) fun r s' h => done h
end
end Sh

set_option Elab.async false
set_option linter.all false
set_option autoImplicit false
set_option maxRecDepth 100000
set_option maxHeartbeats 2000000
/-! ShU: a lambda with parameters, handed to a def that calls it. -/
namespace Sh
open PySem PySem.Spec PyProof.Rows L2 LamX NdefX
def Tb.pinned (T : Tb) (p : Pin) : Tb := { T with pin := some p }
section
variable {K : PySem.W.Frag} {mg : Str → Option Value} {T : Tb} {p : Pin} {ρ : List Addr} {H : Hp} {m : M} {W : WX} {σ : L2.St} {α : Type}
mutual
theorem rd_pin : ∀ (d : D) (v : V), RD K (T.pinned p) ρ H d v = RD K T ρ H d v
  | .non, v => rfl
  | .bl _, v => rfl
  | .int _, v => rfl
  | .wd _, v => rfl
  | .str _, v => rfl
  | .ty _, v => rfl
  | .obj _, v => rfl
  | .tup xs, v => by unfold RD; simp only [rds_pin xs]
  | .frl xs, v => by unfold RD; simp only [rds_pin xs]
theorem rds_pin : ∀ (xs : List D) (vs : List V), RDs K (T.pinned p) ρ H xs vs = RDs K T ρ H xs vs
  | [], vs => rfl
  | x :: xs, vs => by unfold RDs; simp only [rd_pin x, rds_pin xs]
end
theorem rd_pinF : RD K (T.pinned p) = RD K T := by funext ρ H d v; exact rd_pin d v
theorem rds_pinF : RDs K (T.pinned p) = RDs K T := by funext ρ H d v; exact rds_pin d v
theorem ro_pin {o : O} {a : Addr} : RO K mg (T.pinned p) ρ H o a = RO K mg T ρ H o a := by
  cases o with
  | lst xs => unfold RO; rw [rds_pinF]
  | ins c fs => unfold RO; rw [rd_pinF]; rfl
  | dct kds => unfold RO; rw [rd_pinF]; rfl
theorem rep_pin : Rep K mg (T.pinned p) ρ m H ↔ Rep K mg T ρ m H :=
  ⟨fun ⟨a, b, c, d⟩ => ⟨a, b, fun i o x h1 h2 => by rw [← ro_pin (p := p)]; exact c i o x h1 h2, d⟩, fun ⟨a, b, c, d⟩ => ⟨a, b, fun i o x h1 h2 => by rw [ro_pin]; exact c i o x h1 h2, d⟩⟩
theorem rx_pin {x : Nat} {q : List D} {C : Value} {dd : Option Addr} : RX K mg (T.pinned p) ρ H x q C dd = RX K mg T ρ H x q C dd := by
  unfold RX; rw [rd_pinF]; rfl
theorem pr_pin {r : R α} {Q : α → List Addr → M → Hp → Prop} : PR K mg (T.pinned p) W σ ρ H r Q ↔ PR K mg T W σ ρ H r Q := by
  cases r with
  | ok a m => exact ⟨fun h ρ' H' e R => h ρ' H' e (rep_pin.mpr R), fun h ρ' H' e R => h ρ' H' e (rep_pin.mp R)⟩
  | ex x q m => exact ⟨fun h ρ' H' C dd e R z => h ρ' H' C dd e (rep_pin.mpr R) (by rw [rx_pin]; exact z), fun h ρ' H' C dd e R z => h ρ' H' C dd e (rep_pin.mp R) (by rw [rx_pin] at z; exact z)⟩
  | bad => exact Iff.rfl
end
section
variable {P : Program} {w : World} {K : PySem.W.Frag} {mg : Str → Option Value} {base : Heap} {T : Tb} {p : Pin} {k n c : Nat} {f : Addr} {x : Str} {F : List D → M → R D}
theorem Fn.pin (h : Fn P w K mg base T k f n F) : Fn P w K mg base (T.pinned p) k f n F := by
  obtain ⟨fd, ps, h1, h2, h3⟩ := h
  refine ⟨fd, ps, h1, h2, h3.imp fun vs H Q E ⟨ρ, ds, m, R, rd, hl, q⟩ => ⟨ρ, ds, m, rep_pin.mp R, by rw [rds_pinF] at rd; exact rd, hl, (pr_pin.mp q).imp fun d ρ' m' H' e R' z v rv => z v (by rw [rd_pinF]; exact rv)⟩⟩
theorem Df.pin (h : Df P w K mg base T x k n F) : Df P w K mg base (T.pinned p) x k n F := let ⟨f, a, b, d⟩ := h; ⟨f, a, b, d.pin⟩
theorem Md.pin (h : Md P w K mg base T c x k n F) : Md P w K mg base (T.pinned p) c x k n F := let ⟨C, f, a, b, d, e, g⟩ := h; ⟨C, f, a, b, d, e, g.pin⟩
theorem Mr.pin (h : Mr P w K mg base T c k n F) : Mr P w K mg base (T.pinned p) c k n F := let ⟨C, f, a, b, g⟩ := h; ⟨C, f, a, b, g.pin⟩
theorem Fd.pin {j : Nat} (h : Fd K mg T c j x) : Fd K mg (T.pinned p) c j x := h
theorem Xc.pin {y : Nat} {bm : List Value} {id : String} (h : Xc K mg T y bm id) : Xc K mg (T.pinned p) y bm id := let ⟨a, b, c, d⟩ := h; ⟨a, b, c, d⟩
theorem Hand.pin {c : Value} {s : Nat → Bool} (h : Hand K mg T c s) : Hand K mg (T.pinned p) c s := h
end
/-! ### the lambda is made -/
section
variable {X : Cx} {pins : List (Addr × Obj)} {σ : L2.St} {H : Hp} {s : Shared}
theorem lam_new {Tt : List (Addr × Str)} {c P : Addr} {params : Arguments} {body : Expr} {scope : Scope} {pos : Pos} {E : Value → Shared → Prop} {Q : Value → Shared → Prop} (I : Inv X pins σ H s) (TB : LamX.TabB X.base X.mg c P) (hcode : X.env.code = .ref c)
    (hm : (P, X.env.qual ++ "<lambda>") ∈ Tt) (hu : ∀ p ∈ Tt, p.1 = P → p.2 = X.env.qual ++ "<lambda>") (hT : Tabs Tt H) (hdef : defaultsOf params X.env = ([], [])) (hfree : ∀ y ∈ scope.names, y.2 = .free → ∃ c, X.env.cells.lookup y.1 = some c)
    (go : ∀ (f d : Addr) (pm ctv : Value) (H1 : Hp) (s1 : Shared), Inv X pins σ H1 s1 → ExtN H H1 → (∀ b, H b ≠ none → H1 b ≠ none) → Tabs Tt H1 →
      s1.heap.get? f = some (PySem.W.kla_obj "<lambda>" (X.env.qual ++ "<lambda>") params body scope (cloFrom X.env.cells scope.names []) pm d ctv) → H1 f = none → f ∉ frs X.stack → H1 d = some (CodeO d (X.env.qual ++ "<lambda>")) → Q (.ref f) s1) :
    wpAny (model X.prog X.w) X.A (eval (.Lambda params body scope pos) X.env) Q E s := by
  obtain ⟨tb, tP, tok, tall⟩ := hT _ hm
  have bmP := TB.bm.keeps I.bk
  have inP : s.heap.get? P = some { cls := .none, data := .fields tb } := I.hok P _ tP
  have apart : ∀ f, s.heap.objs.size ≤ f → f ∉ frs X.stack := fun f hf z => by
    rcases List.mem_cons.mp (I.stkSub _ z) with e | e
    · have := I.lt
      rw [← e] at this
      exact Nat.lt_irrefl _ (Nat.lt_of_lt_of_le this hf)
    · exact I.nofs hf e
  refine PySem.W.kla_eval hdef ?_
  cases look : codeAmong pos tb.toList with
  | some cv =>
    obtain ⟨d, rfl, hd⟩ := tall pos cv look
    exact PySem.W.kla_makeFunctionHit (closure_ok hfree) I.ok.glob (I.mod.glob.keeps I.bk) hcode (TB.code.keeps I.bk) inP tok look bmP fun ctv h' tk kept more =>
      go h'.objs.size d _ ctv H _ (I.kept fun b o e => Heap.get?_push_of_some _ (kept b o e)) (ExtN.refl H) (fun _ z => z) hT (Heap.get?_push_size _ rfl) (I.hok.fresh more) (apart _ more) hd
  | none =>
    refine PySem.W.kla_makeFunction (closure_ok hfree) I.ok.glob (I.mod.glob.keeps I.bk) hcode (TB.code.keeps I.bk) inP tok look TB.gP bmP fun d ctv h' tk kept dnew dlt drec tnew => ?_
    obtain ⟨_, oc, vs, t, ed, hoc, hdat, hnam⟩ := drec
    cases ed
    have dn : H d = none := I.hok.fresh dnew
    have Pd : P ≠ d := ne_of_none tP dn
    have J := LamX.inv_table (t' := tk) (more := #[rawInt pos.line, rawInt pos.col, .ref d]) (h' := h'.push (PySem.W.kla_obj "<lambda>" (X.env.qual ++ "<lambda>") params body scope (cloFrom X.env.cells scope.names []) ((X.mg "__name__").getD .none) d ctv)) I tP
      (fun b o hb e => Heap.get?_push_of_some _ (kept b o hb e)) (Heap.get?_push_of_some _ tnew) dnew ⟨oc, vs, t, Heap.get?_push_of_some _ hoc, hdat, hnam⟩
    have ex : ExtN H (upd (upd H P (.tbl (tb ++ #[rawInt pos.line, rawInt pos.col, .ref d]))) d (CodeO d (X.env.qual ++ "<lambda>"))) := fun b o e hn => by
      have hbP : b ≠ P := fun z => by
        subst z
        rw [tP] at e
        cases e
        exact hn _ rfl
      rw [upd_ne (ne_of_none e dn), upd_ne hbP]
      exact e
    have size : s.heap.objs.size ≤ h'.objs.size := Nat.le_trans dnew (Nat.le_of_lt dlt)
    refine go h'.objs.size d _ ctv _ _ J ex (fun b hb => kp_upd b (kp_upd b hb)) (fun z hz => ?_) (Heap.get?_push_size _ rfl) ?_ (apart _ size) upd_same
    · by_cases hb : z.1 = P
      · rw [hu z hz hb, hb]
        have el : (tb ++ #[rawInt pos.line, rawInt pos.col, .ref d]).toList = tb.toList ++ [rawInt pos.line, rawInt pos.col, .ref d] := by simp
        refine ⟨_, by rw [upd_ne Pd]; exact upd_same, by rw [el]; exact PySem.TriplesOk_snoc _ _ _ _ tok, fun p' cv hcv => ?_⟩
        rw [el] at hcv
        rcases LamX.among_app _ tok hcv with y | y
        · obtain ⟨c0, e1, e2⟩ := tall p' cv y
          exact ⟨c0, e1, ex _ _ e2 codeO_ne⟩
        · exact ⟨d, y, upd_same⟩
      · obtain ⟨tz, a1, a2, a3⟩ := hT z hz
        refine ⟨tz, by rw [upd_ne (ne_of_none a1 dn), upd_ne hb]; exact a1, a2, fun p' cv hcv => ?_⟩
        obtain ⟨c0, e1, e2⟩ := a3 p' cv hcv
        exact ⟨c0, e1, ex _ _ e2 codeO_ne⟩
    · have n1 : h'.objs.size ≠ d := Nat.ne_of_gt dlt
      have n2 : h'.objs.size ≠ P := Nat.ne_of_gt (Nat.lt_of_lt_of_le (Heap.lt_size inP) size)
      rw [upd_ne n1, upd_ne n2]
      exact I.hok.fresh size
end
/-! ### what is known of it in the def that it is handed to, and what it promises -/
structure LamAt (s0 : Shared) (H0 : Hp) (fs : List Addr) (p : Pin) (F : NF) (params : Arguments) (body : Expr) (fr : List Str) (ws : List (Option V)) : Prop where
  fn : ∃ pm ctv, s0.heap.get? p.f = some (PySem.W.kla_obj "<lambda>" F.qual params body F.scope F.cl pm F.c ctv)
  un : H0 p.f = none
  nf : p.f ∉ fs
  cc : p.c = F.c ∧ p.q = F.qual
  cells : CellsAt F.cl fr ws s0.heap H0
  cnf : ∀ y c, F.cl.lookup y = some c → c ∉ fs
/-- the lambda is mimicked by G -/
def LOk (P : Program) (w : World) (K : PySem.W.Frag) (mg : Str → Option Value) (base : Heap) (T : Tb) (k : Nat) (p : Pin) (F : NF) (params : Arguments) (body : Expr) (fr : List Str) (ws : List (Option V)) (n : Nat) (G : List D → M → R D) : Prop :=
  ∀ (A : Around) (outer : List Env) (s : Shared) (H : Hp) (us : List Value) (vs : List V) (Q : VK) (E : XK), Room k A → Env0 P w K mg base A outer s H →
    (∃ pm ctv, s.heap.get? p.f = some (PySem.W.kla_obj "<lambda>" F.qual params body F.scope F.cl pm F.c ctv)) → s.heap.CodeRec (.ref F.c) F.qual → CellsAt F.cl fr ws s.heap H → Vals vs us →
    (∃ ρ ds m, Rep K mg T ρ m H ∧ RDs K T ρ H ds vs ∧ ds.length = n ∧ (∀ x ∈ p.caps, RD K T ρ H x.1 x.2) ∧ PR K mg T (fun c d _ H => E c d H) [] ρ H (G ds m) fun d ρ' _ H' => ∀ v, RD K T ρ' H' d v → Q v H') →
    codeAny (model P w) A (.call (.ref p.f) ⟨us, []⟩) (CR (L2.CX P w) outer P w H s Q E) s
section
variable {P : Program} {w : World} {K : PySem.W.Frag} {mg : Str → Option Value} {base : Heap} {T : Tb}
theorem LOk.mono {k j : Nat} {p : Pin} {F : NF} {params : Arguments} {body : Expr} {fr : List Str} {ws : List (Option V)} {n : Nat} {G : List D → M → R D} (h : LOk P w K mg base T k p F params body fr ws n G) (hk : k ≤ j) : LOk P w K mg base T j p F params body fr ws n G :=
  fun A outer s H us vs Q E hr => h A outer s H us vs Q E (hr.mono hk)
/-- its body's mirror, over the parameters and what it captured -/
def gLam (N : Nat) (cs : List (Option D)) (g : Sl → M → R D) : List D → M → R D := fun ds m => g (ds.map some ++ (cs ++ List.replicate (N - ds.length - cs.length) none)) m
theorem lok_mk {k : Nat} {p : Pin} {F : NF} {params : Arguments} {body : Expr} {N ps fr : List Str} {ws : List (Option V)} {cs : List (Option D)} {g : Sl → M → R D} (S : NScope N ps fr F.scope)
    (hbind : ∀ (pm cv ctv : Value) (us : List Value), us.length = ps.length → bindArgs (PySem.W.kla_fn "<lambda>" F.qual params body F.scope F.cl pm cv ctv) ⟨us, []⟩ = pure (ps.zip us)) (hcl : cs.length = ws.length)
    (hcap : ∀ (i : Nat) (d : D), cs[i]? = some (some d) → ∃ v, ws[i]? = some (some v) ∧ (d, v) ∈ p.caps) (hpn : T.pin = none)
    (hb : ∀ (A : Around) (outer : List Env) (s : Shared) (H : Hp) (E : XK), Room k (A.deeper (envF F p.f s.heap.objs.size)) → IE (ncx (L2.CX P w) P w K mg base N F p.f A outer s H E) T body g) :
    LOk P w K mg base T (k + 1) p F params body fr ws ps.length (gLam N.length cs g) := by
  rintro A outer s H us vs Q E hr e0 ⟨pm, ctv, ho⟩ hcode C rv ⟨ρ, ds, m, R, rds, hl, hcaps, q⟩
  have hvl : vs.length = ps.length := by rw [rds.len, hl]
  have lim : s.heap.NoLimit := e0.mod.nolimit.keeps fun b o e => (e0.bs b o e).1
  refine PySem.W.kla_callFunE hr.depth ho rfl S.co S.gen rfl hcode ?_
  rw [hbind pm _ ctv us (by rw [← rv.length]; exact hvl)]
  refine wpAny_pure (wpAny_newFunctionEnv S.nocell (fun ⟨n, _⟩ hy => S.par n (List.of_mem_zip hy).1) (fun h₁ hns hsb => ⟨lim.fresh _ hsb, ?_⟩) S.kind)
  show codeAny _ _ (.expr body (envF F p.f s.heap.objs.size)) _ _
  have kept : ∀ b o, s.heap.get? b = some o → h₁.get? b = some o := fun b o e => hsb.extBut b o (Nat.ne_of_lt (Heap.lt_size e)) (Heap.get?_push_of_some _ e)
  have I : Inv (ncx (L2.CX P w) P w K mg base N F p.f A outer s H E) [] (startF N vs ws) H { s with heap := h₁, toks := s.toks + (ps.zip us).length } := inv_startN S hr.hd e0 hvl rv C hns kept
  have sl : RSl K T ρ H (ds.map some ++ (cs ++ List.replicate (N.length - ds.length - cs.length) none)) (startF N vs ws) := by
    have hvd := rds.len
    refine ⟨?_, fun i d e => ?_, fun z hz => by rw [hpn] at hz; cases hz⟩
    · unfold startF
      simp only [List.length_append, List.length_map, List.length_replicate]
      omega
    · unfold startF
      by_cases h1 : i < ds.length
      · rw [List.getElem?_append_left (by simpa using h1), List.getElem?_map] at e
        cases ed : ds[i]? with
        | none => rw [ed] at e; cases e
        | some x =>
          rw [ed] at e; cases e
          obtain ⟨v, hv, r⟩ := rds.get ed
          exact ⟨v, by rw [List.getElem?_append_left (by simp only [List.length_map]; omega), List.getElem?_map, hv]; rfl, r⟩
      · rw [List.getElem?_append_right (by simp only [List.length_map]; omega), List.length_map] at e
        rw [List.getElem?_append_right (by simp only [List.length_map]; omega), List.length_map, hvd]
        by_cases h2 : i - ds.length < cs.length
        · rw [List.getElem?_append_left h2] at e
          obtain ⟨v, hv, hm⟩ := hcap _ d e
          exact ⟨v, by rw [List.getElem?_append_left (by omega)]; exact hv, hcaps _ hm⟩
        · rw [List.getElem?_append_right (by omega), List.getElem?_replicate] at e
          split at e <;> cases e
  refine PySem.W.kla_codeExpr (wpAny_mono (((hb A outer s H E (hr.deeper _)).run (fun c d _ H => E c d H) (takes_of rfl rfl rfl rfl)).run [] _ _ H Q I ⟨ρ, _, m, R, sl, ?_⟩) (fun v s' hq => ?_) fun e s' hq => hq)
  · have q' : PR K mg T (fun c d _ H => E c d H) [] ρ H (g (ds.map some ++ (cs ++ List.replicate (N.length - ds.length - cs.length) none)) m) fun d ρ' _ H' => ∀ v, RD K T ρ' H' d v → Q v H' := q
    cases hg : g (ds.map some ++ (cs ++ List.replicate (N.length - ds.length - cs.length) none)) m with
    | ok a m' => rw [hg] at q'; exact q'
    | ex x z m' => rw [hg] at q'; exact q'
    | bad => rw [hg] at q'; exact q'
  · obtain ⟨v', H', J, r, z⟩ := hq
    exact ⟨v', H', J.os, J.bare, J.base, J.hok, r, z⟩
end
/-! ### the def that calls it -/
def eLam (i n : Nat) (G : List D → M → R D) (fa : Sl → M → R (List D)) : Sl → M → R D := fun τ m => match τ[i]? with
  | some none => (fa τ m).bind fun ds m1 => if ds.length = n then G ds m1 else .bad
  | _ => .bad
section
variable {Y : Cx} {T : Tb} {p : Pin} {F : NF} {params : Arguments} {body : Expr} {fr : List Str} {ws : List (Option V)} {n i j : Nat} {G : List D → M → R D} {fa : Sl → M → R (List D)} {a : Str} {e : Expr} {es : List Expr} {p1 p2 : Pos}
theorem ie_lamuse (LA : LamAt Y.s_0 Y.H_0 Y.fs p F params body fr ws) (lo : LOk Y.prog Y.w Y.K Y.mg Y.base T j p F params body fr ws n G) (hr : Room j Y.A) (he : IA Y (T.pinned p) (e :: es) fa) (hi : p.i = i) (hex : Y.ex = [] := by rfl) (hN : Y.N[i]? = some a := by rfl)
    (hv : Vis Y.env.scope a := by first | exact Or.inl rfl | exact Or.inr (Or.inl rfl) | exact Or.inr (Or.inr rfl)) (hd : (a == ("__debug__" : Str)) = false := by decide) (hcd : (a == ("__classdict__" : Str)) = false := by decide)
    (hst : starEach (e :: es) Y.env = (false, eval e Y.env) :: starEach es Y.env := by rfl) (hpl : (backTo p2 (starEach es Y.env)).any (·.1) = false := by rfl) :
    IE Y (T.pinned p) (.Call (.Name a p1) (e :: es) [] p2) (eLam i n G fa) := by
  refine ⟨fun W tk => ⟨fun pins s σ H Q I ⟨ρ, τ, m, R, l, q⟩ => ?_⟩⟩
  unfold eLam at q
  split at q
  · rename_i ht
    have hs : σ[i]? = some (some (.ref p.f)) := by rw [← hi]; exact (l.2.2 p rfl).1 (by rw [hi]; exact ht)
    have there : ∀ {σ' : L2.St} {H' : Hp} {s' : Shared} {pins' : List (Addr × Obj)}, Inv Y pins' σ' H' s' → ∃ pm ctv, s'.heap.get? p.f = some (PySem.W.kla_obj "<lambda>" F.qual params body F.scope F.cl pm F.c ctv) := fun {σ' H' s' pins'} J => by
      obtain ⟨pm, ctv, ho⟩ := LA.fn
      exact ⟨pm, ctv, J.base.keep _ _ ho LA.un LA.nf (by rw [hex]; simp)⟩
    have fnat : ∀ {σ' : L2.St} {H' : Hp} {s' : Shared} {pins' : List (Addr × Obj)}, Inv Y pins' σ' H' s' → PySem.W.FnAt p.f s'.heap := fun {σ' H' s' pins'} J => by
      obtain ⟨pm, ctv, ho⟩ := there J
      exact ⟨_, _, _, _, ho⟩
    refine wpAny_Call_Name_kw (thn ((pe_var (pos := p1) hN hv hd hcd).run pins s σ H (fun v H1 => v = .ref p.f ∧ H1 = H) I ⟨.ref p.f, hs, rfl, rfl⟩) fun u s1 ⟨v, H1, I1, r1, q1⟩ => ?_)
    obtain ⟨ev, eH⟩ := q1
    subst ev
    rw [eH] at I1
    obtain rfl : u = Value.ref p.f := r1
    refine PySem.W.callWith_F (first := []) (fnat I1) (thn ((he.run W tk).run p2 pins s1 σ H (fun vs H2 => ∃ ρ1 ds m1, Rep Y.K Y.mg T ρ1 m1 H2 ∧ RDs Y.K T ρ1 H2 ds vs ∧ ds.length = n ∧ (∀ x ∈ p.caps, RD Y.K T ρ1 H2 x.1 x.2) ∧ H2 p.c = some (CodeO p.c p.q) ∧
        PR Y.K Y.mg T (fun c d _ H => W c d σ H) [] ρ1 H2 (G ds m1) fun d ρ' _ H' => ∀ v, RD Y.K T ρ' H' d v → Q v H') I1 ⟨ρ, τ, m, R, l, q.bind.imp fun ds ρ1 m1 H2 e1 R1 q1 vs rvs => ?_⟩) fun us s2 ⟨vs, H2, I2, r, ρ1, ds, m1, R2, rd, hn, hc, ho, q2⟩ => ⟨fnat I2, ?_⟩) hst hpl
    · by_cases hn : ds.length = n
      · rw [if_pos hn] at q1
        obtain ⟨_, c2, c3, _⟩ := (l.ext e1).2.2 p rfl
        refine ⟨ρ1, ds, m1, rep_pin.mp R1, by rw [rds_pinF] at rvs; exact rvs, hn, fun x hx => by have := c2 x hx; rw [rd_pinF] at this; exact this, c3, (pr_pin.mp q1.flat).imp fun d ρ' m' H' e' R' z v rv => z v (by rw [rd_pinF]; exact rv)⟩
      · rw [if_neg hn] at q1
        exact False.elim q1
    · show wpAny _ _ (call (.ref p.f) us) _ _ _
      have hcr : s2.heap.CodeRec (.ref F.c) F.qual := by
        have := codeO_at I2.hok ho
        rw [LA.cc.1, LA.cc.2] at this
        exact this
      refine wpAny_call (codeAny_mono (lo Y.A Y.stack s2 H2 us vs Q (WE W σ) hr I2.env0 (there I2) hcr (LA.cells.later LA.cnf (fun y c e => by rw [hex]; simp) I2) r ⟨ρ1, ds, m1, R2, rd, hn, hc, q2⟩) fun res s' hq => ?_)
      cases res with
      | error er => exact passAt tk σ pins H2 s2 er s' I2 hq
      | ok fl =>
        cases fl with
        | ret u => exact I2.after hq
        | next => exact False.elim hq
        | brk => exact False.elim hq
        | cont => exact False.elim hq
  · exact False.elim q
end
/-- the def at fa, a parameter and a lambda, is mimicked by F -/
def FnL (P : Program) (w : World) (K : PySem.W.Frag) (mg : Str → Option Value) (base : Heap) (T : Tb) (k j nl : Nat) (fa : Addr) (F : (List D → M → R D) → List D → M → R D) : Prop :=
  ∃ (fd : FuncData) (ps : List Str), ps.length = 2 ∧ Binds K fd ps [] ∧ ∀ (A : Around) (outer : List Env) (s : Shared) (H : Hp) (args : Args) (us : List Value) (v : V) (Q : VK) (E : XK) (p : Pin) (L : NF) (params : Arguments) (body : Expr) (fr : List Str) (ws : List (Option V)) (G : List D → M → R D),
    Room k A → Env0 P w K mg base A outer s H → BindsTo s fd args (ps.zip us) → Vals [v, .ref p.f] us → p.i = 1 → LamAt s H (frs outer) p L params body fr ws → LOk P w K mg base T j p L params body fr ws nl G →
    (∃ ρ d m, Rep K mg T ρ m H ∧ RD K T ρ H d v ∧ (∀ x ∈ p.caps, RD K T ρ H x.1 x.2) ∧ H p.c = some (CodeO p.c p.q) ∧ p.c ∉ ρ ∧ PR K mg T (fun c d _ H => E c d H) [] ρ H (F G [d] m) fun d ρ' _ H' => ∀ v, RD K T ρ' H' d v → Q v H') →
    codeAny (model P w) A (.call (.ref fa) args) (CR (L2.CX P w) outer P w H s Q E) s
section
variable {P : Program} {w : World} {K : PySem.W.Frag} {mg : Str → Option Value} {base : Heap} {T : Tb}
def mkFL (N : Nat) (g : (List D → M → R D) → Sl → M → S) : (List D → M → R D) → List D → M → R D := fun G ds m => match ds with
  | [d] => toR (g G (some d :: none :: List.replicate (N - 2) none) m)
  | _ => .bad
theorem fnl_mk {x qual : Str} {st : Stmt} {f : Addr} {fd : FuncData} {N : List Str} {a b : Str} {k j nl : Nat} {g : (List D → M → R D) → Sl → M → S} (Fu : Fun K x qual st f fd) (Sc : FnScope N [a, b] (defScope st)) (hb : Binds K fd [a, b] [])
    (body : ∀ (cdv : Value) (A : Around) (outer : List Env) (s : Shared) (H : Hp) (E : XK) (p : Pin) (L : NF) (params : Arguments) (lb : Expr) (fr : List Str) (ws : List (Option V)) (G : List D → M → R D), Room k (A.deeper (envOfC qual (defScope st) s.heap.objs.size f cdv)) → p.i = 1 →
      LamAt s H (frs outer) p L params lb fr ws → LOk P w K mg base T j p L params lb fr ws nl G → ISs (cxOf (L2.CX P w) P w K mg base N qual (defScope st) f cdv A outer s H E) (T.pinned p) (defBody st) (g G)) :
    FnL P w K mg base T (k + 1) j nl f (mkFL N.length g) := by
  refine ⟨fd, [a, b], rfl, hb, fun A outer s H args us v Q E p L params lb fr ws G hr e0 bt rv hi LA lo ⟨ρ, d, m, R, rd, hc, ho, hn, q⟩ => ?_⟩
  obtain ⟨oc, od, kV, doc, pm, an, cdv, ct, osl, rfl, lk, hcd⟩ := Fu.ex
  have hN2 : 2 ≤ N.length := by
    have := congrArg List.length Sc.pre
    rw [List.length_take] at this
    simp at this
    omega
  refine LamX.run_ofS lk hcd Sc hr e0 bt rv rfl fun hr' => ⟨_, (body cdv A outer s H E p L params lb fr ws G hr' hi LA lo).run (fun c d _ H => E c d H) (takes_of rfl rfl rfl rfl), ρ, some d :: none :: List.replicate (N.length - 2) none, m, rep_pin.mpr R, ⟨?_, fun i y e => ?_, fun z hz => ?_⟩, ?_⟩
  · unfold L2.start
    simp only [List.length_cons, List.length_append, List.length_map, List.length_replicate, List.length_nil]
    omega
  · cases i with
    | zero =>
      simp at e; subst e
      exact ⟨v, rfl, by rw [rd_pinF]; exact rd⟩
    | succ i =>
      cases i with
      | zero => simp at e
      | succ i =>
        rw [List.getElem?_cons_succ, List.getElem?_cons_succ, List.getElem?_replicate] at e
        split at e <;> cases e
  · cases hz
    refine ⟨fun _ => by rw [hi]; rfl, fun x hx => by rw [rd_pinF]; exact hc x hx, ho, hn⟩
  · have q' : PR K mg T (fun c d _ H => E c d H) [] ρ H (toR (g G (some d :: none :: List.replicate (N.length - 2) none) m)) fun d ρ' _ H' => ∀ v, RD K T ρ' H' d v → Q v H' := q
    cases hg : g G (some d :: none :: List.replicate (N.length - 2) none) m with
    | nx τ' m' => rw [hg] at q'; exact fun ρ' σ' H' e R' l => q' ρ' H' e (rep_pin.mp R') .non rfl
    | rt d' m' => rw [hg] at q'; exact fun ρ' v H' e R' rv => q' ρ' H' e (rep_pin.mp R') v (by rw [rd_pinF] at rv; exact rv)
    | ex y z τ' m' => rw [hg] at q'; exact fun ρ' σ' H' C dd e R' l rx => q' ρ' H' C dd e (rep_pin.mp R') (by rw [rx_pin] at rx; exact rx)
    | bk τ' m' => rw [hg] at q'; exact False.elim q'
    | ct τ' m' => rw [hg] at q'; exact False.elim q'
    | bad => rw [hg] at q'; exact False.elim q'
end
end Sh

set_option Elab.async false
set_option linter.all false
set_option autoImplicit false
set_option maxRecDepth 100000
set_option maxHeartbeats 2000000
/-! ShV: x(e, lambda ..: ..), the lambda made and handed on. -/
namespace Sh
open PySem PySem.Spec PyProof.Rows L2 LamX NdefX
/-- what the lambda finds in the slots js -/
def capsD (js : List Nat) (τ : Sl) : List (Option D) := js.map fun j => match τ[j]? with
  | some o => o
  | none => none
def capsP : List Nat → Sl → L2.St → List (D × V)
  | [], _, _ => []
  | j :: js, τ, σ => match τ[j]?, σ[j]? with
    | some (some d), some (some v) => (d, v) :: capsP js τ σ
    | _, _ => capsP js τ σ
theorem capsP_mem {τ : Sl} {σ : L2.St} {d : D} {v : V} {j : Nat} (h1 : τ[j]? = some (some d)) (h2 : σ[j]? = some (some v)) : ∀ {js : List Nat}, j ∈ js → (d, v) ∈ capsP js τ σ
  | i :: js, hm => by
    unfold capsP
    rcases List.mem_cons.mp hm with e | e
    · subst e
      rw [h1, h2]
      exact List.mem_cons_self
    · have := capsP_mem h1 h2 e
      split
      · exact List.mem_cons_of_mem _ this
      · exact this
theorem capsP_rd {K : PySem.W.Frag} {T : Tb} {ρ : List Addr} {H : Hp} {τ : Sl} {σ : L2.St} (l : RSl K T ρ H τ σ) : ∀ {js : List Nat} (x : D × V), x ∈ capsP js τ σ → RD K T ρ H x.1 x.2
  | [], x, h => by cases h
  | j :: js, x, h => by
    unfold capsP at h
    split at h
    · rename_i d v h1 h2
      rcases List.mem_cons.mp h with e | e
      · subst e
        obtain ⟨u, e1, e2⟩ := l.2.1 j d h1
        rw [h2] at e1
        cases e1
        exact e2
      · exact capsP_rd l x e
    · exact capsP_rd l x h
def eLamCall (F : (List D → M → R D) → List D → M → R D) (fe : Sl → M → R D) (N : Nat) (js : List Nat) (g : Sl → M → R D) : Sl → M → R D := fun τ m => (fe τ m).bind fun d m1 => F (gLam N (capsD js τ) g) [d] m1
/-- the def x, a parameter and a lambda -/
def DfL (P : Program) (w : World) (K : PySem.W.Frag) (mg : Str → Option Value) (base : Heap) (T : Tb) (x : Str) (k j nl : Nat) (F : (List D → M → R D) → List D → M → R D) : Prop :=
  ∃ f, mg x = some (.ref f) ∧ PySem.W.keepIn K (.ref f) = true ∧ FnL P w K mg base T k j nl f F
/-- the table of the def's code object -/
def TabAt (base : Heap) (mg : Str → Option Value) (T : Tb) (cdv : Value) (qual : Str) : Prop := ∃ c P, cdv = .ref c ∧ LamX.TabB base mg c P ∧ (P, qual) ∈ T.tabs ∧ ∀ p ∈ T.tabs, p.1 = P → p.2 = qual
section
variable {X : Cx} {T : Tb}
theorem ie_lamcall {x : Str} {F : (List D → M → R D) → List D → M → R D} {fe : Sl → M → R D} {k j : Nat} {params : Arguments} {body : Expr} {scope : Scope} {e : Expr} {p lpos pos : Pos} {N ps fr : List Str} {js : List Nat} {g : Sl → M → R D}
    (D' : DfL X.prog X.w X.K X.mg X.base T x k (j + 1) ps.length F) (hr : Room k X.A) (he : IE X T e fe) (tb : TabAt X.base X.mg T X.env.code (X.env.qual ++ "<lambda>")) (S : NScope N ps fr scope) {sc : Scope} (hb' : ndefB sc scope fr = true)
    (hbind : ∀ (q : Str) (cl : List (Str × Addr)) (pm cv ctv : Value) (us : List Value), us.length = ps.length → bindArgs (PySem.W.kla_fn "<lambda>" q params body scope cl pm cv ctv) ⟨us, []⟩ = pure (ps.zip us)) (hpn : T.pin = none)
    (hbody : ∀ (q : Str) (cl : List (Str × Addr)) (d f : Addr) (A : Around) (outer : List Env) (s : Shared) (H : Hp) (E : XK), Room j (A.deeper (envF ⟨"<lambda>", q, params, [], scope, cl, d⟩ f s.heap.objs.size)) →
      IE (ncx (L2.CX X.prog X.w) X.prog X.w X.K X.mg X.base N ⟨"<lambda>", q, params, [], scope, cl, d⟩ f A outer s H E) T body g)
    (hjs : js.map (fun j => X.N[j]?) = fr.map some := by rfl) (hsc : X.env.scope = sc := by rfl) (hg : Gl X x := by rfl) (hcab : ∀ y, X.fn y = true := by intro _; rfl) (hst : starEach [e, .Lambda params body scope lpos] X.env = (false, eval e X.env) :: starEach [.Lambda params body scope lpos] X.env := by rfl) (hdef : defaultsOf params X.env = ([], []) := by rfl) (hdb : (x == ("__debug__" : Str)) = false := by decide) :
    IE X T (.Call (.Name x p) [e, .Lambda params body scope lpos] [] pos) (eLamCall F fe N.length js g) := by
  have hb : ndefB X.env.scope scope fr = true := by rw [hsc]; exact hb'
  obtain ⟨fa, hm, hk, fd, dps, hdl, hbs, run⟩ := D'
  obtain ⟨c, P, hcode, TB, hmT, hu⟩ := tb
  refine ⟨fun W tk => ⟨fun pins s σ H Q I ⟨ρ, τ, m, R, l, q⟩ => ?_⟩⟩
  have hfree : ∀ y ∈ scope.names, y.2 = .free → ∃ c, X.env.cells.lookup y.1 = some c := fun y hy z => (ndef_free hb y hy z).elim (fun k => I.ok.has _ (.inl k)) fun k => I.ok.has _ (.inr k)
  refine wpAny_Call_Name_kw (ld_glob I hg hm ?_ hdb)
  refine PySem.W.callWith_K (h₀ := X.base) I.ok.mod.kin hk ?_ hst (by rfl)
  rw [hst]
  refine Calls.spliced_cons (thn ((he.run W tk).run pins s σ H (fun v H1 => ∃ ρ1 d m1, Ext X.K ρ H ρ1 H1 ∧ Rep X.K X.mg T ρ1 m1 H1 ∧ RD X.K T ρ1 H1 d v ∧ PR X.K X.mg T W σ ρ1 H1 (F (gLam N.length (capsD js τ) g) [d] m1) fun d ρ' _ H' => ∀ v, RD X.K T ρ' H' d v → Q v H') I
    ⟨ρ, τ, m, R, l, q.bind.imp fun d ρ1 m1 H1 e1 R1 q1 v rv => ⟨ρ1, d, m1, e1, R1, rv, q1⟩⟩) fun u1 s1 ⟨v1, H1, I1, r1, ρ1, d1, m1, e1, R1, rd1, q1⟩ => ?_)
  refine Calls.spliced_cons (lam_new I1 TB hcode hmT hu R1.tab hdef hfree fun f d pm ctv H2 s2 I2 eN kp2 T2 hf hfn hfr hd => ?_)
  refine Calls.spliced_nil ⟨I2.kIn, ?_⟩
  have stay : ∀ a ∈ ρ1, H2 a = H1 a := fun a ha => by
    obtain ⟨u, eu, nt⟩ := R1.mem2 ha
    rw [eu]
    exact eN a u eu nt.1
  have nb : ∀ {a : Addr} {o u : HO}, H1 a = some o → (∀ ps, o ≠ .tbl ps) → H2 a = some o := fun {a o u} h n => eN a o h n
  have e2 : Ext X.K ρ1 H1 ρ1 H2 := ⟨⟨[], by simp, by simp⟩, fun a xs h => ?_, fun a xs h => ?_, fun a o h _ ht => eN a o h ht, kp2⟩
  rotate_left
  · rcases h with (h | ⟨ob, h⟩) | h
    · exact .inl (.inl (eN _ _ h fun _ z => HO.noConfusion z))
    · exact .inl (.inr ⟨ob, eN _ _ h fun _ z => HO.noConfusion z⟩)
    · exact .inr h
  · rcases h with ⟨ob, h⟩ | h
    · exact .inl ⟨ob, eN _ _ h fun _ z => HO.noConfusion z⟩
    · exact .inr h
  have R2 : Rep X.K X.mg T ρ1 m1 H2 := R1.keep e2 stay T2
  have l2 : RSl X.K T ρ1 H2 τ σ := (l.ext e1).ext e2
  have dn : d ∉ ρ1 := fun z => by
    obtain ⟨u, eu, nt⟩ := R2.mem2 z
    rw [hd] at eu
    cases eu
    exact nt.2 _ _ rfl
  -- the lambda, as the def sees it
  let p' : Pin := ⟨1, f, d, X.env.qual ++ "<lambda>", capsP js τ σ⟩
  let L : NF := ⟨"<lambda>", X.env.qual ++ "<lambda>", params, [], scope, cloFrom X.env.cells scope.names [], d⟩
  have cp : Caps X L.cl fr js := Caps.made I2.ok (ndef_free hb) (ndef_fr hb) hjs
  have LA : LamAt s2 H2 (frs X.stack) p' L params body fr (js.map (slotAt σ)) := ⟨⟨pm, ctv, hf⟩, hfn, hfr, ⟨rfl, rfl⟩, cells_of I2 cp, fun y b e hb2 => ?_⟩
  rotate_left
  · have e' := cp.sub y b e
    rcases List.mem_cons.mp (I2.stkSub b hb2) with z | z
    · obtain ⟨m2, ⟨o, es, ep, ho, hd2, _⟩, _⟩ := I2.loc
      obtain ⟨v, o', ho', hd3⟩ := I2.cell y b e'
      rw [z, ho] at ho'
      cases ho'
      rw [hd2] at hd3
      cases hd3
    · obtain ⟨_, o, ho, _⟩ := I2.ok.funs.mem z
      exact Nat.lt_irrefl _ (Nat.lt_of_lt_of_le (Heap.lt_size ho) (I2.ok.cab y b (hcab y) e'))
  have lo : LOk X.prog X.w X.K X.mg X.base T (j + 1) p' L params body fr (js.map (slotAt σ)) ps.length (gLam N.length (capsD js τ) g) := by
    refine lok_mk S (fun pm cv ctv us hl => hbind _ _ pm cv ctv us hl) (by simp [capsD]) (fun i dd e => ?_) hpn fun A outer s H E hr' => hbody _ _ d f A outer s H E hr'
    unfold capsD at e
    rw [List.getElem?_map] at e
    cases ej : js[i]? with
    | none => rw [ej] at e; cases e
    | some jj =>
      rw [ej] at e
      have e' : (match τ[jj]? with
        | some o => o
        | none => none) = some dd := by simpa using e
      cases et : τ[jj]? with
      | none => rw [et] at e'; cases e'
      | some o =>
        rw [et] at e'
        have e' : o = some dd := e'
        subst e'
        obtain ⟨v, h1, h2⟩ := l.2.1 jj dd et
        exact ⟨v, by rw [List.getElem?_map, ej]; exact congrArg some (slotAt_of h1), capsP_mem et h1 (List.mem_of_getElem? ej)⟩
  have bt := hbs s2 [u1, .ref f] I2.kIn (by simpa using hdl.symm)
  rw [List.append_nil] at bt
  refine wpAny_call (codeAny_mono (run X.A X.stack s2 H2 ⟨[u1, .ref f], []⟩ [u1, .ref f] v1 Q (WE W σ) p' L params body fr _ _ hr I2.env0 bt (.cons r1 (.cons rfl .nil)) rfl LA lo ⟨ρ1, d1, m1, R2, RD.ext e2 _ _ rd1, fun x hx => capsP_rd l2 x hx, hd, dn, ?_⟩) fun res s' hq => ?_)
  · exact (q1.ext e2).flat
  · cases res with
    | error er => exact passAt tk σ pins H2 s2 er s' I2 hq
    | ok fl =>
      cases fl with
      | ret u => exact I2.after hq
      | next => exact False.elim hq
      | brk => exact False.elim hq
      | cont => exact False.elim hq
end
@[simp] theorem eLam_eq {i n : Nat} {G : List D → M → R D} {fa : Sl → M → R (List D)} {τ : Sl} {m : M} : eLam i n G fa τ m = match τ[i]? with
  | some none => (fa τ m).bind fun ds m1 => if ds.length = n then G ds m1 else .bad
  | _ => .bad := rfl
@[simp] theorem eLamCall_eq {F : (List D → M → R D) → List D → M → R D} {fe : Sl → M → R D} {N : Nat} {js : List Nat} {g : Sl → M → R D} {τ : Sl} {m : M} : eLamCall F fe N js g τ m = (fe τ m).bind fun d m1 => F (gLam N (capsD js τ) g) [d] m1 := rfl
end Sh

set_option Elab.async false
set_option linter.all false
set_option autoImplicit false
set_option maxRecDepth 100000
set_option maxHeartbeats 2000000
/-! ShW: a list comprehension whose element may raise. -/
namespace Sh
open PySem PySem.Spec PyProof.Rows L2
/-! ### the comprehension, with what it does of an exception -/
section
variable {M : Model} {A : Around} {E : Value → Shared → Prop} {s : Shared} {env : Env}
/-- behind the block: its variables are let go -/
def compEnd (M : Model) (A : Around) (E : Value → Shared → Prop) (Q : Value → Shared → Prop) (acc : Value) (cenv : Env) : Result → Shared → Prop
  | .ok _, s' => ∃ m, s'.heap.Ns cenv.locals m ∧ ∀ h', Heap.SameBut cenv.locals s'.heap h' → Q acc { s' with heap := h' }
  | .error x, s' => ∃ m, s'.heap.Ns cenv.locals m ∧ ∀ h', Heap.SameBut cenv.locals s'.heap h' → ∀ cv : Env, cv.frame = cenv.frame → wpAny M A (passOn "comprehension.variables-let-go" x cv : Sem Value) (fun _ _ => False) E { s' with heap := h' }
theorem comp_ex {e : Expr} {scope : Scope} {pos : Pos} {newAcc first : Sem Value} {g : Comprehension} {gs : List Comprehension} {cl : List (Str × Addr)} {Q : Value → Shared → Prop}
    (hcl : clausesOf e = g :: gs) (hs : ∀ x, foldedSetIterable g.iter env x = pure x) (hclos : closureFor scope env = pure cl) (hkind : scope.kind = .function) (hnames : ∀ x ∈ scope.names, x.2 = .local → scope.names.lookup x.1 = some .local)
    (h : wpAny M A first (fun x s1 => wpAny M A (pyIter x) (fun it s2 => wpAny M A newAcc (fun acc s3 => wpAny M A (newFunctionEnv scope env.globals cl [] env.qual none .none (some env)) (fun cenv s4 =>
        codeAny M A (.compStart e 0 it acc { cenv with scope := relabel scope env }) (compEnd M A E Q acc cenv) s4) E s3) E s2) E s1) E s) :
    wpAny M A (comprehension e scope env pos newAcc false first none) Q E s := by
  have same : ∀ {x : Value} {s' : Shared}, E x s' → E x s' := fun q => q
  have loc : ∀ cenv : Env, ∀ x ∈ (scope.names.filter fun x => (x.2 == .local || x.2 == .cell) && x.1 != (".0" : Str)).reverse, x.2 = .local → Env.kindOf { cenv with scope := relabel scope env } x.1 = some .local :=
    fun cenv x hx hl => lookup_relabel_local (hnames x (List.mem_filter.mp (List.mem_reverse.mp hx)).1 hl)
  unfold comprehension
  rw [hclos, hcl]
  refine wpAny_bind (wpAny_mono h ?_ fun _ _ q => q)
  intro x s1 h1
  refine wpAny_bind (wpAny_standAt (wpAny_bind (wpAny_of_eq (hs x) ?_)))
  refine wpAny_bind (wpAny_holding (wpAny_mono h1 ?_ fun _ _ q => q))
  intro it s2 h2
  refine wpAny_standIf (wpAny_bind (wpAny_mono h2 ?_ fun _ _ q => q))
  intro acc s3 h3
  refine wpAny_bind (wpAny_pure (wpAny_bind (wpAny_mono h3 ?_ fun _ _ q => q)))
  intro cenv s4 h4
  dsimp only
  refine wpAny_holding (wpAny_bind (wpAny_attempt (wpAny_holding (wpAny_run (codeAny_mono h4 ?_)))))
  intro r s' hr
  cases r with
  | ok f =>
    obtain ⟨m, hn, hq⟩ := hr
    refine wpAny_bind (wpAny_holding (wpAny_comp_letGo (cenv := { cenv with scope := relabel scope env }) hkind _ s' m (loc cenv) hn ?_))
    intro h' m' _ sb
    exact wpAny_pure (hq h' sb)
  | error x =>
    obtain ⟨m, hn, hq⟩ := hr
    refine wpAny_bind (wpAny_holding (wpAny_comp_letGo (cenv := { cenv with scope := relabel scope env }) hkind _ s' m (loc cenv) hn ?_))
    intro h' m' _ sb
    exact wpAny_mono (hq h' sb _ rfl) (fun _ _ f => f.elim) fun _ _ y => y
end
/-! ### an exception that a block lets out -/
theorem note_same {a b : Env} {e : Value} (h : a.frame = b.frame) : noteFrame e a = noteFrame e b := by
  unfold noteFrame PySem.frameOf
  rw [h]
section
variable {M : Model} {A : Around} {E : Value → Shared → Prop} {s : Shared} {env : Env} {outer : List Env} {B : Heap} {e L C : Addr} {Z : Obj → Prop}
/-- it is noted by the frame at L, that had it not in its hand -/
theorem note_other {fl : Value} {Q : Unit → Shared → Prop} (hZ : HandSPX.Steady Z) (hfr : A.frames = some (env :: outer)) (hf : env.frame = some L) (st : B.StaysIn s.heap) (hn : B.get? e = none) (ff : s.heap.FunFrames B (env :: outer)) (tr : HandSPX.TracedZ s.heap B e Z fl) (hfl : (fl == rawInt L) = false)
    (go : ∀ h', HandSPX.HeldZ B (env :: outer) e Z L h' → s.heap.UpToSlots h' → Q () { s with heap := h' }) : wpAny M A (noteFrame (.ref e) env) Q E s := by
  obtain ⟨oe, vs, T, oT, ts, he, hz, hd, h1, nT, Te, hT, dT, h3⟩ := tr
  have apart : ∀ b o, s.heap.get? b = some o → (∀ vs, o.data ≠ .fields vs) → b ≠ T := fun b o hb hnf z => by
    subst z
    rw [hT] at hb
    cases hb
    exact hnf ts dT
  have keep : ∀ b, b ≠ T → (s.heap.update T (Obj.mapFields (·.setIfInBounds 3 Value.none))).get? b = s.heap.get? b := fun b hb => Heap.get?_update_other _ _ (Ne.symm hb)
  unfold noteFrame
  simp only [hf]
  refine wpAny_bind (wpAny_field he hd h1 ?_)
  rw [if_pos (by simp)]
  refine wpAny_bind (wpAny_field hT dT h3 ?_)
  rw [if_neg (by rw [hfl]; decide)]
  refine wpAny_bind (wpAny_setField hT dT (Array.getElem?_eq_some_iff.mp h3).1 ?_)
  refine HandSPX.wpAny_entryZ hZ hfr (ff.of_keeps fun b o hb hnf => ⟨o, by rw [keep b (apart b o hb hnf)]; exact hb, rfl⟩) hf (by rw [keep e (Ne.symm Te)]; exact he) (fun b o hb => ?_) hn hd (Array.getElem?_eq_some_iff.mp h1).1 hz ?_
  · rw [keep b fun z => by rw [z, nT] at hb; cases hb]
    exact st b o hb
  · rintro h' ⟨k1, k2, k3, k4⟩
    exact go h' ⟨k1, hn, k2, k3⟩ fun b o hb hnf => k4 b o (by rw [keep b (apart b o hb hnf)]; exact hb) hnf
theorem note_sky {Q : Unit → Shared → Prop} (hZ : HandSPX.Steady Z) (hfr : A.frames = some (env :: outer)) (hf : env.frame = some L) (hne : C ≠ L) (x : Sky B (env :: outer) e Z C s.heap)
    (go : ∀ h', HandSPX.HeldZ B (env :: outer) e Z L h' → s.heap.UpToSlots h' → Q () { s with heap := h' }) : wpAny M A (noteFrame (.ref e) env) Q E s := by
  rcases x with ⟨k1, k2, k3, oe, vs, he, hz, hd, h1⟩ | fl | ⟨k1, k2, k3, k4⟩
  · exact HandSPX.look_newZ hZ hfr k3 hf he k1 k2 hd h1 hz go
  · exact HandSPX.looks_onZ hZ hfr hf fl go
  · exact note_other hZ hfr hf k1 k2 k3 k4 (beq_eq_false_iff_ne.mpr fun z => hne (by unfold rawInt at z; injection z with z; exact Int.ofNat.inj z)) go
end
section
variable {X : Cx} {pins : List (Addr × Obj)} {σ : L2.St} {H H' : Hp} {s s' : Shared} {B : Heap} {W : WX} {ch : List Addr} {a : Addr} {cls : Value} {d : Option Addr}
/-- in the air of X, in the hand of X's own frame: B the ground -/
theorem XE_of_held (I : Inv X pins σ H s) (hh : HandSPX.HeldZ B X.stack a (Zc cls d) X.env.locals s'.heap) (hok : HOk X.prog X.w H' B)
    (k1 : ∀ b o, s.heap.get? b = some o → H b = none → b ∉ frs X.stack → b ∉ ch → B.get? b = some o) (k2 : ∀ b o, s.heap.get? b = some o → b ∈ frs X.stack → ∃ sl, s'.heap.get? b = some { o with slots := sl }) (k3 : ∀ b o, s.heap.get? b = some o → H b = none → b ∉ ch → H' b = none)
    (k4 : ∀ b o, s.heap.get? b = some o → b ∉ frs X.stack → b ∉ ch → ∃ o', B.get? b = some o') (k5 : ∀ b xs, H b = some (.tup xs) → H' b = some (.tup xs)) (k6 : ∀ b o u, H b = some (.frz o u) → H' b = some (.frz o u)) (k7 : ∀ b ps, H b = some (.tbl ps) → ∃ more, H' b = some (.tbl (ps ++ more)))
    (hch : ∀ b ∈ ch, (b ∈ X.ex ∨ X.s_0.heap.objs.size ≤ b) ∧ b ≠ X.env.locals ∧ (∀ x c, X.env.cells.lookup x = some c → c ≠ b) ∧ ∀ p ∈ X.pn ++ pins, p.1 ≠ b) (na : H' a = none) (os : s'.os = s.os) (ag : AllBare s'.gens) (hw : W cls d σ H') : XE X W (.ref a) s' := by
  obtain ⟨G, g1, g2⟩ := restrict s'.heap fun b => (B.get? b).isSome || decide (b ∈ frs X.stack)
  have inB : ∀ b o, B.get? b = some o → G.get? b = some o := fun b o e => by
    rw [g1 b (by rw [e]; rfl)]
    exact hh.1 b o e
  have fromG : ∀ b o, G.get? b = some o → s'.heap.get? b = some o ∧ (b ∈ frs X.stack ∨ ∃ o', B.get? b = some o') := fun b o e => by
    by_cases q : ((B.get? b).isSome || decide (b ∈ frs X.stack)) = true
    · rw [g1 b q] at e
      refine ⟨e, ?_⟩
      rcases (by simpa [Bool.or_eq_true] using q : (B.get? b).isSome = true ∨ b ∈ frs X.stack) with z | z
      · exact .inr (Option.isSome_iff_exists.mp z)
      · exact .inl z
    · rw [g2 b (by simpa using q)] at e
      cases e
  have J : Inv X pins σ H' { s with heap := G, gens := s'.gens, drawn := s'.drawn, toks := s'.toks } := by
    refine I.call (ch := ch) ⟨fun b o e n hb hc => inB b o (k1 b o e n hb hc), fun b o e n hb hc => ?_, fun b o e n hc => k3 b o e n hc, fun b o e hc => ?_, k5, k6, k7⟩ (hok.kept inB) ag hch
    · obtain ⟨sl, q⟩ := k2 b o e hb
      exact ⟨sl, by rw [g1 b (by simp [hb])]; exact q⟩
    · by_cases hb : b ∈ frs X.stack
      · obtain ⟨sl, q⟩ := k2 b o e hb
        exact ⟨_, by rw [g1 b (by simp [hb])]; exact q⟩
      · obtain ⟨o', q⟩ := k4 b o e hb hc
        exact ⟨o', inB b o' q⟩
  refine ⟨a, B, _, pins, σ, H', cls, d, rfl, J, fun b o e hb => ?_, Heap.UpToSlots.of_keeps fun b o e => (fromG b o e).1, .inr (.inr hh), na, os, ag, hw⟩
  obtain ⟨e', h⟩ := fromG b o e
  rcases h with h | ⟨o', q⟩
  · exact absurd h hb
  · have z := hh.1 b o' q
    rw [e'] at z
    cases z
    exact q
end
/-- the context of a block that may let an exception out -/
abbrev Cx_blkE (X : Cx) (s : Shared) (H : Hp) (scope : Scope) (cenv : Env) (fp : List Addr) (xe : Value → Shared → Prop) : Cx := { X.blk s H scope cenv fp with xe := xe }
section
variable {X : Cx} {s0 : Shared} {H0 : Hp} {scope : Scope} {ce : Env} {fp : List Addr} {xe : Value → Shared → Prop} {pins : List (Addr × Obj)} {σ : L2.St} {H : Hp} {s : Shared}
theorem blkE_ok (k : (X.blk s0 H0 scope ce fp).Ok) : (Cx_blkE X s0 H0 scope ce fp xe).Ok := ⟨k.mod, k.kind, k.glob, k.blt, k.above, k.inj, k.has, k.cab, k.hd, k.frames, k.stk, k.exf, k.bs, k.bsz, k.noex, k.exfs, k.funs, k.frf⟩
theorem blkE_ko (k : (Cx_blkE X s0 H0 scope ce fp xe).Ok) : (X.blk s0 H0 scope ce fp).Ok := ⟨k.mod, k.kind, k.glob, k.blt, k.above, k.inj, k.has, k.cab, k.hd, k.frames, k.stk, k.exf, k.bs, k.bsz, k.noex, k.exfs, k.funs, k.frf⟩
theorem blkE_in (I : Inv (X.blk s0 H0 scope ce fp) pins σ H s) : Inv (Cx_blkE X s0 H0 scope ce fp xe) pins σ H s := ⟨blkE_ok I.ok, I.os, I.bare, I.base, I.loc, I.cell, I.free, I.freeC, I.pin, I.hok, I.len⟩
theorem blkE_out (I : Inv (Cx_blkE X s0 H0 scope ce fp xe) pins σ H s) : Inv (X.blk s0 H0 scope ce fp) pins σ H s := ⟨blkE_ko I.ok, I.os, I.bare, I.base, I.loc, I.cell, I.free, I.freeC, I.pin, I.hok, I.len⟩
end
theorem frames_at {base h h' : Heap} : ∀ {l : List Env}, h.FunFrames base l → (∀ b ∈ frs l, h'.get? b = h.get? b) → h'.FunFrames base l
  | [], _, _ => trivial
  | env :: l, ff, k => by
    obtain ⟨a, ⟨L, o, hf, hn, ho, hd⟩, hr⟩ := ff
    exact ⟨a, ⟨L, o, hf, hn, (k L (List.mem_filterMap.mpr ⟨env, List.mem_cons_self, hf⟩)).trans ho, hd⟩, frames_at hr fun b hb => k b (by
      obtain ⟨e, he, q⟩ := List.mem_filterMap.mp hb
      exact List.mem_filterMap.mpr ⟨e, List.mem_cons_of_mem _ he, q⟩)⟩
theorem ns_sameBut {C : Addr} {h h' : Heap} {m : Str → Option Value} (up : h.UpToSlots h') (n : h.Ns C m) : h'.Ns C m := by
  obtain ⟨o, es, ep, e, d, r⟩ := n
  obtain ⟨sl, q⟩ := up C o e fun vs z => by rw [d] at z; cases z
  exact ⟨_, es, ep, q, d, r⟩
section
variable {X : Cx} {pins : List (Addr × Obj)} {σ : L2.St} {H0 : Hp} {s0 s' : Shared} {scope : Scope} {ce ce0 : Env} {fp : List Addr} {xe : Value → Shared → Prop} {V : XK} {W : WX} {u acc : Value} {Q : Value → Shared → Prop}
/-- the block's exception is noted by the def's frame, and goes on to the def -/
theorem blk_exit (I : Inv X pins σ H0 s0) (hs : X.stack = X.env :: X.outer) (hf : X.env.frame = some X.env.locals) (hce : ce.frame = X.env.frame) (hC : ce.locals = s0.heap.objs.size) (h0 : ce0.locals = ce.locals) (h1 : ce0.frame = ce.frame)
    (f3 : ∀ b ∈ fp, FpOk X pins H0 b ∧ b < s0.heap.objs.size) (tk : Takes X W) (hV : ∀ c d H', V c d H' → W c d σ H') (x : XE (Cx_blkE X s0 H0 scope ce fp xe) (fun c d _ H' => V c d H') u s') :
    notedBy (model X.prog X.w) X.A ce (fun e s'' => compEnd (model X.prog X.w) X.A X.xe Q acc ce0 (.error e) s'') u s' := by
  obtain ⟨a, B, sI, pins', σ', H', cls, d, rfl, J, nb, up, sky, na, os, ag, hv⟩ := x
  have J' := blkE_out J
  have fr : X.A.frames = some (X.env :: X.outer) := by rw [I.ok.frames, hs]
  have CL : ce.locals ≠ X.env.locals := fun z => by
    have := I.lt
    rw [← z, hC] at this
    exact Nat.lt_irrefl _ this
  have old : ∀ {b : Addr} {o : Obj}, s0.heap.get? b = some o → b ≠ ce.locals := fun {b o} e z => by
    have := Heap.lt_size e
    rw [z, hC] at this
    exact Nat.lt_irrefl _ this
  have sky' : Sky B (X.env :: X.outer) a (Zc cls d) ce.locals s'.heap := by rw [← hs]; exact sky
  unfold notedBy
  rw [note_same hce]
  refine note_sky Zc.steady fr hf CL sky' fun h1' hh1 up1 => ?_
  rw [← hs] at hh1
  obtain ⟨mI, hnI, _⟩ := J'.loc
  have hn1 : h1'.Ns ce.locals mI := ns_sameBut up1 (ns_sameBut up hnI)
  refine ⟨mI, by rw [h0]; exact hn1, fun h2 sb cv hcv => ?_⟩
  rw [h0] at sb
  -- the block's dict is no record
  have notC : ∀ {b : Addr} {o : Obj} {vs : Array Value}, h1'.get? b = some o → o.data = .fields vs → b ≠ ce.locals := fun {b o vs} e dd z => by
    obtain ⟨o', es, ep, e', d', _⟩ := hn1
    rw [z, e'] at e
    cases e
    rw [d'] at dd
    cases dd
  have keep2 : ∀ b, b ≠ ce.locals → h2.get? b = h1'.get? b := fun b hb => sb.2 b hb
  -- the ground without it
  have B2 : ∀ b o, (PySem.W.hideAll B [ce.locals]).get? b = some o → B.get? b = some o ∧ b ≠ ce.locals := fun b o e => ⟨PySem.W.of_hideAll _ e, fun z => by
    have e' := PySem.W.hideAll_none (h := B) (b := b) [ce.locals] (by rw [z]; exact List.mem_cons_self)
    rw [e'] at e
    cases e⟩
  have toB2 : ∀ {b : Addr} {o : Obj}, B.get? b = some o → b ≠ ce.locals → (PySem.W.hideAll B [ce.locals]).get? b = some o := fun {b o} e hb => PySem.W.hideAll_get _ e (by simpa using hb)
  have none2 : ∀ {b : Addr}, B.get? b = none → (PySem.W.hideAll B [ce.locals]).get? b = none := fun {b} e => by
    cases q : (PySem.W.hideAll B [ce.locals]).get? b with
    | none => rfl
    | some o => rw [(B2 b o q).1] at e; cases e
  obtain ⟨st, hna, ff, oe, vs, T, oT, ts, he, hz, hd, hv1, nT, Te, hT, dT, h3⟩ := hh1
  have aC := notC he hd
  have TC := notC hT dT
  have hokB := J.inGround nb
  have hokB2 : HOk X.prog X.w H' (PySem.W.hideAll B [ce.locals]) := fun b o e => by
    have nc : ∀ {c : Addr} {o : HO}, H' c = some o → c ≠ ce.locals := fun {c o} e z => by
      have : H' ce.locals = none := J.free
      rw [z, this] at e
      cases e
    exact (hokB b o e).stay (fun c v hc q => toB2 q (hc.elim (fun z => by rw [z]; exact nc e) fun z => nc z)) (fun _ q => q) fun _ _ q => q
  have traced : ∀ h : Heap, (∀ b, b ≠ ce.locals → h.get? b = h1'.get? b) → (PySem.W.hideAll B [ce.locals]).StaysIn h ∧ h.FunFrames (PySem.W.hideAll B [ce.locals]) X.stack ∧ HandSPX.TracedZ h (PySem.W.hideAll B [ce.locals]) a (Zc cls d) (rawInt X.env.locals) := fun h k => by
    refine ⟨fun b o e => ?_, ?_, oe, vs, T, oT, ts, by rw [k a aC]; exact he, hz, hd, hv1, none2 nT, Te, by rw [k T TC]; exact hT, dT, h3⟩
    · obtain ⟨e1, e2⟩ := B2 b o e
      rw [k b e2]
      exact st b o e1
    · refine funFrames_none (frames_at (h := h1') ff fun b hb => ?_) fun b hb => none2 (ff.mem hb).1
      obtain ⟨_, o, ho, _⟩ := I.stack.mem hb
      exact k b (old ho)
  obtain ⟨t1, t2, t3⟩ := traced h2 keep2
  unfold PySem.passOn
  have he2 : h2.get? a = some oe := by rw [keep2 a aC]; exact he
  refine wpAny_bind (wpAny_field he2 hd hv1 ?_)
  rw [if_neg (show ¬ ((Value.ref T == Value.none) = true) from by simp)]
  have fin : wpAny (model X.prog X.w) X.A (setFlight (.ref a) cv.frame) (fun _ s4 => wpAny (model X.prog X.w) X.A (throw (.ref a) : Sem Value) (fun _ _ => False) X.xe s4) X.xe { s' with heap := h2 } := by
    rw [hcv, h1, hce, hf]
    refine HandSPX.setFlight_anyZ t1 t2 t3 fun h4 q1 q2 q3 up4 => wpAny_throw (tk _ _ ?_)
    refine XE_of_held (ch := fp) I ⟨q1, none2 hna, q2, q3⟩ hokB2 (fun b o e n hb hc => toB2 (nb b o (J.base.keep b o e n hb hc) hb) (old e)) (fun b o e hb => ?_) (fun b o e n hc => J.base.free b o e n hc) (fun b o e hb hc => ?_) J.base.tups J.base.frzs J.base.tbls
      (fun b hb => ?_) na (os.trans (J.os)) ag (hV _ _ _ hv)
    · obtain ⟨_, o1, e1, hnf⟩ := I.stack.mem hb
      rw [e] at e1
      cases e1
      obtain ⟨sl, y1⟩ := J.base.slot b o e (I.stkFree b hb) hb (fun hc => (List.mem_cons.mp (I.stkSub b hb)).elim (f3 b hc).1.2.1 (f3 b hc).1.2.2.1)
      obtain ⟨sl2, y2⟩ := up b _ y1 hnf
      obtain ⟨sl3, y3⟩ := up1 b _ y2 hnf
      obtain ⟨sl4, y4⟩ := up4 b _ ((keep2 b (old e)).trans y3) hnf
      exact ⟨sl4, y4⟩
    · obtain ⟨o', y⟩ := J.base.there b o e hc
      exact ⟨o', toB2 (nb b o' y hb) (old e)⟩
    · obtain ⟨f0, _⟩ := f3 b hb
      obtain ⟨z1, z2, z3, z4, z5, z6⟩ := f0
      exact ⟨z4, z2, z5, z6⟩
  first
    | exact wpAny_bind (wpAny_pure (wpAny_bind fin))
    | exact wpAny_bind fin
end
end Sh

set_option Elab.async false
set_option linter.all false
set_option autoImplicit false
set_option maxRecDepth 100000
set_option maxHeartbeats 2000000
namespace Sh
open PySem PySem.Spec PyProof.Rows L2
section
variable {X : Cx}
/-- [e for t in ..], where e may raise: W takes what it lets out -/
theorem pe_lcE {elt tg iter : Expr} {scope : Scope} {own : List (Str × Nat)} {pos : Pos} {wi : TI} {g : TG} {te : L2.St → TE} {W : WX} (tk : Takes X W) (hstk : X.stack = X.env :: X.outer) (hfr : X.env.frame = some X.env.locals) (hc : X.calm = true) (hN : X.N.Nodup) (hi : PI X tg iter wi) (ok : BlkOk X.N X.env.scope scope own)
    (hg : ∀ (s : Shared) (H : Hp) (C : Addr) (cl : List (Str × Addr)) (fp : List Addr), PG (X.blk s H scope (compEnvC scope cl C X.env) fp) tg g)
    (he : ∀ (σ : L2.St) (s : Shared) (H : Hp) (C : Addr) (cl : List (Str × Addr)) (fp : List Addr) (xe : Value → Shared → Prop), Takes (Cx_blkE X s H scope (compEnvC scope cl C X.env) fp xe) (fun c d _ H' => W c d σ H') → PE (Cx_blkE X s H scope (compEnvC scope cl C X.env) fp xe) elt (te σ))
    (hs : ∀ x, foldedSetIterable iter X.env x = pure x) : PE X (.ListComp elt [⟨tg, iter, [], 0⟩] scope pos) (fun σ H Q => tLc wi g tYes (te σ) (own.map (·.2)) σ H Q) := by
  refine ⟨fun pins s σ H Q I h => ?_⟩
  rw [eval_ListComp]
  have free : ∀ y ∈ scope.names, y.2 = .free → ∃ c, X.env.cells.lookup y.1 = some c := fun y hy e => (ok.free y hy e).elim (fun k => I.ok.has _ (.inl k)) fun k => I.ok.has _ (.inr k)
  refine comp_ex rfl hs (closure_ok free) ok.kind (fun y hy e => by rw [ok.uniq y hy, e]) (thn (hi.run pins s σ H _ I h) fun xv s1 h1 => thn h1 fun itv s2 h2 => ?_)
  obtain ⟨it, fp, tn, J, H2, rfl, I2, tw, st2, f2, q⟩ := h2
  refine wpAny_newObj_type (newEnv_comp ?_) (Nat.zero_le _)
  obtain ⟨D, hD⟩ : ∃ D, s2.heap.objs.size = D := ⟨_, rfl⟩
  have freshD : H2 D = none := I2.hok.fresh (by rw [hD]; exact Nat.le_refl _)
  obtain ⟨Wf, ⟨m0, w0⟩, turn⟩ := q D freshD
  obtain ⟨s3, h3⟩ : ∃ s3 : Shared, ({ s2 with heap := s2.heap.push { cls := .type "list", data := .seq ([] : List Value).toArray } } : Shared) = s3 := ⟨_, rfl⟩
  have e3 : s3.heap = s2.heap.push { cls := .type "list", data := .seq ([] : List Value).toArray } := by rw [← h3]
  have keep3 : ∀ b o, s2.heap.get? b = some o → s3.heap.get? b = some o := fun b o e => by rw [e3]; exact Heap.get?_push_of_some _ e
  have I3 : Inv X pins σ (upd H2 D (.lst [])) s3 := by
    have := I2.laid (t' := s2.toks) (a := D) (o := .lst []) (h' := s3.heap) keep3 (by rw [hD]; exact Nat.le_refl _) ⟨Nat.zero_le _, [], 0, .nil, by rw [e3, ← hD]; exact Heap.get?_push_size _ rfl⟩
    rw [← h3] at this ⊢
    exact this
  have below : ∀ b ∈ fp, b < s2.heap.objs.size := fun b hb => by
    obtain ⟨o, e, _⟩ := tw.obj _ _ st2 b hb
    exact Heap.lt_size e
  have f3 : ∀ b ∈ fp, FpOk X pins (upd H2 D (.lst [])) b ∧ b < s3.heap.objs.size := fun b hb => by
    have lt := below b hb
    obtain ⟨z1, z2⟩ := f2 b hb
    refine ⟨⟨by rw [upd_ne (by rw [← hD]; exact Nat.ne_of_lt lt)]; exact z1, z2⟩, ?_⟩
    rw [e3, Heap.size_push]
    exact Nat.lt_succ_of_lt lt
  have I4 := block_start I3 ok hN f3
  rw [show ({ s2 with heap := s2.heap.push { cls := .type "list", dict := none, data := .seq ([] : List Value).toArray } } : Shared) = s3 from h3]
  obtain ⟨H3, hH3⟩ : ∃ H3, upd H2 D (.lst []) = H3 := ⟨_, rfl⟩
  have pg := hg s3 H3 s3.heap.objs.size (cellsFrom (s3.heap.objs.size + 1) scope.names (cloFrom X.env.cells scope.names [])) fp
  have pe := he σ s3 H3 s3.heap.objs.size (cellsFrom (s3.heap.objs.size + 1) scope.names (cloFrom X.env.cells scope.names [])) fp
  obtain ⟨ce, hce⟩ : ∃ ce, compEnvC scope (cellsFrom (s3.heap.objs.size + 1) scope.names (cloFrom X.env.cells scope.names [])) s3.heap.objs.size X.env = ce := ⟨_, rfl⟩
  show codeAny _ _ (.compStart (.ListComp elt [⟨tg, iter, [], 0⟩] scope pos) 0 (.ref it) (.ref s2.heap.objs.size) (compEnvC scope (cellsFrom (s3.heap.objs.size + 1) scope.names (cloFrom X.env.cells scope.names [])) s3.heap.objs.size X.env)) (compEnd (model X.prog X.w) X.A X.xe _ (.ref s2.heap.objs.size) (newEnv scope s3.heap.objs.size X.env.globals (cellsFrom (s3.heap.objs.size + 1) scope.names (cloFrom X.env.cells scope.names [])) X.env.qual none .none (some X.env) builtinsNs)) { s3 with heap := pushCells (s3.heap.push { cls := .type "dict", data := .dict #[] }) scope.names }
  have ce0L : (newEnv scope s3.heap.objs.size X.env.globals (cellsFrom (s3.heap.objs.size + 1) scope.names (cloFrom X.env.cells scope.names [])) X.env.qual none .none (some X.env) builtinsNs).locals = s3.heap.objs.size := rfl
  have ce0F : (newEnv scope s3.heap.objs.size X.env.globals (cellsFrom (s3.heap.objs.size + 1) scope.names (cloFrom X.env.cells scope.names [])) X.env.qual none .none (some X.env) builtinsNs).frame = X.env.frame := rfl
  generalize newEnv scope s3.heap.objs.size X.env.globals (cellsFrom (s3.heap.objs.size + 1) scope.names (cloFrom X.env.cells scope.names [])) X.env.qual none .none (some X.env) builtinsNs = c0 at ce0L ce0F ⊢
  have ceL : ce.locals = s3.heap.objs.size := by rw [← hce]; rfl
  have ceF : ce.frame = X.env.frame := by rw [← hce]; rfl
  have noneF : ∀ b ∈ fp, H3 b = none := fun b hb => by rw [← hH3]; exact (f3 b hb).1.1
  rw [hD]
  rw [hce] at pg pe ⊢
  rw [hH3] at I3 I4 w0 f3
  rw [hce] at I4
  obtain ⟨s4, h4⟩ : ∃ s4 : Shared, ({ s3 with heap := pushCells (s3.heap.push { cls := .type "dict", data := .dict #[] }) scope.names } : Shared) = s4 := ⟨_, rfl⟩
  rw [h4] at I4 ⊢
  have st3 : tn 0 s3.heap := tw.keep _ _ _ st2 fun b _ o e => keep3 b o e
  have st4 : tn 0 s4.heap := tw.keep _ _ _ st3 fun b _ o e => by rw [← h4]; exact pushCells_keeps _ _ _ _ (Heap.get?_push_of_some _ e)
  -- the iterator's objects, seen from the block
  have own_ : ∀ {σ' : L2.St} {H' : Hp} {s' : Shared}, Inv (X.blk s3 H3 scope ce fp) [] σ' H' s' → (∀ b ∈ fp, H' b = none) → ∀ b ∈ fp, FpOk (X.blk s3 H3 scope ce fp) [] H' b := fun {σ' H' s'} J hn b hb =>
    ⟨hn b hb, (J.ok.exf b hb).1, J.ok.exfs b hb, .inl hb, fun x c e => (J.ok.exf b hb).2 x c e, fun p hp => absurd (show p ∈ ([] : List (Addr × Obj)) ++ [] from hp) (by simp)⟩
  have run : codeAny (model X.prog X.w) X.A (.compLoop (.ListComp elt [⟨tg, iter, [], 0⟩] scope pos) 0 (.ref it) (.ref D) ce) (compEnd (model X.prog X.w) X.A X.xe (fun v s' => EP X pins σ Q v s') (.ref D) c0) s4 := by
    refine compLoop_any (fun n s' => ∃ i H', Inv (X.blk s3 H3 scope ce fp) [] (wipe σ (own.map (·.2))) H' s' ∧ tn i s'.heap ∧ (∀ b ∈ fp, H' b = none) ∧ Wf i n H') ?_ m0 ⟨0, H3, I4, st4, noneF, w0⟩
    rintro n s5 ⟨i, H5, I5, st5, n5, w5⟩
    rcases turn i n H5 w5 with ⟨halt, hq⟩ | ⟨go, Nx, hNx, step⟩
    · refine thnF (tw.done (X.blk s3 H3 scope ce fp) rfl rfl rfl hc i [] s5 _ H5 (fun _ _ => False) I5 (own_ I5 n5) st5 halt) ?_
      rintro r s6 ⟨rfl, I6⟩
      have I7 : Inv X pins σ H5 s6 := I3.call' (ch := fp) I6.os I6.base I6.hok I6.bare fun b hb => ⟨(f3 b hb).1.2.2.2.1, (f3 b hb).1.2.1, (f3 b hb).1.2.2.2.2.1, (f3 b hb).1.2.2.2.2.2⟩
      have nC : H5 s3.heap.objs.size = none := by
        have z : H5 ce.locals = none := I6.free
        rw [ceL] at z
        exact z
      obtain ⟨m, hn, _⟩ := I6.loc
      refine ⟨m, by rw [ce0L, ← ceL]; exact hn, fun h' sb => ?_⟩
      rw [ce0L] at sb
      obtain ⟨y0, y1, y2, y3, y4, y5⟩ := I3.fpOk (Nat.le_refl _) nC
      exact ⟨.ref D, H5, I7.turned (t' := s6.toks) (fun b o hb e => (sb.2 b hb).trans e) y0 y1 y3 y4 y5, rfl, hq⟩
    · refine thnF (tw.item (X.blk s3 H3 scope ce fp) rfl rfl rfl hc i [] s5 _ H5 (fun _ _ => False) I5 (own_ I5 n5) st5 go) ?_
      rintro r s6 ⟨u, rfl, h6⟩
      refine thnF h6 fun _ s7 ⟨x, H7, I7, r7, y7, st7, n7⟩ => ?_
      have J7 := I7.pinned (own_ I7 n7) (tw.obj _ _ st7)
      refine thnF (pg.run _ s7 _ H7 x u _ J7 r7 (step x H7 y7)) fun _ s8 ⟨σ8, H8, I8, hw8, q8⟩ => ?_
      refine wpAny_tests_nil ?_
      have q8' : te σ σ8 H8 fun y H4 => ∃ acc, H4 D = some (.lst acc) ∧ acc.length < sizeLine ∧ Nx (upd H4 D (.lst (acc ++ [y]))) := by
        have z : (if true = true then te σ σ8 H8 fun y H4 => ∃ acc, H4 D = some (.lst acc) ∧ acc.length < sizeLine ∧ Nx (upd H4 D (.lst (acc ++ [y]))) else Nx H8) := q8
        rw [if_pos rfl] at z
        exact z
      rw [if_pos rfl]
      -- the turn is over
      have fin : ∀ {s' : Shared} {H' : Hp}, Inv (X.blk s3 H3 scope ce fp) ([] ++ pinsAt fp s7.heap) σ8 H' s' → Nx H' → ∃ m, m < n ∧ ∃ i H', Inv (X.blk s3 H3 scope ce fp) [] (wipe σ (own.map (·.2))) H' s' ∧ tn i s'.heap ∧ (∀ b ∈ fp, H' b = none) ∧ Wf i m H' := fun {s' H'} J nx => by
        obtain ⟨k, hk, wk⟩ := hNx H' nx
        have stay : ∀ b ∈ fp, ∀ o, s7.heap.get? b = some o → s'.heap.get? b = some o ∧ H' b = none := fun b hb o e => by
          have z := J.pin (b, o) (List.mem_append_right _ (List.mem_append_right _ (mem_pinsAt hb e)))
          exact ⟨z.1, z.2.1⟩
        refine ⟨k, hk, i + 1, H', (J.unpinned (pins := [])).weak (by rw [← hw8, wipe_length]) (fun j v e => ?_), tw.keep _ _ _ st7 fun b hb o e => (stay b hb o e).1, fun b hb => ?_, wk⟩
        · rw [← hw8] at e
          exact (wipe_some e).1
        · obtain ⟨o, e, _⟩ := tw.obj _ _ st7 b hb
          exact (stay b hb o e).2
      have tkE : Takes (Cx_blkE X s3 H3 scope ce fp (notedBy (model X.prog X.w) X.A ce fun e s'' => compEnd (model X.prog X.w) X.A X.xe (fun v s' => EP X pins σ Q v s') (.ref D) c0 (.error e) s'')) (fun c d _ H' => W c d σ H') := fun u s' x =>
        blk_exit (V := fun c d H' => W c d σ H') I3 hstk hfr ceF ceL (by rw [ce0L, ceL]) (by rw [ce0F, ceF]) f3 tk (fun _ _ _ z => z) x
      refine thn ((pe _ tkE).run _ s8 σ8 H8 _ (blkE_in I8) q8') fun z s10 ⟨yv, H10, I10, r10, acc, hD10, hz10, nx⟩ => ?_
      exact app_ok (X := X.blk s3 H3 scope ce fp) (blkE_out I10) hD10 hz10 r10 fun s11 I11 => fin I11 nx
  exact codeAny_compStart_list run (tw.self X.A 0 _ _ _ st4 run)
end
end Sh

set_option Elab.async false
set_option linter.all false
set_option autoImplicit false
set_option maxRecDepth 100000
set_option maxHeartbeats 2000000
namespace Sh
open PySem PySem.Spec PyProof.Rows L2
section
variable {X : Cx} {T : Tb} {α β : Type}
open Classical in
noncomputable def compE (ok : M → Prop) (i : Nat) (te : Sl → M → R D) (τ : Sl) : List D → List D → M → R (List D)
  | [], acc, m => if ok m then .ok acc m else .bad
  | x :: r, acc, m => if ok m then (te (τ.set i (some x)) m).bind fun d m1 => if acc.length < 16777216 then compE ok i te τ r (acc ++ [d]) m1 else .bad else .bad
noncomputable def lLcE (i : Nat) (f : Sl → M → R Sq) (te : Sl → M → R D) : Sl → M → R (List D) := fun τ m => (f τ m).bind fun s m1 => compE (okS s) i te τ s.1 [] m1
theorem PR.at (K : PySem.W.Frag) {mg : Str → Option Value} {W : WX} {σ σ' : L2.St} {ρ : List Addr} {H : Hp} {r : R α} {Q : α → List Addr → M → Hp → Prop} (h : PR K mg T W σ ρ H r Q) : PR K mg T (fun c d _ H' => W c d σ H') σ' ρ H r Q := by
  cases r with
  | ok a m => exact h
  | ex x p m => exact h
  | bad => exact h
theorem compE_ok {K : PySem.W.Frag} {mg : Str → Option Value} {W : WX} {σ : L2.St} {ρ : List Addr} {H : Hp} {ok : M → Prop} {i : Nat} {te : Sl → M → R D} {τ : Sl} {Q : List D → List Addr → M → Hp → Prop} : ∀ {xs acc : List D} {m : M}, PR K mg T W σ ρ H (compE ok i te τ xs acc m) Q → ok m
  | [], acc, m, h => by
    unfold compE at h
    by_cases q : ok m
    · exact q
    · rw [if_neg q] at h; exact False.elim h
  | x :: r, acc, m, h => by
    unfold compE at h
    by_cases q : ok m
    · exact q
    · rw [if_neg q] at h; exact False.elim h
theorem lcE_imp {i : Nat} {x : Str} {npos : Pos} {iter : Expr} {f : Sl → M → R Sq} {te : Sl → M → R D} (hi : II X T (.Name x npos) iter f) (W : WX) (tk : Takes X W) :
    ∃ wi, PI X (.Name x npos) iter wi ∧ ∀ σ H (Q : VK), rdL X.K X.mg T W (lLcE i f te) σ H Q → tLc wi (gName i) tYes (rdE X.K X.mg T (fun c d _ H' => W c d σ H') te) ([(x, i)].map (·.2)) σ H Q := by
  obtain ⟨wi, h1, h2⟩ := hi.run W tk
  refine ⟨wi, h1, fun σ H Q ⟨ρ, τ, m, R, l, q⟩ => h2 σ H _ ⟨ρ, τ, m, R, l, q.bind.imp fun s ρ1 m1 H1 e1 R1 q1 J hJ D hD => ?_⟩⟩
  obtain ⟨xs, ko⟩ := s
  have hD0 : H D = none := new_none e1 hD
  let G : List Sh.D → List Addr → M → Hp → Prop := fun ds ρ' _ H' => ∀ p vs, H p = none → H' p = some (.lst vs) → p ∉ ρ' → RDs X.K T ρ' H' ds vs → Q (.ref p) H'
  have exD : Ext X.K ρ1 H1 ρ1 (upd H1 D (.lst [])) := Ext.new hD
  refine ⟨fun j n H' => n = xs.length - j ∧ j ≤ xs.length ∧ ∃ ρ' m' acc vs, Ext X.K ρ1 H1 ρ' H' ∧ Rep X.K X.mg T ρ' m' H' ∧ H' D = some (.lst vs) ∧ D ∉ ρ' ∧ RDs X.K T ρ' H' acc vs ∧
    PR X.K X.mg T W σ ρ1 H1 (compE (okS (xs, ko)) i te τ (xs.drop j) acc m') G, ⟨xs.length, by simp, Nat.zero_le _, ρ1, m1, [], [], exD, R1.new hD, upd_same, R1.notin hD, rfl, by simpa using q1⟩, ?_⟩
  rintro j n H' ⟨rfl, hj, ρ', m', acc, vs, e', R', hH, hn, hr, q'⟩
  have hok := compE_ok q'
  obtain ⟨j1, j2, j3⟩ := hJ ρ' m' H' j e' R' hok
  by_cases hlt : j < xs.length
  · obtain ⟨d, hx, hd⟩ := drop_at hlt
    rw [hd] at q'
    unfold compE at q'
    rw [if_pos hok] at q'
    refine .inr ⟨j1 hlt, fun H' => j + 1 ≤ xs.length ∧ ∃ ρ' m' acc vs, Ext X.K ρ1 H1 ρ' H' ∧ Rep X.K X.mg T ρ' m' H' ∧ H' D = some (.lst vs) ∧ D ∉ ρ' ∧ RDs X.K T ρ' H' acc vs ∧
      PR X.K X.mg T W σ ρ1 H1 (compE (okS (xs, ko)) i te τ (xs.drop (j + 1)) acc m') G, fun H2 p2 => ⟨xs.length - (j + 1), by omega, rfl, p2⟩, fun y H2 hy => ?_⟩
    obtain ⟨rfl, rdy⟩ := j2 y d H2 hy hx
    have l' : RSl X.K T ρ' H2 τ σ := (l.ext e1).ext e'
    have hw : ∀ (z : Option V), ((wipe σ (List.map (fun x => x.snd) [(x, i)])).set i z) = σ.set i z := fun z => by
      show ((σ.set i none).set i z) = _
      rw [List.set_set]
    refine ⟨?_, ?_⟩
    · show (((σ.set i none).set i (some y)).set i none) = σ.set i none
      rw [List.set_set, List.set_set]
    · dsimp only [tYes]
      rw [if_pos rfl, hw]
      refine ⟨ρ', τ.set i (some d), m', R', l'.set i rdy, PR.imp (((PR.bind0 q').at X.K).ext e') fun dd ρ3 m3 H4 e3 R3 q3 w rw' => ?_⟩
      have hH4 : H4 D = some (.lst vs) := e3.frm _ _ hH hn noTab_lst.1
      have hn4 : D ∉ ρ3 := by
        obtain ⟨t, et, ht2⟩ := e3.pre
        rw [et]
        intro hm
        rcases List.mem_append.mp hm with z | z
        · exact hn z
        · rw [ht2 D z] at hH; cases hH
      by_cases hl : acc.length < 16777216
      · rw [if_pos hl] at q3
        have hr4 : RDs X.K T ρ3 H4 acc vs := RDs.ext e3 _ _ hr
        have ht : ∀ a xs, SqT X.K H4 a xs → SqT X.K (upd H4 D (.lst (vs ++ [w]))) a xs := fun a xs h => sqT_upd (.inr ⟨_, hH4, fun _ z => HO.noConfusion z, fun _ _ z => HO.noConfusion z⟩) h
        have hf : ∀ a xs, Fz X.K H4 a xs → Fz X.K (upd H4 D (.lst (vs ++ [w]))) a xs := fun a xs h => fz_upd (.inr ⟨_, hH4, fun _ z => HO.noConfusion z, fun _ _ z => HO.noConfusion z⟩) h
        have e4 : Ext X.K ρ1 H1 ρ3 H4 := e'.trans e3
        have e5 : Ext X.K ρ1 H1 ρ3 (upd H4 D (.lst (vs ++ [w]))) := ⟨e4.pre, fun a xs h => ht a xs (e4.tup a xs h), fun a xs h => hf a xs (e4.frz a xs h), fun a o h hna hnt => by
          rw [upd_ne (ne_of_none h hD)]
          exact e4.frm a o h hna hnt, fun a h => kp_upd a (e4.kp a h)⟩
        have R5 : Rep X.K X.mg T ρ3 m3 (upd H4 D (.lst (vs ++ [w]))) := R3.tf ht hf (fun a ha => upd_ne fun z => hn4 (by rw [← z]; exact ha)) (tabs_upd (.inr ⟨_, hH4, noTab_lst⟩) R3.tab)
        refine ⟨vs, hH4, by rw [hr4.len, sizeLine_eq]; exact hl, hlt, ρ3, m3, acc ++ [dd], vs ++ [w], e5, R5, upd_same, hn4, (RDs.tf ht hf _ _ hr4).app (RDs.one (RD.tf ht hf _ _ rw')), q3⟩
      · rw [if_neg hl] at q3
        exact False.elim q3
  · have hz : xs.drop j = [] := by rw [List.drop_eq_nil_iff]; omega
    rw [hz] at q'
    unfold compE at q'
    rw [if_pos hok] at q'
    exact .inl ⟨j3 (by show xs.length ≤ j; omega), q' ρ' H' e' R' D vs hD0 hH hn hr⟩
theorem il_lcE {i : Nat} {x : Str} {npos pos : Pos} {iter elt : Expr} {scope : Scope} {f : Sl → M → R Sq} {te : Sl → M → R D} (hc : X.calm = true) (hN : X.N.Nodup) (hi : II X T (.Name x npos) iter f) (ok : BlkOk X.N X.env.scope scope [(x, i)])
    (hg : ∀ (s : Shared) (H : Hp) (C : Addr) (cl : List (Str × Addr)) (fp : List Addr), PG (X.blk s H scope (compEnvC scope cl C X.env) fp) (.Name x npos) (gName i))
    (he : ∀ (s : Shared) (H : Hp) (C : Addr) (cl : List (Str × Addr)) (fp : List Addr) (xe : Value → Shared → Prop), IE (Cx_blkE X s H scope (compEnvC scope cl C X.env) fp xe) T elt te) (hstk : X.stack = X.env :: X.outer := by rfl) (hfr : X.env.frame = some X.env.locals := by rfl) (hs : ∀ x, foldedSetIterable iter X.env x = pure x := by intro _; rfl) :
    IL X T (.ListComp elt [⟨.Name x npos, iter, [], 0⟩] scope pos) (lLcE i f te) := by
  refine ⟨fun W tk => ?_⟩
  obtain ⟨wi, h1, h2⟩ := lcE_imp (te := te) (i := i) hi W tk
  exact pe_imp (pe_lcE (own := [(x, i)]) (te := fun σ => rdE X.K X.mg T (fun c d _ H' => W c d σ H') te) tk hstk hfr hc hN h1 ok hg (fun σ s H C cl fp xe tkE => (he s H C cl fp xe).run _ tkE) hs) h2
end
@[simp] theorem lLcE_eq {i : Nat} {f : Sl → M → R Sq} {te : Sl → M → R D} {τ : Sl} {m : M} : lLcE i f te τ m = (f τ m).bind fun s m1 => compE (okS s) i te τ s.1 [] m1 := rfl
end Sh

set_option Elab.async false
set_option linter.all false
set_option autoImplicit false
set_option maxRecDepth 100000
set_option maxHeartbeats 2000000
namespace Sh
open PySem PySem.Spec PyProof.Rows L2
section
variable {P : Program} {w : World} {K : PySem.W.Frag} {mg : Str → Option Value} {base : Heap} {T : Tb}
/-- the def at f holds lambdas, whose code objects are found in a table of T -/
def TabOf (K : PySem.W.Frag) (base : Heap) (mg : Str → Option Value) (T : Tb) (f : Addr) (q : Str) : Prop := ∀ (oc : Value) (od : Option Addr) (fd : FuncData) (osl : Array (Option Value)), K.lookup f = some ⟨oc, od, .func fd, osl⟩ → TabAt base mg T fd.code q
theorem fn_mkT {x qual q : Str} {st : Stmt} {f : Addr} {fd : FuncData} {N ps : List Str} {k : Nat} {g : Sl → M → S} (Fu : Fun K x qual st f fd) (Sc : FnScope N ps (defScope st)) (hb : Binds K fd ps []) (hT : TabOf K base mg T f q)
    (body : ∀ (cdv : Value) (A : Around) (outer : List Env) (s : Shared) (H : Hp) (E : XK), TabAt base mg T cdv q → Room k (A.deeper (envOfC qual (defScope st) s.heap.objs.size f cdv)) → ISs (cxOf (L2.CX P w) P w K mg base N qual (defScope st) f cdv A outer s H E) T (defBody st) g) (hpn : T.pin = none := by rfl) :
    Fn P w K mg base T (k + 1) f ps.length (mkF ps.length N.length g) := by
  refine ⟨fd, ps, rfl, hb, ?_⟩
  obtain ⟨oc, od, kV, doc, pm, an, cdv, ct, osl, rfl, lk, hcd⟩ := Fu.ex
  have tb := hT _ _ _ _ lk
  refine fn_of lk hcd Sc (fun vs H Q E ⟨ρ, ds, m, _, r, hl, _⟩ => by rw [r.len]; exact hl) fun A outer s H vs Q E hr ⟨ρ, ds, m, R, r, hl, q⟩ =>
    ⟨rdS K mg T (fun c d _ H => E c d H) g, (body cdv A outer s H E tb hr).run _ (takes_of rfl rfl rfl rfl), ρ, _, m, R, rsl_start r hpn, ?_⟩
  unfold mkF at q
  rw [if_pos hl] at q
  rw [← hl] at q
  cases hg : g (ds.map some ++ List.replicate (N.length - ds.length) none) m with
  | nx τ' m' => rw [hg] at q; exact fun ρ' σ' H' e R' l => q ρ' H' e R' .non rfl
  | rt d m' => rw [hg] at q; exact fun ρ' v H' e R' rv => q ρ' H' e R' v rv
  | ex y p τ' m' => rw [hg] at q; exact fun ρ' σ' H' C dd e R' l rx => q ρ' H' C dd e R' rx
  | bk τ' m' => rw [hg] at q; exact False.elim q
  | ct τ' m' => rw [hg] at q; exact False.elim q
  | bad => rw [hg] at q; exact False.elim q
end
end Sh

set_option Elab.async false
set_option linter.all false
set_option autoImplicit false
set_option maxRecDepth 100000
set_option maxHeartbeats 4000000
/-! the mirrors of the program's defs and of the laws' -/
namespace Mi
open PySem PySem.Spec PyProof.Rows L2 Sh
def wds0 : List Str := [("ask" : Str), ("throw" : Str), ("shut" : Str), ("stubborn" : Str), ("gift" : Str), ("end" : Str), ("over" : Str), ("fault" : Str), ("num" : Str), ("slot" : Str), ("plus" : Str), ("less" : Str), ("times" : Str), ("part" : Str), ("below" : Str), ("set" : Str), ("say" : Str), ("give" : Str), ("hand" : Str), ("if" : Str), ("round" : Str), ("leave" : Str), ("try" : Str), ("same" : Str), ("told" : Str), ("words" : Str), ("deeds" : Str), ("stop" : Str), ("go" : Str), ("fork" : Str), ("count" : Str), ("work" : Str), ("else" : Str), ("caught" : Str), ("last" : Str), ("work " : Str), (" is none" : Str), ("row " : Str), (" can't stand there" : Str), ("there is no such work" : Str), ("another count of numbers" : Str), ("a number that can't be handed in" : Str), ("a deed that is none" : Str), ("\n" : Str), (" " : Str), ("set " : Str), ("give " : Str), ("round " : Str), ("if " : Str), ("caught " : Str), ("add" : Str), ("" : Str), ("sey" : Str), ("other" : Str), ("out" : Str), ("asks" : Str), ("0" : Str), ("s" : Str), ("-" : Str), ("  " : Str), ("0123456789" : Str), ("read" : Str), ("row" : Str), ("0123456789 -sabel\n" : Str), ("9" : Str), ("1000" : Str), ("00" : Str), ("07" : Str), ("1234567890" : Str), ("s0" : Str), ("s7" : Str), ("s01" : Str), ("-1" : Str), ("2" : Str), ("123456789" : Str), ("work 0 1\n  try\n" : Str), ("work 0 1" : Str), ("work 0 1\n" : Str), ("work 1" : Str), ("work 0 1 2" : Str), ("work 0 0" : Str), ("work 3 4" : Str), ("say 1" : Str), ("  say 1" : Str), ("work 0 1\nsay 1" : Str), ("work 0 1\n  set - 1" : Str), ("work 0 1\n  leave" : Str), ("work 0 1\n  if 1" : Str), ("work 0 1\n  try" : Str), ("work 0 1\n  hand 0 -" : Str), ("work 0 1\n  round 1\n    leave" : Str), ("work 0 -" : Str), ("work 0 1\n  say 007" : Str), ("work 0 1\n  say 000" : Str), ("work 0 1\n  round 1\n    leave 1" : Str), ("work 0 1\n  round 1\n   leave" : Str), ("work 0 1\n  round 1\n    leave 0" : Str), ("  caught 0\n  last" : Str), ("  caught 0 0\n  last" : Str), ("  caught\n  last" : Str), ("  caught 0 \n  last" : Str), ("  last 0" : Str), ("  last\n  caught 0" : Str), ("  else" : Str), ("  caught 0\n  caught 0\n  last" : Str), ("  caught s0\n  last" : Str), ("  last\n  last" : Str), ("work 0 1\n  say 1" : Str), ("zz" : Str), ("made" : Str), ("text" : Str), ("played" : Str)]
theorem wds_nd : wds0.Nodup := by decide +kernel
def cls0 : Nat → Str := fun i => match i with
  | 0 => "Asker"
  | 1 => "Walk"
  | 2 => "Look"
  | 3 => "Run"
  | _ => "Stay"
def flds0 : Nat → List Str := fun i => match i with
  | 0 => ["deeds", "told", "words"]
  | 1 => ["program", "slots", "asker"]
  | 2 => ["program", "number", "slots", "many"]
  | 3 => ["machines", "asker", "stays"]
  | _ => ["rooms", "slots", "at", "then"]
def exn0 : Nat → Str := fun i => match i with
  | 0 => "NoPart"
  | _ => "Over"
def sub_NoPart : Nat → Bool := fun i => match i with
  | 0 => true
  | _ => false
def sub_Over : Nat → Bool := fun i => match i with
  | 0 => false
  | _ => true
noncomputable def b__law_alike (rec : Nat → List D → M → R D) : Sl → M → S :=
  (sSeq (sIf (tOr (tB (eCB gIsi (lCons (eVar 1) (lCons (eC (.ty .tuple)) lNil)))) (tB (eCB gIsi (lCons (eVar 1) (lCons (eC (.ty .list)) lNil))))) (sSeq (sIf (tOr (tB (eOp gNe (eCB gIsi (lCons (eVar 0) (lCons (eC (.ty .tuple)) lNil))) (eCB gIsi (lCons (eVar 1) (lCons (eC (.ty .tuple)) lNil))))) (tNot (tB (eIsi2 (eVar 0) (lCons (eC (.ty .tuple)) (lCons (eC (.ty .list)) lNil)))))) (sRet (eC (.bl false))) sNx) (sSeq (sIf (tB (eOp gNe (eCB gLen (lCons (eVar 0) lNil)) (eCB gLen (lCons (eVar 1) lNil)))) (sRet (eC (.bl false))) sNx) (sRet (eNil (lLc 2 (iR (eCB gLen (lCons (eVar 1) lNil))) (tNot (tB (eCall 2 (rec 0) (lCons (eOp gIx (eVar 0) (eVar 2)) (lCons (eOp gIx (eVar 1) (eVar 2)) lNil))))) (eVar 2)))))) sNx) (sSeq (sIf (tOr (tB (eOp gIs (eVar 1) (eC .non))) (tB (eOp gIs (eVar 0) (eC .non)))) (sRet (eAnd (eOp gIs (eVar 1) (eC .non)) (eOp gIs (eVar 0) (eC .non)))) sNx) (sSeq (sIf (tOr (tB (eCB gIsi (lCons (eVar 1) (lCons (eC (.ty .bool)) lNil)))) (tB (eCB gIsi (lCons (eVar 0) (lCons (eC (.ty .bool)) lNil))))) (sRet (eAnd (eCB gIsi (lCons (eVar 1) (lCons (eC (.ty .bool)) lNil))) (eAnd (eCB gIsi (lCons (eVar 0) (lCons (eC (.ty .bool)) lNil))) (eOp gEq (eVar 0) (eVar 1))))) sNx) (sSeq (sIf (tB (eCB gIsi (lCons (eVar 1) (lCons (eC (.ty .str)) lNil)))) (sRet (eAnd (eCB gIsi (lCons (eVar 0) (lCons (eC (.ty .str)) lNil))) (eOp gEq (eVar 0) (eVar 1)))) sNx) (sRet (eAnd (eCB gIsi (lCons (eVar 0) (lCons (eC (.ty .int)) lNil))) (eOp gEq (eVar 0) (eVar 1))))))))
noncomputable def m_ga : Nat → Nat → List D → M → R D
  | 0, _ => fun _ _ => .bad
  | n + 1, i => match i with
    | _ => mkF 2 3 (b__law_alike (m_ga n))
noncomputable def b__law_reckoned (rec : Nat → List D → M → R D) : Sl → M → S :=
  (sSeq (sIf (tB (eOp gEq (eOp gIx (eVar 0) (eC (.int 0))) (eC (.wd 8)))) (sRet (eOp gIx (eVar 0) (eC (.int 1)))) sNx) (sSeq (sIf (tB (eOp gEq (eOp gIx (eVar 0) (eC (.int 0))) (eC (.wd 9)))) (sRet (eOp gIx (eVar 1) (eOp gIx (eVar 0) (eC (.int 1))))) sNx) (sSeq (sSet 2 (eCall 2 (rec 0) (lCons (eOp gIx (eVar 0) (eC (.int 1))) (lCons (eVar 1) lNil)))) (sSeq (sSet 3 (eCall 2 (rec 0) (lCons (eOp gIx (eVar 0) (eC (.int 2))) (lCons (eVar 1) lNil)))) (sSeq (sIf (tOr (tB (eOp gIs (eVar 2) (eC .non))) (tOr (tB (eOp gIs (eVar 3) (eC .non))) (tAnd (tB (eOp gEq (eOp gIx (eVar 0) (eC (.int 0))) (eC (.wd 13)))) (tB (eOp gEq (eVar 3) (eC (.int 0))))))) (sRet (eC .non)) sNx) (sSeq (sIf (tB (eOp gInW (eOp gIx (eVar 0) (eC (.int 0))) (eTup (lCons (eC (.wd 14)) (lCons (eC (.wd 23)) lNil))))) (sRet (eCB gInt (lCons (eIxL (lLst (lCons (eOp gLt (eVar 2) (eVar 3)) (lCons (eOp gEq (eVar 2) (eVar 3)) lNil))) (eCB gInt (lCons (eOp gEq (eOp gIx (eVar 0) (eC (.int 0))) (eC (.wd 23))) lNil))) lNil))) sNx) (sSeq (sIf (tB (eOp gEq (eOp gIx (eVar 0) (eC (.int 0))) (eC (.wd 13)))) (sRet (eOp gDiv (eVar 2) (eVar 3))) sNx) (sRet (eOp gMod (eDlit (dlCons 10 (eOp gAdd (eVar 2) (eVar 3)) (dlCons 11 (eOp gSub (eOp gAdd (eC (.int 1000)) (eVar 2)) (eVar 3)) (dlCons 12 (eOp gMul (eVar 2) (eVar 3)) dlNil))) (eOp gIx (eVar 0) (eC (.int 0)))) (eC (.int 1000)))))))))))
noncomputable def m_gk : Nat → Nat → List D → M → R D
  | 0, _ => fun _ _ => .bad
  | n + 1, i => match i with
    | _ => mkF 2 4 (b__law_reckoned (m_gk n))
noncomputable def lb__law_gone_0 : Sl → M → S :=
  (sSeq (sSet 4 (eCall 2 (m_gk 6 0) (lCons (eOp gIx (eVar 3) (eNeg (eC (.int 1)))) (lCons (eVar 1) lNil)))) (sSeq (sIf (tB (eOp gIs (eVar 4) (eC .non))) (sRet (eTup (lCons (eCB gTuple (lCons (eVar 2) lNil)) (lCons (eTup (lCons (eC (.wd 7)) (lCons (eC (.int 0)) lNil))) lNil)))) sNx) (sSeq (sIf (tB (eOp gInW (eOp gIx (eVar 3) (eC (.int 0))) (eTup (lCons (eC (.wd 5)) (lCons (eC (.wd 7)) lNil))))) (sRet (eTup (lCons (eCB gTuple (lCons (eVar 2) lNil)) (lCons (eTup (lCons (eOp gIx (eVar 3) (eC (.int 0))) (lCons (eVar 4) lNil))) lNil)))) sNx) (sIf (tB (eOp gEq (eOp gIx (eVar 3) (eC (.int 0))) (eC (.wd 16)))) (sExpr (eApp (eVar 2) (eVar 4))) (sAsg (eVar 4) (gS (eVar 1) (eOp gIx (eVar 3) (eC (.int 1)))))))))
noncomputable def b__law_gone : Sl → M → S :=
  (sSeq (sSet 2 (eNew (lLst lNil))) (sSeq (sFor (gN 3) (iT (eVar 0)) lb__law_gone_0) (sRet (eTup (lCons (eCB gTuple (lCons (eVar 2) lNil)) (lCons (eTup (lCons (eC (.wd 5)) (lCons (eC (.int 0)) lNil))) lNil))))))
noncomputable def m__law_gone : List D → M → R D := mkF 2 5 b__law_gone
noncomputable def b__law_taken : Sl → M → S :=
  (sSeq (sIf (tB (eOp gGt (eOp gIx (eVar 0) (eC (.int 3))) (eC (.int 0)))) (sSeq (sSet 2 (eOp gMod (eOp gIx (eVar 0) (eC (.int 3))) (eVar 1))) (sSeq (sAsg (eOp gDiv (eOp gIx (eVar 0) (eC (.int 3))) (eVar 1)) (gS (eVar 0) (eC (.int 3)))) (sRet (eVar 2)))) sNx) (sSeq (sAsg (eOp gAdd (eOp gIx (eVar 0) (eC (.int 1))) (eC (.int 1))) (gS (eVar 0) (eC (.int 1)))) (sSeq (sIf (tB (eOp gGt (eOp gIx (eVar 0) (eC (.int 1))) (eCB gLen (lCons (eOp gIx (eVar 0) (eC (.int 0))) lNil)))) (sSeq (sAsg (eOp gMod (eOp gAdd (eOp gMul (eOp gIx (eVar 0) (eC (.int 2))) (eC (.int 48271))) (eC (.int 11))) (eC (.int 2147483647))) (gS (eVar 0) (eC (.int 2)))) (sRet (eOp gMod (eOp gDiv (eOp gIx (eVar 0) (eC (.int 2))) (eC (.int 7))) (eVar 1)))) sNx) (sSeq (sSet 3 (eOp gIx (eOp gIx (eVar 0) (eC (.int 0))) (eOp gSub (eOp gIx (eVar 0) (eC (.int 1))) (eC (.int 1))))) (sSeq (sAsg (eOp gMod (eOp gAdd (eOp gAdd (eOp gMul (eOp gIx (eVar 0) (eC (.int 2))) (eC (.int 48271))) (eVar 3)) (eC (.int 11))) (eC (.int 2147483647))) (gS (eVar 0) (eC (.int 2)))) (sSeq (sIf (tB (eOp gGe (eVar 3) (eOp gPow (eC (.int 10)) (eC (.int 18))))) (sAsg (eOp gDiv (eVar 3) (eVar 1)) (gS (eVar 0) (eC (.int 3)))) sNx) (sRet (eOp gMod (eVar 3) (eVar 1)))))))))
noncomputable def m__law_taken : List D → M → R D := mkF 2 4 b__law_taken
noncomputable def b__law_numbers : Sl → M → S :=
  (sRet (eTupL (lLc 2 (iR (eVar 1)) tYs (eCall 2 m__law_taken (lCons (eVar 0) (lCons (eIxL (lLst (lCons (eC (.int 4)) (lCons (eC (.int 1000)) lNil))) (eCall 2 m__law_taken (lCons (eVar 0) (lCons (eC (.int 2)) lNil)))) lNil))))))
noncomputable def m__law_numbers : List D → M → R D := mkF 2 3 b__law_numbers
noncomputable def b__law_reckoning (rec : Nat → List D → M → R D) : Sl → M → S :=
  (sSeq (sSet 3 (eCall 2 m__law_taken (lCons (eVar 0) (lCons (eC (.int 8)) lNil)))) (sSeq (sIf (tAnd (tB (eOp gGt (eVar 3) (eC (.int 4)))) (tB (eOp gGt (eVar 2) (eC (.int 0))))) (sSeq (sSet 4 (eIxL (lLst (lCons (eC (.wd 10)) (lCons (eC (.wd 11)) (lCons (eC (.wd 12)) (lCons (eC (.wd 13)) (lCons (eC (.wd 14)) (lCons (eC (.wd 23)) lNil))))))) (eCall 2 m__law_taken (lCons (eVar 0) (lCons (eC (.int 6)) lNil))))) (sRet (eTup (lCons (eVar 4) (lCons (eCall 3 (rec 0) (lCons (eVar 0) (lCons (eVar 1) (lCons (eOp gSub (eVar 2) (eC (.int 1))) lNil)))) (lCons (eCall 3 (rec 0) (lCons (eVar 0) (lCons (eVar 1) (lCons (eOp gSub (eVar 2) (eC (.int 1))) lNil)))) lNil)))))) sNx) (sSeq (sIf (tB (eOp gLt (eVar 3) (eC (.int 3)))) (sRet (eTup (lCons (eC (.wd 8)) (lCons (eCall 2 m__law_taken (lCons (eVar 0) (lCons (eIxL (lLst (lCons (eC (.int 3)) (lCons (eC (.int 12)) (lCons (eC (.int 1000)) lNil)))) (eVar 3)) lNil))) lNil)))) sNx) (sRet (eTup (lCons (eC (.wd 9)) (lCons (eCall 2 m__law_taken (lCons (eVar 0) (lCons (eVar 1) lNil))) lNil)))))))
noncomputable def m_gr : Nat → Nat → List D → M → R D
  | 0, _ => fun _ _ => .bad
  | n + 1, i => match i with
    | _ => mkF 3 5 (b__law_reckoning (m_gr n))
noncomputable def lb__law_steps_v2_0 : Sl → M → S :=
  (sSeq (sSet 4 (eCall 3 (m_gr 6 0) (lCons (eVar 0) (lCons (eVar 1) (lCons (eOp gSub (eC (.int 3)) (eOp gDiv (eCall 2 m__law_taken (lCons (eVar 0) (lCons (eC (.int 4)) lNil))) (eC (.int 2)))) lNil))))) (sSeq (sSet 5 (eCall 2 m__law_taken (lCons (eVar 0) (lCons (eC (.int 9)) lNil)))) (sIf (tB (eOp gLt (eVar 5) (eC (.int 4)))) (sExpr (eApp (eVar 2) (eTup (lCons (eC (.wd 15)) (lCons (eCall 2 m__law_taken (lCons (eVar 0) (lCons (eVar 1) lNil))) (lCons (eVar 4) lNil)))))) (sIf (tB (eOp gLt (eVar 5) (eC (.int 8)))) (sExpr (eApp (eVar 2) (eTup (lCons (eC (.wd 16)) (lCons (eVar 4) lNil))))) (sExpr (eApp (eVar 2) (eTup (lCons (eIxL (lLst (lCons (eC (.wd 5)) (lCons (eC (.wd 7)) lNil))) (eCall 2 m__law_taken (lCons (eVar 0) (lCons (eC (.int 2)) lNil)))) (lCons (eVar 4) lNil)))))))))
noncomputable def b__law_steps_v2 : Sl → M → S :=
  (sSeq (sSet 2 (eNew (lLst lNil))) (sSeq (sFor (gN 3) (iR (eOp gAdd (eC (.int 1)) (eCall 2 m__law_taken (lCons (eVar 0) (lCons (eC (.int 12)) lNil))))) lb__law_steps_v2_0) (sRet (eCB gTuple (lCons (eVar 2) lNil)))))
noncomputable def m__law_steps_v2 : List D → M → R D := mkF 2 6 b__law_steps_v2
noncomputable def b_Asker___init__ : Sl → M → S :=
  (sSeq (sFld 0 0 (eVar 0) (eVar 1)) (sSeq (sFld 0 1 (eVar 0) (eNew (lLst lNil))) (sFld 0 2 (eVar 0) (eNew (lLst lNil)))))
noncomputable def m_Asker___init__ : List D → M → R D := mkF 2 2 b_Asker___init__
noncomputable def b_Asker_begins : Sl → M → S :=
  (sRet (eAnd (eOp gGt (eCB gLen (lCons (eFld 0 0 (eVar 0)) lNil)) (eC (.int 0))) (eOp gEq (eOp gIx (eOp gIx (eFld 0 0 (eVar 0)) (eC (.int 0))) (eC (.int 0))) (eC (.wd 0)))))
noncomputable def m_Asker_begins : List D → M → R D := mkF 1 1 b_Asker_begins
noncomputable def b_Asker_tell : Sl → M → S :=
  (sSeq (sExpr (eApp (eFld 0 1 (eVar 0)) (eTup (lCons (eCB gTuple (lCons (eFld 0 2 (eVar 0)) lNil)) (lCons (eVar 1) lNil))))) (sFld 0 2 (eVar 0) (eNew (lLst lNil))))
noncomputable def m_Asker_tell : List D → M → R D := mkF 2 2 b_Asker_tell
noncomputable def lb_Asker_do_the_rest_0 : Sl → M → S :=
  (sIf (tB (eOp gEq (eOp gIx (eVar 2) (eC (.int 0))) (eC (.wd 0)))) (sExpr (eMeth 0 2 m_Asker_tell (eVar 0) (lCons (eTup (lCons (eC (.wd 6)) lNil)) lNil))) (sIf (tB (eOp gEq (eOp gIx (eVar 2) (eC (.int 0))) (eC (.wd 1)))) (sExpr (eMeth 0 2 m_Asker_tell (eVar 0) (lCons (eTup (lCons (eC (.wd 7)) (lCons (eOp gIx (eVar 2) (eC (.int 1))) lNil))) lNil))) (sExpr (eMeth 0 2 m_Asker_tell (eVar 0) (lCons (eTup (lCons (eC (.wd 2)) lNil)) lNil)))))
noncomputable def b_Asker_do_the_rest : Sl → M → S :=
  (sSeq (sSet 1 (eCB gLen (lCons (eFld 0 1 (eVar 0)) lNil))) (sFor (gN 2) (iN (lCut (eFld 0 0 (eVar 0)) (oAt (eVar 1)) oNo)) lb_Asker_do_the_rest_0))
noncomputable def m_Asker_do_the_rest : List D → M → R D := mkF 1 3 b_Asker_do_the_rest
noncomputable def b_Asker_deed : Sl → M → S :=
  (sRet (eOp gIx (eFld 0 0 (eVar 0)) (eCB gLen (lCons (eFld 0 1 (eVar 0)) lNil))))
noncomputable def m_Asker_deed : List D → M → R D := mkF 1 1 b_Asker_deed
noncomputable def b_Asker_see_out : Sl → M → S :=
  (sIf (tAnd (tB (eOp gEq (eOp gIx (eVar 1) (eC (.int 0))) (eC (.wd 5)))) (tB (eOp gEq (eOp gIx (eMeth 0 1 m_Asker_deed (eVar 0) lNil) (eC (.int 0))) (eC (.wd 2))))) (sExpr (eMeth 0 2 m_Asker_tell (eVar 0) (lCons (eTup (lCons (eC (.wd 2)) lNil)) lNil))) (sExpr (eMeth 0 2 m_Asker_tell (eVar 0) (lCons (eVar 1) lNil))))
noncomputable def m_Asker_see_out : List D → M → R D := mkF 2 2 b_Asker_see_out
noncomputable def b_Walk___init__ : Sl → M → S :=
  (sSeq (sFld 1 0 (eVar 0) (eVar 1)) (sSeq (sFld 1 1 (eVar 0) (eVar 2)) (sFld 1 2 (eVar 0) (eVar 3))))
noncomputable def m_Walk___init__ : List D → M → R D := mkF 4 4 b_Walk___init__
noncomputable def b_Asker_say : Sl → M → S :=
  (sExpr (eApp (eFld 0 2 (eVar 0)) (eVar 1)))
noncomputable def m_Asker_say : List D → M → R D := mkF 2 2 b_Asker_say
noncomputable def b_Asker_take : Sl → M → S :=
  (sSeq (sIf (tB (eOp gEq (eOp gIx (eMeth 0 1 m_Asker_deed (eVar 0) lNil) (eC (.int 0))) (eC (.wd 2)))) (sSeq (sExpr (eMeth 0 2 m_Asker_tell (eVar 0) (lCons (eTup (lCons (eC (.wd 3)) lNil)) lNil))) (sRaise 1)) sNx) (sSeq (sExpr (eMeth 0 2 m_Asker_tell (eVar 0) (lCons (eTup (lCons (eC (.wd 4)) (lCons (eVar 1) lNil))) lNil))) (sSeq (sIf (tB (eOp gEq (eCB gLen (lCons (eFld 0 1 (eVar 0)) lNil)) (eCB gLen (lCons (eFld 0 0 (eVar 0)) lNil)))) (sRaise 1) sNx) (sRet (eMeth 0 1 m_Asker_deed (eVar 0) lNil)))))
noncomputable def m_Asker_take : List D → M → R D := mkF 2 2 b_Asker_take
noncomputable def b_Walk_keep : Sl → M → S :=
  (sIf (tB (eOp gIsN (eVar 1) (eC .non))) (sAsg (eVar 2) (gS (eFld 1 1 (eVar 0)) (eVar 1))) sNx)
noncomputable def m_Walk_keep : List D → M → R D := mkF 3 3 b_Walk_keep
noncomputable def b_Walk_give : Sl → M → S :=
  (sSeq (sSet 3 (eMeth 0 2 m_Asker_take (eFld 1 2 (eVar 0)) (lCons (eVar 1) lNil))) (sSeq (sIf (tB (eOp gEq (eOp gIx (eVar 3) (eC (.int 0))) (eC (.wd 0)))) (sSeq (sExpr (eMeth 1 3 m_Walk_keep (eVar 0) (lCons (eVar 2) (lCons (eOp gIx (eVar 3) (eC (.int 1))) lNil)))) (sRet (eC .non))) sNx) (sRet (eIf (tB (eOp gEq (eOp gIx (eVar 3) (eC (.int 0))) (eC (.wd 1)))) (eTup (lCons (eC (.wd 7)) (lCons (eOp gIx (eVar 3) (eC (.int 1))) lNil))) (eTup (lCons (eC (.wd 2)) lNil))))))
noncomputable def m_Walk_give : List D → M → R D := mkF 3 4 b_Walk_give
noncomputable def b_reckoned_of_two : Sl → M → S :=
  (sMatch (eVar 0) [((.val (.wd 10)), (sRet (eOp gMod (eOp gAdd (eVar 1) (eVar 2)) (eC (.int 1000))))), ((.val (.wd 11)), (sRet (eOp gMod (eOp gSub (eVar 1) (eVar 2)) (eC (.int 1000))))), ((.val (.wd 12)), (sRet (eOp gMod (eOp gMul (eVar 1) (eVar 2)) (eC (.int 1000))))), ((.val (.wd 13)), (sSeq (sIf (tB (eOp gEq (eVar 2) (eC (.int 0)))) (sRaise 0) sNx) (sRet (eOp gDiv (eVar 1) (eVar 2))))), ((.val (.wd 14)), (sRet (eIf (tB (eOp gLt (eVar 1) (eVar 2))) (eC (.int 1)) (eC (.int 0))))), (.wild, (sRet (eIf (tB (eOp gEq (eVar 1) (eVar 2))) (eC (.int 1)) (eC (.int 0)))))])
noncomputable def m_reckoned_of_two : List D → M → R D := mkF 3 3 b_reckoned_of_two
noncomputable def b_reckoned (rec : Nat → List D → M → R D) : Sl → M → S :=
  (sSeq (sIf (tB (eOp gEq (eOp gIx (eVar 0) (eC (.int 0))) (eC (.wd 8)))) (sRet (eOp gIx (eVar 0) (eC (.int 1)))) sNx) (sSeq (sIf (tB (eOp gEq (eOp gIx (eVar 0) (eC (.int 0))) (eC (.wd 9)))) (sRet (eOp gIx (eVar 1) (eOp gIx (eVar 0) (eC (.int 1))))) sNx) (sSeq (sAsg (eVar 0) (gT [2, 3, 4])) (sSeq (sSet 5 (eCall 2 (rec 0) (lCons (eVar 3) (lCons (eVar 1) lNil)))) (sSeq (sSet 6 (eCall 2 (rec 0) (lCons (eVar 4) (lCons (eVar 1) lNil)))) (sRet (eCall 3 m_reckoned_of_two (lCons (eVar 2) (lCons (eVar 5) (lCons (eVar 6) lNil))))))))))
noncomputable def m_rk : Nat → Nat → List D → M → R D
  | 0, _ => fun _ _ => .bad
  | n + 1, i => match i with
    | _ => mkF 2 7 (b_reckoned (m_rk n))
noncomputable def b_Walk_reckon : Sl → M → S :=
  (sRet (eCall 2 (m_rk 6 0) (lCons (eVar 1) (lCons (eFld 1 1 (eVar 0)) lNil))))
noncomputable def m_Walk_reckon : List D → M → R D := mkF 2 2 b_Walk_reckon
noncomputable def b_walked (rec : Nat → List D → M → R D) : Sl → M → S :=
  (sSeq (sAsg (eOp gIx (eVar 0) (eVar 1)) (gT [4, 5, 6])) (sSeq (sSet 7 (eMake 1 3 4 m_Walk___init__ (lCons (eVar 0) (lCons (eNew (lCat (lOf (eVar 2)) (lRep (lLst (lCons (eC (.int 0)) lNil)) (eOp gSub (eVar 5) (eVar 4))))) (lCons (eVar 3) lNil))))) (sSeq (sSet 8 (eMeth 1 2 (rec 1) (eVar 7) (lCons (eVar 6) lNil))) (sRet (eIf (tB (eOp gIs (eVar 8) (eC .non))) (eTup (lCons (eC (.wd 5)) (lCons (eC (.int 0)) lNil))) (eVar 8))))))
noncomputable def lb_Walk_body_0 (rec : Nat → List D → M → R D) : Sl → M → S :=
  (sSeq (sSet 3 (eMeth 1 2 (rec 2) (eVar 0) (lCons (eVar 2) lNil))) (sIf (tB (eOp gIsN (eVar 3) (eC .non))) (sRet (eVar 3)) sNx))
noncomputable def b_Walk_body (rec : Nat → List D → M → R D) : Sl → M → S :=
  (sSeq (sFor (gN 2) (iT (eVar 1)) (lb_Walk_body_0 rec)) (sRet (eC .non)))
noncomputable def b_Walk_outcome (rec : Nat → List D → M → R D) : Sl → M → S :=
  (sTry sub_NoPart (sRet (eMeth 1 2 (rec 3) (eVar 0) (lCons (eVar 1) lNil))) (sRet (eTup (lCons (eC (.wd 7)) (lCons (eC (.int 0)) lNil)))))
noncomputable def b_Walk_step (rec : Nat → List D → M → R D) : Sl → M → S :=
  (sSeq (sMatch (eVar 1) [((.seq [(.val (.wd 15)), (.cap 2), (.cap 3)]), (sExpr (eMeth 1 3 m_Walk_keep (eVar 0) (lCons (eVar 2) (lCons (eMeth 1 2 m_Walk_reckon (eVar 0) (lCons (eVar 3) lNil)) lNil))))), ((.seq [(.val (.wd 16)), (.cap 3)]), (sExpr (eMeth 0 2 m_Asker_say (eFld 1 2 (eVar 0)) (lCons (eMeth 1 2 m_Walk_reckon (eVar 0) (lCons (eVar 3) lNil)) lNil)))), ((.seq [(.val (.wd 17)), (.cap 3), (.cap 2)]), (sRet (eMeth 1 3 m_Walk_give (eVar 0) (lCons (eMeth 1 2 m_Walk_reckon (eVar 0) (lCons (eVar 3) lNil)) (lCons (eVar 2) lNil))))), ((.seq [(.val (.wd 18)), (.cap 4), (.cap 5), (.cap 2)]), (sRet (eMeth 1 4 (rec 4) (eVar 0) (lCons (eVar 4) (lCons (eNew (lLcE 11 (iT (eVar 5)) (eMeth 1 2 m_Walk_reckon (eVar 0) (lCons (eVar 11) lNil)))) (lCons (eVar 2) lNil)))))), ((.seq [(.val (.wd 19)), (.cap 3), (.cap 6), (.cap 7)]), (sRet (eMeth 1 2 (rec 1) (eVar 0) (lCons (eIf (tB (eOp gNe (eMeth 1 2 m_Walk_reckon (eVar 0) (lCons (eVar 3) lNil)) (eC (.int 0)))) (eVar 6) (eVar 7)) lNil)))), ((.seq [(.val (.wd 20)), (.cap 3), (.cap 8)]), (sRet (eMeth 1 3 (rec 5) (eVar 0) (lCons (eOp gMod (eMeth 1 2 m_Walk_reckon (eVar 0) (lCons (eVar 3) lNil)) (eC (.int 10))) (lCons (eVar 8) lNil))))), ((.seq [(.val (.wd 21))]), (sRet (eTup (lCons (eC (.wd 21)) lNil)))), ((.seq [(.val (.wd 7)), (.cap 3)]), (sRet (eTup (lCons (eC (.wd 7)) (lCons (eMeth 1 2 m_Walk_reckon (eVar 0) (lCons (eVar 3) lNil)) lNil))))), ((.seq [(.val (.wd 5)), (.cap 3)]), (sRet (eTup (lCons (eC (.wd 5)) (lCons (eMeth 1 2 m_Walk_reckon (eVar 0) (lCons (eVar 3) lNil)) lNil))))), ((.seq [(.val (.wd 22)), (.cap 6), (.cap 9), (.cap 10)]), (sRet (eMeth 1 4 (rec 6) (eVar 0) (lCons (eVar 6) (lCons (eVar 9) (lCons (eVar 10) lNil))))))]) (sRet (eC .non)))
noncomputable def b_Walk_hand (rec : Nat → List D → M → R D) : Sl → M → S :=
  (sSeq (sSet 4 (eCall 4 (rec 0) (lCons (eFld 1 0 (eVar 0)) (lCons (eVar 1) (lCons (eVar 2) (lCons (eFld 1 2 (eVar 0)) lNil)))))) (sSeq (sIf (tB (eOp gNe (eOp gIx (eVar 4) (eC (.int 0))) (eC (.wd 5)))) (sRet (eVar 4)) sNx) (sSeq (sExpr (eMeth 1 3 m_Walk_keep (eVar 0) (lCons (eVar 3) (lCons (eOp gIx (eVar 4) (eC (.int 1))) lNil)))) (sRet (eC .non)))))
noncomputable def lb_Walk_go_round_0 (rec : Nat → List D → M → R D) : Sl → M → S :=
  (sSeq (sSet 4 (eMeth 1 2 (rec 1) (eVar 0) (lCons (eVar 2) lNil))) (sSeq (sIf (tB (eOp (gEqD wds0) (eVar 4) (eTup (lCons (eC (.wd 21)) lNil)))) (sRet (eC .non)) sNx) (sIf (tB (eOp gIsN (eVar 4) (eC .non))) (sRet (eVar 4)) sNx)))
noncomputable def b_Walk_go_round (rec : Nat → List D → M → R D) : Sl → M → S :=
  (sSeq (sFor (gN 3) (iR (eVar 1)) (lb_Walk_go_round_0 rec)) (sRet (eC .non)))
noncomputable def b_Walk_attempt (rec : Nat → List D → M → R D) : Sl → M → S :=
  (sSeq (sSet 4 (eMeth 1 2 (rec 1) (eVar 0) (lCons (eVar 1) lNil))) (sSeq (sIf (tAnd (tB (eOp gIsN (eVar 2) (eC .non))) (tAnd (tB (eOp gIsN (eVar 4) (eC .non))) (tB (eOp gEq (eOp gIx (eVar 4) (eC (.int 0))) (eC (.wd 7)))))) (sSeq (sAsg (eVar 2) (gT [5, 6])) (sSeq (sExpr (eMeth 1 3 m_Walk_keep (eVar 0) (lCons (eVar 5) (lCons (eOp gIx (eVar 4) (eC (.int 1))) lNil)))) (sSet 4 (eMeth 1 2 (rec 1) (eVar 0) (lCons (eVar 6) lNil))))) sNx) (sSeq (sSet 7 (eMeth 1 2 (rec 1) (eVar 0) (lCons (eVar 3) lNil))) (sRet (eIf (tB (eOp gIs (eVar 7) (eC .non))) (eVar 4) (eVar 7))))))
noncomputable def m_wk : Nat → Nat → List D → M → R D
  | 0, _ => fun _ _ => .bad
  | n + 1, i => match i with
    | 0 => mkF 4 9 (b_walked (m_wk n))
    | 1 => mkF 2 4 (b_Walk_body (m_wk n))
    | 2 => mkF 2 2 (b_Walk_outcome (m_wk n))
    | 3 => mkF 2 12 (b_Walk_step (m_wk n))
    | 4 => mkF 4 5 (b_Walk_hand (m_wk n))
    | 5 => mkF 3 5 (b_Walk_go_round (m_wk n))
    | _ => mkF 4 8 (b_Walk_attempt (m_wk n))
noncomputable def b_asked (G : List D → M → R D) : Sl → M → S :=
  (sSeq (sSet 2 (eMake 0 3 2 m_Asker___init__ (lCons (eVar 0) lNil))) (sSeq (sIf (tB (eMeth 0 1 m_Asker_begins (eVar 2) lNil)) (sTry sub_Over (sExpr (eMeth 0 2 m_Asker_see_out (eVar 2) (lCons (eLam 1 1 G (lCons (eVar 2) lNil)) lNil))) sNx) sNx) (sSeq (sExpr (eMeth 0 1 m_Asker_do_the_rest (eVar 2) lNil)) (sRet (eFld 0 1 (eVar 2))))))
noncomputable def m_asked : (List D → M → R D) → List D → M → R D := mkFL 3 b_asked
noncomputable def b_is_whole : Sl → M → S :=
  (sRet (eAnd (eCB gIsi (lCons (eVar 0) (lCons (eC (.ty .int)) lNil))) (eAnd (eNot (eCB gIsi (lCons (eVar 0) (lCons (eC (.ty .bool)) lNil)))) (eChain gLe gLe (eVar 1) (eVar 0) (eVar 2)))))
noncomputable def m_is_whole : List D → M → R D := mkF 3 3 b_is_whole
noncomputable def b_is_deed : Sl → M → S :=
  (sMatch (eVar 0) [((.seq [(.or [(.val (.wd 0)), (.val (.wd 1))]), (.cap 1)]), (sRet (eCall 3 m_is_whole (lCons (eVar 1) (lCons (eC (.int 0)) (lCons (eC (.int 999)) lNil)))))), ((.seq [(.val (.wd 2))]), (sRet (eC (.bl true)))), (.wild, (sRet (eC (.bl false))))])
noncomputable def m_is_deed : List D → M → R D := mkF 1 2 b_is_deed
noncomputable def b_need_work : Sl → M → S :=
  (sIf (tNot (tB (eCall 3 m_is_whole (lCons (eVar 1) (lCons (eC (.int 0)) (lCons (eOp gSub (eCB gLen (lCons (eVar 0) lNil)) (eC (.int 1))) lNil)))))) sBad sNx)
noncomputable def m_need_work : List D → M → R D := mkF 2 2 b_need_work
noncomputable def lb_need_ask_1 : Sl → M → S :=
  (sIf (tNot (tB (eCall 1 m_is_deed (lCons (eVar 6) lNil)))) sBad sNx)
noncomputable def lb_need_ask_0 : Sl → M → S :=
  (sIf (tNot (tB (eCall 3 m_is_whole (lCons (eVar 5) (lCons (eC (.int 0)) (lCons (eC (.int 999)) lNil)))))) sBad sNx)
noncomputable def b_need_ask : Sl → M → S :=
  (sSeq (sExpr (eCall 2 m_need_work (lCons (eVar 0) (lCons (eVar 1) lNil)))) (sSeq (sSet 4 (eOp gIx (eOp gIx (eVar 0) (eVar 1)) (eC (.int 0)))) (sSeq (sIf (tB (eOp gNe (eCB gLen (lCons (eVar 2) lNil)) (eVar 4))) sBad sNx) (sSeq (sFor (gN 5) (iT (eVar 2)) lb_need_ask_0) (sFor (gN 6) (iO (eVar 3)) lb_need_ask_1)))))
noncomputable def m_need_ask : List D → M → R D := mkF 4 7 b_need_ask
noncomputable def b_Look___init__ : Sl → M → S :=
  (sSeq (sFld 2 0 (eVar 0) (eVar 1)) (sSeq (sFld 2 1 (eVar 0) (eVar 2)) (sSeq (sFld 2 2 (eVar 0) (eOp gIx (eOp gIx (eVar 1) (eVar 2)) (eC (.int 1)))) (sFld 2 3 (eVar 0) (eC (.int 0))))))
noncomputable def m_Look___init__ : List D → M → R D := mkF 3 3 b_Look___init__
noncomputable def b_Look_need : Sl → M → S :=
  (sIf (tNot (tB (eVar 1))) sBad sNx)
noncomputable def m_Look_need : List D → M → R D := mkF 2 2 b_Look_need
noncomputable def b_Look_reckoning (rec : Nat → List D → M → R D) : Sl → M → S :=
  (sSeq (sExpr (eMeth 2 2 m_Look_need (eVar 0) (lCons (eOp gLe (eVar 2) (eC (.int 3))) lNil))) (sMatch (eVar 1) [((.seq [(.val (.wd 8)), (.cap 3)]), (sExpr (eMeth 2 2 m_Look_need (eVar 0) (lCons (eCall 3 m_is_whole (lCons (eVar 3) (lCons (eC (.int 0)) (lCons (eC (.int 999)) lNil)))) lNil)))), ((.seq [(.val (.wd 9)), (.cap 4)]), (sExpr (eMeth 2 2 m_Look_need (eVar 0) (lCons (eCall 3 m_is_whole (lCons (eVar 4) (lCons (eC (.int 0)) (lCons (eOp gSub (eFld 2 2 (eVar 0)) (eC (.int 1))) lNil)))) lNil)))), ((.seq [(.or [(.val (.wd 10)), (.val (.wd 11)), (.val (.wd 12)), (.val (.wd 13)), (.val (.wd 14)), (.val (.wd 23))]), (.cap 5), (.cap 6)]), (sSeq (sExpr (eMeth 2 3 (rec 0) (eVar 0) (lCons (eVar 5) (lCons (eOp gAdd (eVar 2) (eC (.int 1))) lNil)))) (sExpr (eMeth 2 3 (rec 0) (eVar 0) (lCons (eVar 6) (lCons (eOp gAdd (eVar 2) (eC (.int 1))) lNil)))))), (.wild, sBad)]))
noncomputable def m_lr : Nat → Nat → List D → M → R D
  | 0, _ => fun _ _ => .bad
  | n + 1, i => match i with
    | _ => mkF 3 7 (b_Look_reckoning (m_lr n))
noncomputable def lb_Look_handing_0 : Sl → M → S :=
  (sExpr (eMeth 2 3 (m_lr 6 0) (eVar 0) (lCons (eVar 3) (lCons (eC (.int 0)) lNil))))
noncomputable def b_Look_handing : Sl → M → S :=
  (sSeq (sExpr (eMeth 2 2 m_Look_need (eVar 0) (lCons (eCall 3 m_is_whole (lCons (eVar 1) (lCons (eOp gAdd (eFld 2 1 (eVar 0)) (eC (.int 1))) (lCons (eOp gSub (eCB gLen (lCons (eFld 2 0 (eVar 0)) lNil)) (eC (.int 1))) lNil)))) lNil))) (sSeq (sExpr (eMeth 2 2 m_Look_need (eVar 0) (lCons (eAnd (eCB gIsi (lCons (eVar 2) (lCons (eC (.ty .tuple)) lNil))) (eOp gEq (eCB gLen (lCons (eVar 2) lNil)) (eOp gIx (eOp gIx (eFld 2 0 (eVar 0)) (eVar 1)) (eC (.int 0))))) lNil))) (sFor (gN 3) (iT (eVar 2)) lb_Look_handing_0)))
noncomputable def m_Look_handing : List D → M → R D := mkF 3 4 b_Look_handing
noncomputable def b_Look_kept : Sl → M → S :=
  (sExpr (eMeth 2 2 m_Look_need (eVar 0) (lCons (eOr (eOp gIs (eVar 1) (eC .non)) (eCall 3 m_is_whole (lCons (eVar 1) (lCons (eC (.int 0)) (lCons (eOp gSub (eFld 2 2 (eVar 0)) (eC (.int 1))) lNil))))) lNil)))
noncomputable def m_Look_kept : List D → M → R D := mkF 2 2 b_Look_kept
noncomputable def lb_Look_body_0 (rec : Nat → List D → M → R D) : Sl → M → S :=
  (sExpr (eMeth 2 4 (rec 1) (eVar 0) (lCons (eVar 4) (lCons (eVar 2) (lCons (eVar 3) lNil)))))
noncomputable def b_Look_body (rec : Nat → List D → M → R D) : Sl → M → S :=
  (sSeq (sExpr (eMeth 2 2 m_Look_need (eVar 0) (lCons (eCB gIsi (lCons (eVar 1) (lCons (eC (.ty .tuple)) lNil))) lNil))) (sFor (gN 4) (iT (eVar 1)) (lb_Look_body_0 rec)))
noncomputable def b_Look_step (rec : Nat → List D → M → R D) : Sl → M → S :=
  (sSeq (sFldA 2 3 gAdd (eVar 0) (eC (.int 1))) (sSeq (sExpr (eMeth 2 2 m_Look_need (eVar 0) (lCons (eAnd (eOp gLe (eFld 2 3 (eVar 0)) (eC (.int 40))) (eOp gLe (eVar 2) (eC (.int 6)))) lNil))) (sMatch (eVar 1) [((.seq [(.val (.wd 15)), (.cap 4), (.cap 5)]), (sSeq (sExpr (eMeth 2 2 m_Look_need (eVar 0) (lCons (eOp gIsN (eVar 4) (eC .non)) lNil))) (sSeq (sExpr (eMeth 2 2 m_Look_kept (eVar 0) (lCons (eVar 4) lNil))) (sExpr (eMeth 2 3 (m_lr 6 0) (eVar 0) (lCons (eVar 5) (lCons (eC (.int 0)) lNil))))))), ((.seq [(.or [(.val (.wd 16)), (.val (.wd 7)), (.val (.wd 5))]), (.cap 5)]), (sExpr (eMeth 2 3 (m_lr 6 0) (eVar 0) (lCons (eVar 5) (lCons (eC (.int 0)) lNil))))), ((.seq [(.val (.wd 17)), (.cap 5), (.cap 4)]), (sSeq (sExpr (eMeth 2 3 (m_lr 6 0) (eVar 0) (lCons (eVar 5) (lCons (eC (.int 0)) lNil)))) (sExpr (eMeth 2 2 m_Look_kept (eVar 0) (lCons (eVar 4) lNil))))), ((.seq [(.val (.wd 18)), (.cap 6), (.cap 7), (.cap 4)]), (sSeq (sExpr (eMeth 2 3 m_Look_handing (eVar 0) (lCons (eVar 6) (lCons (eVar 7) lNil)))) (sExpr (eMeth 2 2 m_Look_kept (eVar 0) (lCons (eVar 4) lNil))))), ((.seq [(.val (.wd 19)), (.cap 5), (.cap 8), (.cap 9)]), (sSeq (sExpr (eMeth 2 3 (m_lr 6 0) (eVar 0) (lCons (eVar 5) (lCons (eC (.int 0)) lNil)))) (sSeq (sExpr (eMeth 2 4 (rec 0) (eVar 0) (lCons (eVar 8) (lCons (eOp gAdd (eVar 2) (eC (.int 1))) (lCons (eVar 3) lNil))))) (sExpr (eMeth 2 4 (rec 0) (eVar 0) (lCons (eVar 9) (lCons (eOp gAdd (eVar 2) (eC (.int 1))) (lCons (eVar 3) lNil)))))))), ((.seq [(.val (.wd 20)), (.cap 5), (.cap 10)]), (sSeq (sExpr (eMeth 2 3 (m_lr 6 0) (eVar 0) (lCons (eVar 5) (lCons (eC (.int 0)) lNil)))) (sExpr (eMeth 2 4 (rec 0) (eVar 0) (lCons (eVar 10) (lCons (eOp gAdd (eVar 2) (eC (.int 1))) (lCons (eC (.bl true)) lNil))))))), ((.seq [(.val (.wd 21))]), (sExpr (eMeth 2 2 m_Look_need (eVar 0) (lCons (eVar 3) lNil)))), ((.seq [(.val (.wd 22)), (.cap 8), (.cap 11), (.cap 12)]), (sSeq (sExpr (eMeth 2 4 (rec 0) (eVar 0) (lCons (eVar 8) (lCons (eOp gAdd (eVar 2) (eC (.int 1))) (lCons (eVar 3) lNil))))) (sSeq (sExpr (eMeth 2 4 (rec 2) (eVar 0) (lCons (eVar 11) (lCons (eOp gAdd (eVar 2) (eC (.int 1))) (lCons (eVar 3) lNil))))) (sExpr (eMeth 2 4 (rec 0) (eVar 0) (lCons (eVar 12) (lCons (eOp gAdd (eVar 2) (eC (.int 1))) (lCons (eVar 3) lNil)))))))), (.wild, sBad)])))
noncomputable def b_Look_caught (rec : Nat → List D → M → R D) : Sl → M → S :=
  (sMatch (eVar 1) [(.non, sNx), ((.seq [(.cap 4), (.cap 5)]), (sSeq (sExpr (eMeth 2 2 m_Look_kept (eVar 0) (lCons (eVar 4) lNil))) (sExpr (eMeth 2 4 (rec 0) (eVar 0) (lCons (eVar 5) (lCons (eVar 2) (lCons (eVar 3) lNil))))))), (.wild, sBad)])
noncomputable def m_lk : Nat → Nat → List D → M → R D
  | 0, _ => fun _ _ => .bad
  | n + 1, i => match i with
    | 0 => mkF 4 5 (b_Look_body (m_lk n))
    | 1 => mkF 4 13 (b_Look_step (m_lk n))
    | _ => mkF 4 6 (b_Look_caught (m_lk n))
noncomputable def b_Look_whole_work : Sl → M → S :=
  (sSeq (sAsg (eOp gIx (eFld 2 0 (eVar 0)) (eFld 2 1 (eVar 0))) (gT [1, 2, 3])) (sSeq (sExpr (eMeth 2 2 m_Look_need (eVar 0) (lCons (eCall 3 m_is_whole (lCons (eVar 2) (lCons (eC (.int 1)) (lCons (eC (.int 4)) lNil)))) lNil))) (sSeq (sExpr (eMeth 2 2 m_Look_need (eVar 0) (lCons (eCall 3 m_is_whole (lCons (eVar 1) (lCons (eC (.int 0)) (lCons (eCB gMin (lCons (eC (.int 2)) (lCons (eVar 2) lNil))) lNil)))) lNil))) (sExpr (eMeth 2 4 (m_lk 30 0) (eVar 0) (lCons (eVar 3) (lCons (eC (.int 0)) (lCons (eC (.bl false)) lNil))))))))
noncomputable def m_Look_whole_work : List D → M → R D := mkF 1 4 b_Look_whole_work
noncomputable def lb_need_program_0 : Sl → M → S :=
  (sExpr (eMeth 2 1 m_Look_whole_work (eMake 2 4 3 m_Look___init__ (lCons (eVar 0) (lCons (eVar 1) lNil))) lNil))
noncomputable def b_need_program : Sl → M → S :=
  (sSeq (sIf (tNot (tB (eChain gLe gLe (eC (.int 1)) (eCB gLen (lCons (eVar 0) lNil)) (eC (.int 4))))) sBad sNx) (sFor (gN 1) (iR (eCB gLen (lCons (eVar 0) lNil))) lb_need_program_0))
noncomputable def m_need_program : List D → M → R D := mkF 1 2 b_need_program
noncomputable def b_played : Sl → M → S :=
  (sSeq (sExpr (eCall 1 m_need_program (lCons (eVar 0) lNil))) (sSeq (sExpr (eCall 4 m_need_ask (lCons (eVar 0) (lCons (eVar 1) (lCons (eVar 2) (lCons (eVar 3) lNil)))))) (sRet (eLamCall m_asked (eVar 3) 4 [0, 1, 2] (eCall 4 (m_wk 140 0) (lCons (eVar 1) (lCons (eVar 2) (lCons (eVar 3) (lCons (eVar 0) lNil)))))))))
noncomputable def m_played : List D → M → R D := mkF 4 4 b_played
noncomputable def lb_law_k02_1 : Sl → M → S :=
  (sSeq (sSet 11 (eCall 2 m__law_taken (lCons (eVar 1) (lCons (eC (.int 1000)) lNil)))) (sSeq (sSet 12 (eCall 2 m__law_taken (lCons (eVar 1) (lCons (eC (.int 3)) lNil)))) (sSeq (sExpr (eApp (eOp gIx (eVar 8) (eC (.int 1))) (eIxL (lLst (lCons (eTup (lCons (eC (.wd 0)) (lCons (eVar 11) lNil))) (lCons (eTup (lCons (eC (.wd 1)) (lCons (eVar 11) lNil))) (lCons (eTup (lCons (eC (.wd 2)) lNil)) lNil)))) (eVar 12)))) (sExpr (eApp (eVar 9) (eTup (lCons (eTup lNil) (lCons (eIxL (lLst (lCons (eTup (lCons (eC (.wd 6)) lNil)) (lCons (eTup (lCons (eC (.wd 7)) (lCons (eVar 11) lNil))) (lCons (eTup (lCons (eC (.wd 2)) lNil)) lNil)))) (eVar 12)) lNil))))))))
noncomputable def lb_law_k02_0 : Sl → M → S :=
  (sSeq (sSet 3 (eOp gAdd (eC (.int 1)) (eCall 2 m__law_taken (lCons (eVar 1) (lCons (eC (.int 4)) lNil))))) (sSeq (sSet 4 (eCall 2 m__law_taken (lCons (eVar 1) (lCons (eCB gMin (lCons (eC (.int 3)) (lCons (eOp gAdd (eVar 3) (eC (.int 1))) lNil))) lNil)))) (sSeq (sSet 5 (eCall 2 m__law_steps_v2 (lCons (eVar 1) (lCons (eVar 3) lNil)))) (sSeq (sSet 6 (eCall 2 m__law_numbers (lCons (eVar 1) (lCons (eVar 4) lNil)))) (sSeq (sSet 7 (eNew (lLst (lCons (eTup (lCons (eVar 4) (lCons (eVar 3) (lCons (eVar 5) lNil)))) lNil)))) (sSeq (sSet 8 (eNew (lLst (lCons (eNew (lOf (eVar 7))) (lCons (eNew (lLst (lCons (eTup (lCons (eC (.wd 0)) (lCons (eCall 2 m__law_taken (lCons (eVar 1) (lCons (eC (.int 1000)) lNil))) lNil))) lNil))) lNil))))) (sSeq (sSet 9 (eNew (lLst (lCons (eCall 2 m__law_gone (lCons (eVar 5) (lCons (eNew (lCat (lOf (eVar 6)) (lRep (lLst (lCons (eC (.int 0)) lNil)) (eOp gSub (eVar 3) (eVar 4))))) lNil))) lNil)))) (sSeq (sFor (gN 10) (iR (eCall 2 m__law_taken (lCons (eVar 1) (lCons (eC (.int 4)) lNil)))) lb_law_k02_1) (sSeq (sSet 13 (eNew (lOf (eOp gIx (eVar 8) (eC (.int 1)))))) (sSeq (sSet 14 (eCall 4 m_played (lCons (eOp gIx (eVar 8) (eC (.int 0))) (lCons (eC (.int 0)) (lCons (eVar 6) (lCons (eOp gIx (eVar 8) (eC (.int 1))) lNil)))))) (sSeq (sIf (tOr (tNot (tB (eCB gIsi (lCons (eVar 14) (lCons (eC (.ty .list)) lNil))))) (tOr (tNot (tB (eCall 2 (m_ga 8 0) (lCons (eVar 14) (lCons (eVar 9) lNil))))) (tB (eOp (gNeD wds0) (eVar 8) (eNew (lLst (lCons (eVar 7) (lCons (eVar 13) lNil)))))))) (sRet (eC (.bl false))) sNx) (sSeq (sExpr (eClear (eVar 14))) (sIf (tNot (tB (eCall 2 (m_ga 8 0) (lCons (eCall 4 m_played (lCons (eVar 7) (lCons (eC (.int 0)) (lCons (eVar 6) (lCons (eVar 13) lNil))))) (lCons (eVar 9) lNil))))) (sRet (eC (.bl false))) sNx)))))))))))))
noncomputable def b_law_k02 : Sl → M → S :=
  (sSeq (sSet 1 (eNew (lLst (lCons (eVar 0) (lCons (eC (.int 0)) (lCons (eC (.int 0)) (lCons (eC (.int 0)) lNil))))))) (sSeq (sFor (gN 2) (iR (eC (.int 3))) lb_law_k02_0) (sRet (eC (.bl true)))))
noncomputable def m_law_k02 : List D → M → R D := mkF 1 15 b_law_k02
noncomputable def lb__law_deeds_0 : Sl → M → S :=
  (sSeq (sSet 4 (eCall 2 m__law_taken (lCons (eVar 0) (lCons (eIxL (lLst (lCons (eC (.int 4)) (lCons (eC (.int 1000)) lNil))) (eCall 2 m__law_taken (lCons (eVar 0) (lCons (eC (.int 2)) lNil)))) lNil)))) (sSeq (sSet 5 (eCall 2 m__law_taken (lCons (eVar 0) (lCons (eIxL (lLst (lCons (eC (.int 24)) (lCons (eC (.int 9)) lNil))) (eCB gInt (lCons (eOp gGt (eVar 3) (eC (.int 0))) lNil))) lNil)))) (sExpr (eApp (eVar 2) (eIxL (lLst (lCons (eTup (lCons (eC (.wd 0)) (lCons (eVar 4) lNil))) (lCons (eTup (lCons (eC (.wd 1)) (lCons (eVar 4) lNil))) (lCons (eTup (lCons (eC (.wd 2)) lNil)) lNil)))) (eOp gMul (eOp gMul (eCB gInt (lCons (eOp gGt (eVar 5) (eC (.int 5))) lNil)) (eCB gInt (lCons (eOp gLt (eVar 5) (eC (.int 9))) lNil))) (eOp gAdd (eC (.int 1)) (eOp gDiv (eVar 5) (eC (.int 8))))))))))
noncomputable def b__law_deeds : Sl → M → S :=
  (sSeq (sSet 2 (eNew (lLst lNil))) (sSeq (sFor (gN 3) (iR (eCall 2 m__law_taken (lCons (eVar 0) (lCons (eOp gAdd (eVar 1) (eC (.int 1))) lNil)))) lb__law_deeds_0) (sRet (eVar 2))))
noncomputable def m__law_deeds : List D → M → R D := mkF 2 6 b__law_deeds
noncomputable def lb__law_gone_v2_0 : Sl → M → S :=
  (sSeq (sSet 6 (eCall 2 (m_gk 6 0) (lCons (eOp gIx (eVar 5) (eOp gAdd (eC (.int 1)) (eCB gInt (lCons (eOp gEq (eOp gIx (eVar 5) (eC (.int 0))) (eC (.wd 15))) lNil)))) (lCons (eVar 1) lNil)))) (sSeq (sIf (tB (eOp gIs (eVar 6) (eC .non))) (sRet (eNew (lCatV (eVar 3) (lLst (lCons (eTup (lCons (eCB gTuple (lCons (eVar 4) lNil)) (lCons (eTup (lCons (eC (.wd 7)) (lCons (eC (.int 0)) lNil))) lNil))) lNil))))) sNx) (sSeq (sIf (tB (eOp gEq (eOp gIx (eVar 5) (eC (.int 0))) (eC (.wd 15)))) (sAsg (eVar 6) (gS (eVar 1) (eOp gIx (eVar 5) (eC (.int 1))))) sNx) (sSeq (sIf (tB (eOp gEq (eOp gIx (eVar 5) (eC (.int 0))) (eC (.wd 16)))) (sExpr (eApp (eVar 4) (eVar 6))) sNx) (sIf (tB (eOp gEq (eOp gIx (eVar 5) (eC (.int 0))) (eC (.wd 17)))) (sSeq (sExpr (eApp (eVar 3) (eTup (lCons (eCB gTuple (lCons (eVar 4) lNil)) (lCons (eTup (lCons (eC (.wd 4)) (lCons (eVar 6) lNil))) lNil))))) (sSeq (sSet 4 (eNew (lLst lNil))) (sSeq (sIf (tB (eOp gEq (eCB gLen (lCons (eVar 3) lNil)) (eCB gLen (lCons (eVar 2) lNil)))) (sRet (eVar 3)) sNx) (sSeq (sSet 7 (eOp gIx (eVar 2) (eCB gLen (lCons (eVar 3) lNil)))) (sSeq (sIf (tB (eOp gNe (eOp gIx (eVar 7) (eC (.int 0))) (eC (.wd 0)))) (sRet (eIf (tB (eOp gEq (eOp gIx (eVar 7) (eC (.int 0))) (eC (.wd 1)))) (eNew (lCatV (eVar 3) (lLst (lCons (eTup (lCons (eTup lNil) (lCons (eCatT (eTup (lCons (eC (.wd 7)) lNil)) (eCutT (eVar 7) (oAt (eC (.int 1))) oNo)) lNil))) lNil)))) (eNew (lCatV (eVar 3) (lLst (lCons (eTup (lCons (eTup lNil) (lCons (eVar 7) lNil))) lNil)))))) sNx) (sIf (tB (eOp gIsN (eOp gIx (eVar 5) (eC (.int 2))) (eC .non))) (sAsg (eOp gIx (eVar 7) (eC (.int 1))) (gS (eVar 1) (eOp gIx (eVar 5) (eC (.int 2))))) sNx)))))) sNx)))))
noncomputable def b__law_gone_v2 : Sl → M → S :=
  (sSeq (sSet 3 (eNew (lLst lNil))) (sSeq (sSet 4 (eNew (lLst lNil))) (sSeq (sFor (gN 5) (iT (eVar 0)) lb__law_gone_v2_0) (sRet (eNew (lCatV (eVar 3) (lLst (lCons (eTup (lCons (eCB gTuple (lCons (eVar 4) lNil)) (lCons (eTup (lCons (eC (.wd 5)) (lCons (eC (.int 0)) lNil))) lNil))) lNil))))))))
noncomputable def m__law_gone_v2 : List D → M → R D := mkF 3 8 b__law_gone_v2
noncomputable def b__law_over : Sl → M → S :=
  (sSeq (sIf (tB (eOp gEq (eOp gIx (eVar 0) (eC (.int 0))) (eC (.wd 1)))) (sRet (eTup (lCons (eTup lNil) (lCons (eTup (lCons (eC (.wd 7)) (lCons (eOp gIx (eVar 0) (eC (.int 1))) lNil))) lNil)))) sNx) (sRet (eTup (lCons (eTup lNil) (lCons (eIxL (lLst (lCons (eTup (lCons (eC (.wd 6)) lNil)) (lCons (eTup (lCons (eC (.wd 2)) lNil)) lNil))) (eCB gInt (lCons (eOp gEq (eOp gIx (eVar 0) (eC (.int 0))) (eC (.wd 2))) lNil))) lNil)))))
noncomputable def m__law_over : List D → M → R D := mkF 1 1 b__law_over
noncomputable def lb__law_steps_v3_0 : Sl → M → S :=
  (sSeq (sSet 4 (eCall 3 (m_gr 6 0) (lCons (eVar 0) (lCons (eVar 1) (lCons (eCall 2 m__law_taken (lCons (eVar 0) (lCons (eC (.int 2)) lNil))) lNil))))) (sSeq (sSet 5 (eCall 2 m__law_taken (lCons (eVar 0) (lCons (eC (.int 5)) lNil)))) (sIf (tB (eOp gLt (eVar 5) (eC (.int 3)))) (sExpr (eApp (eVar 2) (eTup (lCons (eC (.wd 17)) (lCons (eVar 4) (lCons (eIxL (lCat (lLst (lCons (eC .non) lNil)) (lRg (eVar 1))) (eCall 2 m__law_taken (lCons (eVar 0) (lCons (eOp gAdd (eVar 1) (eC (.int 1))) lNil)))) lNil)))))) (sExpr (eApp (eVar 2) (eIxL (lLst (lCons (eTup (lCons (eC (.wd 15)) (lCons (eCall 2 m__law_taken (lCons (eVar 0) (lCons (eVar 1) lNil))) (lCons (eVar 4) lNil)))) (lCons (eTup (lCons (eC (.wd 16)) (lCons (eVar 4) lNil))) lNil))) (eOp gSub (eVar 5) (eC (.int 3)))))))))
noncomputable def b__law_steps_v3 : Sl → M → S :=
  (sSeq (sSet 2 (eNew (lLst lNil))) (sSeq (sFor (gN 3) (iR (eCall 2 m__law_taken (lCons (eVar 0) (lCons (eC (.int 11)) lNil)))) lb__law_steps_v3_0) (sRet (eCB gTuple (lCons (eVar 2) lNil)))))
noncomputable def m__law_steps_v3 : List D → M → R D := mkF 2 6 b__law_steps_v3
noncomputable def lb_law_k03_0 : Sl → M → S :=
  (sSeq (sSet 3 (eOp gAdd (eC (.int 1)) (eCall 2 m__law_taken (lCons (eVar 1) (lCons (eC (.int 4)) lNil))))) (sSeq (sSet 4 (eCall 2 m__law_taken (lCons (eVar 1) (lCons (eCB gMin (lCons (eC (.int 3)) (lCons (eOp gAdd (eVar 3) (eC (.int 1))) lNil))) lNil)))) (sSeq (sSet 5 (eCall 2 m__law_steps_v3 (lCons (eVar 1) (lCons (eVar 3) lNil)))) (sSeq (sSet 6 (eCall 2 m__law_numbers (lCons (eVar 1) (lCons (eVar 4) lNil)))) (sSeq (sSet 7 (eCall 2 m__law_deeds (lCons (eVar 1) (lCons (eC (.int 9)) lNil)))) (sSeq (sSet 8 (eNew (lLst lNil))) (sSeq (sIf (tAnd (tB (eOp (gNeD wds0) (eVar 7) (eNew (lLst lNil)))) (tB (eOp gEq (eOp gIx (eOp gIx (eVar 7) (eC (.int 0))) (eC (.int 0))) (eC (.wd 0))))) (sSet 8 (eCall 3 m__law_gone_v2 (lCons (eVar 5) (lCons (eNew (lCat (lOf (eVar 6)) (lRep (lLst (lCons (eC (.int 0)) lNil)) (eOp gSub (eVar 3) (eVar 4))))) (lCons (eVar 7) lNil))))) sNx) (sSeq (sSet 8 (eNew (lCatV (eVar 8) (lLc 11 (iN (lCut (eVar 7) (oAt (eCB gLen (lCons (eVar 8) lNil))) oNo)) tYs (eCall 1 m__law_over (lCons (eVar 11) lNil)))))) (sSeq (sSet 9 (eNew (lLst (lCons (eTup (lCons (eVar 4) (lCons (eVar 3) (lCons (eVar 5) lNil)))) lNil)))) (sSeq (sSet 10 (eNew (lLst (lCons (eNew (lOf (eVar 9))) (lCons (eNew (lOf (eVar 7))) lNil))))) (sSeq (sIf (tOr (tNot (tB (eCall 2 (m_ga 8 0) (lCons (eCall 4 m_played (lCons (eOp gIx (eVar 10) (eC (.int 0))) (lCons (eC (.int 0)) (lCons (eVar 6) (lCons (eOp gIx (eVar 10) (eC (.int 1))) lNil))))) (lCons (eVar 8) lNil))))) (tB (eOp (gNeD wds0) (eVar 10) (eNew (lLst (lCons (eVar 9) (lCons (eVar 7) lNil))))))) (sRet (eC (.bl false))) sNx) (sIf (tB (eOp (gNeD wds0) (eCall 4 m_played (lCons (eOp gIx (eVar 10) (eC (.int 0))) (lCons (eC (.int 0)) (lCons (eVar 6) (lCons (eNew (lLst lNil)) lNil))))) (eNew (lLst lNil)))) (sRet (eC (.bl false))) sNx))))))))))))
noncomputable def b_law_k03 : Sl → M → S :=
  (sSeq (sSet 1 (eNew (lLst (lCons (eVar 0) (lCons (eC (.int 0)) (lCons (eC (.int 0)) (lCons (eC (.int 0)) lNil))))))) (sSeq (sFor (gN 2) (iR (eC (.int 3))) lb_law_k03_0) (sRet (eC (.bl true)))))
noncomputable def m_law_k03 : List D → M → R D := mkF 1 12 b_law_k03
noncomputable def b__law_alike_v2 (rec : Nat → List D → M → R D) : Sl → M → S :=
  (sSeq (sIf (tOr (tB (eCB gIsi (lCons (eVar 1) (lCons (eC (.ty .tuple)) lNil)))) (tB (eCB gIsi (lCons (eVar 1) (lCons (eC (.ty .list)) lNil))))) (sSeq (sIf (tOr (tB (eOp gNe (eCB gIsi (lCons (eVar 0) (lCons (eC (.ty .tuple)) lNil))) (eCB gIsi (lCons (eVar 1) (lCons (eC (.ty .tuple)) lNil))))) (tNot (tB (eIsi2 (eVar 0) (lCons (eC (.ty .tuple)) (lCons (eC (.ty .list)) lNil)))))) (sRet (eC (.bl false))) sNx) (sSeq (sIf (tB (eOp gNe (eCB gLen (lCons (eVar 0) lNil)) (eCB gLen (lCons (eVar 1) lNil)))) (sRet (eC (.bl false))) sNx) (sRet (eNil (lLc 2 (iR (eCB gLen (lCons (eVar 1) lNil))) (tNot (tB (eCall 2 (rec 0) (lCons (eOp gIx (eVar 0) (eVar 2)) (lCons (eOp gIx (eVar 1) (eVar 2)) lNil))))) (eVar 2)))))) sNx) (sSeq (sIf (tOr (tB (eOp gIs (eVar 1) (eC .non))) (tB (eOp gIs (eVar 0) (eC .non)))) (sRet (eAnd (eOp gIs (eVar 1) (eC .non)) (eOp gIs (eVar 0) (eC .non)))) sNx) (sSeq (sIf (tOr (tB (eCB gIsi (lCons (eVar 1) (lCons (eC (.ty .bool)) lNil)))) (tB (eCB gIsi (lCons (eVar 0) (lCons (eC (.ty .bool)) lNil))))) (sRet (eAnd (eCB gIsi (lCons (eVar 1) (lCons (eC (.ty .bool)) lNil))) (eAnd (eCB gIsi (lCons (eVar 0) (lCons (eC (.ty .bool)) lNil))) (eOp gEq (eVar 0) (eVar 1))))) sNx) (sSeq (sIf (tB (eCB gIsi (lCons (eVar 1) (lCons (eC (.ty .str)) lNil)))) (sRet (eAnd (eCB gIsi (lCons (eVar 0) (lCons (eC (.ty .str)) lNil))) (eOp gEq (eVar 0) (eVar 1)))) sNx) (sRet (eAnd (eCB gIsi (lCons (eVar 0) (lCons (eC (.ty .int)) lNil))) (eOp gEq (eVar 0) (eVar 1))))))))
noncomputable def m_ga2 : Nat → Nat → List D → M → R D
  | 0, _ => fun _ _ => .bad
  | n + 1, i => match i with
    | _ => mkF 2 3 (b__law_alike_v2 (m_ga2 n))
noncomputable def b__law_tell : Sl → M → S :=
  (sSeq (sExpr (eApp (eDGet (eVar 0) 24) (eTup (lCons (eCB gTuple (lCons (eDGet (eVar 0) 25) lNil)) (lCons (eVar 1) lNil))))) (sDPutM (eVar 0) 25 (eNew (lLst lNil))))
noncomputable def m__law_tell : List D → M → R D := mkF 2 2 b__law_tell
noncomputable def lb__law_closed_0 : Sl → M → S :=
  (sSet 3 (eNew (lCatV (eVar 3) (lLst (lCons (eTup (lCons (eTup lNil) (lCons (eDlit (dlCons 0 (eTup (lCons (eC (.wd 6)) lNil)) (dlCons 1 (eCatT (eTup (lCons (eC (.wd 7)) lNil)) (eCutT (eVar 4) (oAt (eC (.int 1))) oNo)) (dlCons 2 (eVar 4) dlNil))) (eOp gIx (eVar 4) (eC (.int 0)))) lNil))) lNil)))))
noncomputable def b__law_closed : Sl → M → S :=
  (sSeq (sIf (tB (eOp gNe (eOp gIx (eVar 1) (eC (.int 0))) (eC (.wd 27)))) (sSeq (sSet 2 (eOp gEq (eOp gIx (eOp gIx (eDGet (eVar 0) 26) (eCB gLen (lCons (eDGet (eVar 0) 24) lNil))) (eC (.int 0))) (eC (.wd 2)))) (sExpr (eCall 2 m__law_tell (lCons (eVar 0) (lCons (eIxL (lLst (lCons (eVar 1) (lCons (eTup (lCons (eC (.wd 2)) lNil)) lNil))) (eCB gInt (lCons (eAnd (eOp gEq (eOp gIx (eVar 1) (eC (.int 0))) (eC (.wd 5))) (eVar 2)) lNil))) lNil))))) sNx) (sSeq (sSet 3 (eDGet (eVar 0) 24)) (sSeq (sFor (gN 4) (iN (lCut (eDGet (eVar 0) 26) (oAt (eCB gLen (lCons (eVar 3) lNil))) oNo)) lb__law_closed_0) (sRet (eVar 3)))))
noncomputable def m__law_closed : List D → M → R D := mkF 2 5 b__law_closed
noncomputable def b__law_gift : Sl → M → S :=
  (sSeq (sIf (tB (eOp gEq (eOp gIx (eOp gIx (eDGet (eVar 0) 26) (eCB gLen (lCons (eDGet (eVar 0) 24) lNil))) (eC (.int 0))) (eC (.wd 2)))) (sSeq (sExpr (eCall 2 m__law_tell (lCons (eVar 0) (lCons (eTup (lCons (eC (.wd 3)) lNil)) lNil)))) (sRet (eTup (lCons (eC (.wd 27)) lNil)))) sNx) (sSeq (sExpr (eCall 2 m__law_tell (lCons (eVar 0) (lCons (eTup (lCons (eC (.wd 4)) (lCons (eVar 1) lNil))) lNil)))) (sRet (eIxL (lCatV (eDGet (eVar 0) 26) (lLst (lCons (eTup (lCons (eC (.wd 27)) lNil)) lNil))) (eCB gLen (lCons (eDGet (eVar 0) 24) lNil))))))
noncomputable def m__law_gift : List D → M → R D := mkF 2 2 b__law_gift
noncomputable def b__law_given : Sl → M → S :=
  (sSeq (sIf (tB (eOp gEq (eOp gIx (eVar 1) (eC (.int 0))) (eC (.wd 1)))) (sRet (eTup (lCons (eC (.wd 7)) (lCons (eOp gIx (eVar 1) (eC (.int 1))) lNil)))) sNx) (sSeq (sIf (tB (eOp gNe (eOp gIx (eVar 1) (eC (.int 0))) (eC (.wd 0)))) (sRet (eVar 1)) sNx) (sSeq (sIf (tB (eOp gIsN (eVar 0) (eC .non))) (sAsg (eOp gIx (eVar 1) (eC (.int 1))) (gS (eVar 2) (eVar 0))) sNx) (sRet (eC .non)))))
noncomputable def m__law_given : List D → M → R D := mkF 3 3 b__law_given
noncomputable def lb__law_walk_0 (rec : Nat → List D → M → R D) : Sl → M → S :=
  (sSeq (sSet 5 (eCall 4 (rec 1) (lCons (eVar 0) (lCons (eVar 4) (lCons (eVar 2) (lCons (eVar 3) lNil)))))) (sIf (tB (eOp gIsN (eVar 5) (eC .non))) (sRet (eVar 5)) sNx))
noncomputable def b__law_walk (rec : Nat → List D → M → R D) : Sl → M → S :=
  (sSeq (sFor (gN 4) (iT (eVar 1)) (lb__law_walk_0 rec)) (sRet (eC .non)))
noncomputable def b__law_step (rec : Nat → List D → M → R D) : Sl → M → S :=
  (sSeq (sIf (tB (eOp gEq (eOp gIx (eVar 1) (eC (.int 0))) (eC (.wd 21)))) (sRet (eVar 1)) sNx) (sSeq (sIf (tB (eOp gEq (eOp gIx (eVar 1) (eC (.int 0))) (eC (.wd 22)))) (sRet (eCall 4 (rec 4) (lCons (eVar 0) (lCons (eVar 1) (lCons (eVar 2) (lCons (eVar 3) lNil)))))) sNx) (sSeq (sIf (tB (eOp gEq (eOp gIx (eVar 1) (eC (.int 0))) (eC (.wd 18)))) (sRet (eCall 4 (rec 3) (lCons (eVar 0) (lCons (eVar 1) (lCons (eVar 2) (lCons (eVar 3) lNil)))))) sNx) (sSeq (sSet 4 (eCall 2 (m_gk 6 0) (lCons (eOp gIx (eVar 1) (eOp gAdd (eC (.int 1)) (eCB gInt (lCons (eOp gEq (eOp gIx (eVar 1) (eC (.int 0))) (eC (.wd 15))) lNil)))) (lCons (eVar 2) lNil)))) (sSeq (sIf (tB (eOp gIs (eVar 4) (eC .non))) (sRet (eTup (lCons (eC (.wd 7)) (lCons (eC (.int 0)) lNil)))) sNx) (sSeq (sIf (tB (eOp gInW (eOp gIx (eVar 1) (eC (.int 0))) (eTup (lCons (eC (.wd 7)) (lCons (eC (.wd 5)) lNil))))) (sRet (eTup (lCons (eOp gIx (eVar 1) (eC (.int 0))) (lCons (eVar 4) lNil)))) sNx) (sSeq (sIf (tB (eOp gEq (eOp gIx (eVar 1) (eC (.int 0))) (eC (.wd 19)))) (sRet (eCall 4 (rec 0) (lCons (eVar 0) (lCons (eOp gIx (eVar 1) (eOp gSub (eC (.int 3)) (eCB gInt (lCons (eOp gGt (eVar 4) (eC (.int 0))) lNil)))) (lCons (eVar 2) (lCons (eVar 3) lNil)))))) sNx) (sSeq (sIf (tB (eOp gEq (eOp gIx (eVar 1) (eC (.int 0))) (eC (.wd 20)))) (sRet (eCall 5 (rec 2) (lCons (eVar 0) (lCons (eOp gIx (eVar 1) (eC (.int 2))) (lCons (eOp gMod (eVar 4) (eC (.int 10))) (lCons (eVar 2) (lCons (eVar 3) lNil))))))) sNx) (sSeq (sIf (tB (eOp gEq (eOp gIx (eVar 1) (eC (.int 0))) (eC (.wd 17)))) (sRet (eCall 3 m__law_given (lCons (eOp gIx (eVar 1) (eC (.int 2))) (lCons (eCall 2 m__law_gift (lCons (eVar 3) (lCons (eVar 4) lNil))) (lCons (eVar 2) lNil))))) sNx) (sSeq (sIf (tB (eOp gEq (eOp gIx (eVar 1) (eC (.int 0))) (eC (.wd 16)))) (sExpr (eApp (eDGet (eVar 3) 25) (eVar 4))) (sAsg (eVar 4) (gS (eVar 2) (eOp gIx (eVar 1) (eC (.int 1)))))) (sRet (eC .non))))))))))))
noncomputable def lb__law_rounds_0 (rec : Nat → List D → M → R D) : Sl → M → S :=
  (sSeq (sSet 6 (eCall 4 (rec 0) (lCons (eVar 0) (lCons (eVar 1) (lCons (eVar 3) (lCons (eVar 4) lNil)))))) (sIf (tB (eOp gIsN (eVar 6) (eC .non))) (sRet (eIxL (lLst (lCons (eVar 6) (lCons (eC .non) lNil))) (eCB gInt (lCons (eOp gEq (eOp gIx (eVar 6) (eC (.int 0))) (eC (.wd 21))) lNil)))) sNx))
noncomputable def b__law_rounds (rec : Nat → List D → M → R D) : Sl → M → S :=
  (sSeq (sFor (gN 5) (iR (eVar 2)) (lb__law_rounds_0 rec)) (sRet (eC .non)))
noncomputable def b__law_handed (rec : Nat → List D → M → R D) : Sl → M → S :=
  (sSeq (sAsg (eOp gIx (eVar 0) (eOp gIx (eVar 1) (eC (.int 1)))) (gT [4, 5, 6])) (sSeq (sSet 7 (eNew (lLc 9 (iT (eOp gIx (eVar 1) (eC (.int 2)))) tYs (eCall 2 (m_gk 6 0) (lCons (eVar 9) (lCons (eVar 2) lNil)))))) (sSeq (sIf (tB (eOp gNoneIn (eC .non) (eVar 7))) (sRet (eTup (lCons (eC (.wd 7)) (lCons (eC (.int 0)) lNil)))) sNx) (sSeq (sSet 8 (eCall 4 (rec 0) (lCons (eVar 0) (lCons (eVar 6) (lCons (eNew (lCatV (eVar 7) (lRep (lLst (lCons (eC (.int 0)) lNil)) (eOp gSub (eVar 5) (eVar 4))))) (lCons (eVar 3) lNil)))))) (sSeq (sIf (tAnd (tB (eOp gIsN (eVar 8) (eC .non))) (tB (eOp gNe (eOp gIx (eVar 8) (eC (.int 0))) (eC (.wd 5))))) (sRet (eVar 8)) sNx) (sSeq (sIf (tB (eOp gIsN (eOp gIx (eVar 1) (eC (.int 3))) (eC .non))) (sAsg (eOp gIx (eOrT (eVar 8) (eTup (lCons (eC (.wd 5)) (lCons (eC (.int 0)) lNil)))) (eC (.int 1))) (gS (eVar 2) (eOp gIx (eVar 1) (eC (.int 3))))) sNx) (sRet (eC .non))))))))
noncomputable def b__law_tried (rec : Nat → List D → M → R D) : Sl → M → S :=
  (sSeq (sSet 4 (eCall 4 (rec 0) (lCons (eVar 0) (lCons (eOp gIx (eVar 1) (eC (.int 1))) (lCons (eVar 2) (lCons (eVar 3) lNil)))))) (sSeq (sIf (tAnd (tB (eOp gIsN (eOp gIx (eVar 1) (eC (.int 2))) (eC .non))) (tAnd (tB (eOp gIsN (eVar 4) (eC .non))) (tB (eOp gEq (eOp gIx (eVar 4) (eC (.int 0))) (eC (.wd 7)))))) (sSeq (sIf (tB (eOp gIsN (eOp gIx (eOp gIx (eVar 1) (eC (.int 2))) (eC (.int 0))) (eC .non))) (sAsg (eOp gIx (eVar 4) (eC (.int 1))) (gS (eVar 2) (eOp gIx (eOp gIx (eVar 1) (eC (.int 2))) (eC (.int 0))))) sNx) (sSet 4 (eCall 4 (rec 0) (lCons (eVar 0) (lCons (eOp gIx (eOp gIx (eVar 1) (eC (.int 2))) (eC (.int 1))) (lCons (eVar 2) (lCons (eVar 3) lNil))))))) sNx) (sSeq (sIf (tB (eOp (gEqD wds0) (eVar 4) (eTup (lCons (eC (.wd 27)) lNil)))) (sRet (eVar 4)) sNx) (sSeq (sSet 5 (eCall 4 (rec 0) (lCons (eVar 0) (lCons (eOp gIx (eVar 1) (eC (.int 3))) (lCons (eVar 2) (lCons (eVar 3) lNil)))))) (sRet (eIxL (lLst (lCons (eVar 5) (lCons (eVar 4) lNil))) (eCB gInt (lCons (eOp gIs (eVar 5) (eC .non)) lNil))))))))
noncomputable def m_lw : Nat → Nat → List D → M → R D
  | 0, _ => fun _ _ => .bad
  | n + 1, i => match i with
    | 0 => mkF 4 6 (b__law_walk (m_lw n))
    | 1 => mkF 4 5 (b__law_step (m_lw n))
    | 2 => mkF 5 7 (b__law_rounds (m_lw n))
    | 3 => mkF 4 10 (b__law_handed (m_lw n))
    | _ => mkF 4 6 (b__law_tried (m_lw n))
noncomputable def b__law_due : Sl → M → S :=
  (sSeq (sSet 4 (eDNew (dlCons 26 (eNew (lOf (eVar 3))) (dlCons 24 (eNew (lLst lNil)) (dlCons 25 (eNew (lLst lNil)) dlNil))))) (sSeq (sSet 5 (eTup (lCons (eC (.wd 27)) lNil))) (sSeq (sIf (tAnd (tB (eOp (gNeD wds0) (eVar 3) (eNew (lLst lNil)))) (tB (eOp gEq (eOp gIx (eOp gIx (eVar 3) (eC (.int 0))) (eC (.int 0))) (eC (.wd 0))))) (sSeq (sAsg (eOp gIx (eVar 0) (eVar 1)) (gT [6, 7, 8])) (sSeq (sSet 9 (eNew (lCat (lOf (eVar 2)) (lRep (lLst (lCons (eC (.int 0)) lNil)) (eOp gSub (eVar 7) (eVar 6)))))) (sSet 5 (eOrT (eCall 4 (m_lw 140 0) (lCons (eVar 0) (lCons (eVar 8) (lCons (eVar 9) (lCons (eVar 4) lNil))))) (eTup (lCons (eC (.wd 5)) (lCons (eC (.int 0)) lNil))))))) sNx) (sRet (eCall 2 m__law_closed (lCons (eVar 4) (lCons (eVar 5) lNil)))))))
noncomputable def m__law_due : List D → M → R D := mkF 4 10 b__law_due
noncomputable def b__law_lent : Sl → M → S :=
  (sSeq (sSet 4 (eOp gSub (eOp gSub (eCB gLen (lCons (eOp gIx (eVar 1) (eC (.int 1))) lNil)) (eC (.int 1))) (eOp gIx (eVar 1) (eC (.int 0))))) (sSeq (sIf (tOr (tB (eOp gEq (eVar 4) (eC (.int 0)))) (tB (eOp gEq (eOp gIx (eVar 1) (eC (.int 4))) (eC (.int 0))))) (sRet (eTup (lCons (eC (.wd 16)) (lCons (eVar 2) lNil)))) sNx) (sSeq (sAsg (eOp gSub (eOp gIx (eVar 1) (eC (.int 4))) (eC (.int 1))) (gS (eVar 1) (eC (.int 4)))) (sSeq (sSet 5 (eOp gAdd (eOp gAdd (eOp gIx (eVar 1) (eC (.int 0))) (eC (.int 1))) (eCall 2 m__law_taken (lCons (eVar 0) (lCons (eVar 4) lNil))))) (sSeq (sSet 6 (eOp gIx (eOp gIx (eOp gIx (eVar 1) (eC (.int 1))) (eOp gIx (eVar 1) (eC (.int 0)))) (eC (.int 1)))) (sSeq (sSet 7 (eNew (lLc 8 (iR (eOp gIx (eOp gIx (eOp gIx (eVar 1) (eC (.int 1))) (eVar 5)) (eC (.int 0)))) tYs (eCall 3 (m_gr 6 0) (lCons (eVar 0) (lCons (eVar 6) (lCons (eC (.int 1)) lNil))))))) (sRet (eTup (lCons (eC (.wd 18)) (lCons (eVar 5) (lCons (eCB gTuple (lCons (eVar 7) lNil)) (lCons (eVar 3) lNil))))))))))))
noncomputable def m__law_lent : List D → M → R D := mkF 4 9 b__law_lent
noncomputable def lb__law_body_0 (rec : Nat → List D → M → R D) : Sl → M → S :=
  (sIf (tB (eOp gGt (eOp gIx (eVar 1) (eC (.int 2))) (eC (.int 0)))) (sSeq (sAsg (eOp gSub (eOp gIx (eVar 1) (eC (.int 2))) (eC (.int 1))) (gS (eVar 1) (eC (.int 2)))) (sExpr (eApp (eVar 5) (eCall 4 (rec 1) (lCons (eVar 0) (lCons (eVar 1) (lCons (eVar 2) (lCons (eVar 3) lNil)))))))) sNx)
noncomputable def b__law_body (rec : Nat → List D → M → R D) : Sl → M → S :=
  (sSeq (sSet 5 (eNew (lLst lNil))) (sSeq (sFor (gN 6) (iR (eCall 2 m__law_taken (lCons (eVar 0) (lCons (eOp gAdd (eVar 4) (eC (.int 1))) lNil)))) (lb__law_body_0 rec)) (sRet (eCB gTuple (lCons (eVar 5) lNil)))))
noncomputable def b__law_drawn (rec : Nat → List D → M → R D) : Sl → M → S :=
  (sSeq (sSet 4 (eOp gIx (eOp gIx (eOp gIx (eVar 1) (eC (.int 1))) (eOp gIx (eVar 1) (eC (.int 0)))) (eC (.int 1)))) (sSeq (sSet 5 (eCall 3 (m_gr 6 0) (lCons (eVar 0) (lCons (eVar 4) (lCons (eCall 2 m__law_taken (lCons (eVar 0) (lCons (eC (.int 4)) lNil))) lNil))))) (sSeq (sSet 6 (eIxL (lLst (lCons (eC .non) (lCons (eC (.int 0)) (lCons (eC (.int 1)) (lCons (eC (.int 2)) (lCons (eC (.int 3)) lNil)))))) (eCall 2 m__law_taken (lCons (eVar 0) (lCons (eOp gAdd (eC (.int 1)) (eVar 4)) lNil))))) (sSeq (sSet 7 (eCall 2 m__law_taken (lCons (eVar 0) (lCons (eIxL (lLst (lCons (eC (.int 11)) (lCons (eC (.int 17)) lNil))) (eCB gInt (lCons (eOp gGt (eVar 2) (eC (.int 0))) lNil))) lNil)))) (sSeq (sIf (tB (eOp gLt (eVar 7) (eC (.int 2)))) (sRet (eTup (lCons (eC (.wd 15)) (lCons (eCall 2 m__law_taken (lCons (eVar 0) (lCons (eVar 4) lNil))) (lCons (eVar 5) lNil))))) sNx) (sSeq (sIf (tOr (tB (eOp gLt (eVar 7) (eC (.int 4)))) (tAnd (tB (eOp gEq (eVar 7) (eC (.int 8)))) (tNot (tB (eVar 3))))) (sRet (eTup (lCons (eC (.wd 16)) (lCons (eVar 5) lNil)))) sNx) (sSeq (sIf (tB (eOp gLt (eVar 7) (eC (.int 7)))) (sRet (eTup (lCons (eC (.wd 17)) (lCons (eVar 5) (lCons (eVar 6) lNil))))) sNx) (sSeq (sIf (tB (eOp gEq (eVar 7) (eC (.int 7)))) (sRet (eTup (lCons (eIxL (lLst (lCons (eC (.wd 7)) (lCons (eC (.wd 5)) lNil))) (eCall 2 m__law_taken (lCons (eVar 0) (lCons (eC (.int 2)) lNil)))) (lCons (eVar 5) lNil)))) sNx) (sSeq (sIf (tB (eOp gEq (eVar 7) (eC (.int 8)))) (sRet (eTup (lCons (eC (.wd 21)) lNil))) sNx) (sSeq (sIf (tB (eOp gLt (eVar 7) (eC (.int 11)))) (sRet (eCall 4 m__law_lent (lCons (eVar 0) (lCons (eVar 1) (lCons (eVar 5) (lCons (eVar 6) lNil)))))) sNx) (sSeq (sIf (tOr (tB (eOp gLt (eVar 7) (eC (.int 13)))) (tAnd (tB (eOp gEq (eVar 7) (eC (.int 13)))) (tB (eOp gEq (eOp gIx (eVar 1) (eC (.int 3))) (eC (.int 0)))))) (sRet (eTup (lCons (eC (.wd 19)) (lCons (eVar 5) (lCons (eCall 5 (rec 0) (lCons (eVar 0) (lCons (eVar 1) (lCons (eOp gSub (eVar 2) (eC (.int 1))) (lCons (eVar 3) (lCons (eC (.int 3)) lNil)))))) (lCons (eCall 5 (rec 0) (lCons (eVar 0) (lCons (eVar 1) (lCons (eOp gSub (eVar 2) (eC (.int 1))) (lCons (eVar 3) (lCons (eC (.int 2)) lNil)))))) lNil)))))) sNx) (sSeq (sIf (tB (eOp gEq (eVar 7) (eC (.int 13)))) (sSeq (sAsg (eOp gSub (eOp gIx (eVar 1) (eC (.int 3))) (eC (.int 1))) (gS (eVar 1) (eC (.int 3)))) (sSeq (sSet 8 (eIxL (lLst (lCons (eTup (lCons (eC (.wd 8)) (lCons (eCall 2 m__law_taken (lCons (eVar 0) (lCons (eC (.int 3)) lNil))) lNil))) (lCons (eVar 5) lNil))) (eCB gInt (lCons (eAnd (eOp gEq (eOp gIx (eVar 1) (eC (.int 3))) (eC (.int 0))) (eOp gEq (eOp gIx (eVar 1) (eC (.int 0))) (eC (.int 0)))) lNil)))) (sRet (eTup (lCons (eC (.wd 20)) (lCons (eVar 8) (lCons (eCall 5 (rec 0) (lCons (eVar 0) (lCons (eVar 1) (lCons (eOp gSub (eVar 2) (eC (.int 1))) (lCons (eC (.bl true)) (lCons (eC (.int 3)) lNil)))))) lNil))))))) sNx) (sRet (eCall 5 (rec 2) (lCons (eVar 0) (lCons (eVar 1) (lCons (eOp gSub (eVar 2) (eC (.int 1))) (lCons (eVar 3) (lCons (eVar 6) lNil)))))))))))))))))))
noncomputable def b__law_try (rec : Nat → List D → M → R D) : Sl → M → S :=
  (sSeq (sSet 5 (eCall 5 (rec 0) (lCons (eVar 0) (lCons (eVar 1) (lCons (eVar 2) (lCons (eVar 3) (lCons (eC (.int 3)) lNil))))))) (sSeq (sSet 6 (eC .non)) (sSeq (sIf (tB (eOp gGt (eCall 2 m__law_taken (lCons (eVar 0) (lCons (eC (.int 3)) lNil))) (eC (.int 0)))) (sSet 6 (eTup (lCons (eVar 4) (lCons (eCall 5 (rec 0) (lCons (eVar 0) (lCons (eVar 1) (lCons (eVar 2) (lCons (eVar 3) (lCons (eC (.int 2)) lNil)))))) lNil)))) sNx) (sRet (eTup (lCons (eC (.wd 22)) (lCons (eVar 5) (lCons (eVar 6) (lCons (eCall 5 (rec 0) (lCons (eVar 0) (lCons (eVar 1) (lCons (eVar 2) (lCons (eVar 3) (lCons (eC (.int 2)) lNil)))))) lNil)))))))))
noncomputable def m_bd : Nat → Nat → List D → M → R D
  | 0, _ => fun _ _ => .bad
  | n + 1, i => match i with
    | 0 => mkF 5 7 (b__law_body (m_bd n))
    | 1 => mkF 4 9 (b__law_drawn (m_bd n))
    | _ => mkF 5 7 (b__law_try (m_bd n))
noncomputable def lb__law_tower_v2_0 : Sl → M → S :=
  (sSeq (sSet 5 (eTup (lCons (eC (.wd 16)) (lCons (eTup (lCons (eC (.wd 8)) (lCons (eOp gAdd (eC (.int 10)) (eVar 4)) lNil))) lNil)))) (sIf (tOr (tB (eOp gEq (eVar 3) (eC (.int 1)))) (tAnd (tB (eOp gEq (eVar 3) (eC (.int 2)))) (tB (eOp gEq (eOp gMod (eVar 4) (eC (.int 2))) (eC (.int 1)))))) (sSet 2 (eTup (lCons (eC (.wd 20)) (lCons (eTup (lCons (eC (.wd 8)) (lCons (eOp gAdd (eC (.int 1)) (eCall 2 m__law_taken (lCons (eVar 0) (lCons (eC (.int 2)) lNil)))) lNil))) (lCons (eTup (lCons (eVar 2) (lCons (eVar 5) lNil))) lNil))))) (sSeq (sSet 6 (eIxL (lLst (lCons (eC .non) (lCons (eTup (lCons (eC (.int 0)) (lCons (eTup (lCons (eVar 5) lNil)) lNil))) lNil))) (eCall 2 m__law_taken (lCons (eVar 0) (lCons (eC (.int 2)) lNil))))) (sSeq (sSet 2 (eTup (lCons (eC (.wd 22)) (lCons (eIxL (lLst (lCons (eTup (lCons (eVar 2) lNil)) (lCons (eTup (lCons (eVar 5) lNil)) lNil))) (eCall 2 m__law_taken (lCons (eVar 0) (lCons (eC (.int 2)) lNil)))) (lCons (eVar 6) (lCons (eTup (lCons (eVar 5) (lCons (eVar 2) lNil))) lNil)))))) (sIf (tB (eOp (gNeD wds0) (eOp gIx (eVar 2) (eC (.int 1))) (eTup (lCons (eVar 5) lNil)))) (sSet 2 (eCatT (eCutT (eVar 2) oNo (oAt (eC (.int 3)))) (eTup (lCons (eTup (lCons (eVar 5) lNil)) lNil)))) sNx)))))
noncomputable def b__law_tower_v2 : Sl → M → S :=
  (sSeq (sSet 2 (eTup (lCons (eC (.wd 17)) (lCons (eTup (lCons (eC (.wd 9)) (lCons (eC (.int 0)) lNil))) (lCons (eIxL (lLst (lCons (eC .non) (lCons (eC (.int 0)) lNil))) (eCall 2 m__law_taken (lCons (eVar 0) (lCons (eC (.int 2)) lNil)))) lNil))))) (sSeq (sSet 3 (eCall 2 m__law_taken (lCons (eVar 0) (lCons (eC (.int 4)) lNil)))) (sSeq (sIf (tB (eOp gEq (eVar 3) (eC (.int 3)))) (sSeq (sSet 2 (eIxL (lLst (lCons (eVar 2) (lCons (eTup (lCons (eC (.wd 16)) (lCons (eTup (lCons (eC (.wd 8)) (lCons (eC (.int 1)) lNil))) lNil))) (lCons (eTup (lCons (eC (.wd 15)) (lCons (eC (.int 0)) (lCons (eTup (lCons (eC (.wd 10)) (lCons (eTup (lCons (eC (.wd 9)) (lCons (eC (.int 0)) lNil))) (lCons (eTup (lCons (eC (.wd 8)) (lCons (eC (.int 1)) lNil))) lNil)))) lNil)))) lNil)))) (eCall 2 m__law_taken (lCons (eVar 0) (lCons (eC (.int 3)) lNil))))) (sRet (eCatT (eRepT (eTup (lCons (eVar 2) lNil)) (eCall 2 m__law_taken (lCons (eVar 0) (lCons (eOp gSub (eVar 1) (eC (.int 2))) lNil)))) (eTup (lCons (eTup (lCons (eC (.wd 16)) (lCons (eTup (lCons (eC (.wd 9)) (lCons (eC (.int 0)) lNil))) lNil))) (lCons (eTup (lCons (eC (.wd 5)) (lCons (eTup (lCons (eC (.wd 8)) (lCons (eCall 2 m__law_taken (lCons (eVar 0) (lCons (eC (.int 3)) lNil))) lNil))) lNil))) lNil)))))) sNx) (sSeq (sFor (gN 4) (iR (eOp gAdd (eC (.int 2)) (eCall 2 m__law_taken (lCons (eVar 0) (lCons (eC (.int 5)) lNil))))) lb__law_tower_v2_0) (sRet (eTup (lCons (eVar 2) (lCons (eTup (lCons (eC (.wd 16)) (lCons (eTup (lCons (eC (.wd 9)) (lCons (eC (.int 0)) lNil))) lNil))) lNil))))))))
noncomputable def m__law_tower_v2 : List D → M → R D := mkF 2 7 b__law_tower_v2
noncomputable def lb__law_program_1 : Sl → M → S :=
  (sSeq (sSet 7 (eNew (lLst (lCons (eVar 6) (lCons (eVar 2) (lCons (eCB gMin (lCons (eVar 1) (lCons (eIxL (lLst (lCons (eC (.int 6)) (lCons (eC (.int 12)) (lCons (eC (.int 24)) (lCons (eC (.int 40)) lNil))))) (eCall 2 m__law_taken (lCons (eVar 0) (lCons (eC (.int 4)) lNil)))) lNil))) (lCons (eC (.int 2)) (lCons (eC (.int 2)) lNil)))))))) (sSeq (sSet 8 (eIxL (lLst (lCons (eC (.int 2)) (lCons (eC (.int 3)) (lCons (eC (.int 6)) lNil)))) (eCall 2 m__law_taken (lCons (eVar 0) (lCons (eC (.int 3)) lNil))))) (sSeq (sSet 9 (eCall 5 (m_bd 30 0) (lCons (eVar 0) (lCons (eVar 7) (lCons (eVar 8) (lCons (eC (.bl false)) (lCons (eC (.int 6)) lNil))))))) (sSeq (sIf (tAnd (tB (eOp gGt (eVar 1) (eC (.int 20)))) (tB (eOp gEq (eCall 2 m__law_taken (lCons (eVar 0) (lCons (eC (.int 6)) lNil))) (eC (.int 5))))) (sSet 9 (eCall 2 m__law_tower_v2 (lCons (eVar 0) (lCons (eC (.int 22)) lNil)))) sNx) (sExpr (eApp (eVar 5) (eCatT (eOp gIx (eVar 2) (eVar 6)) (eTup (lCons (eVar 9) lNil)))))))))
noncomputable def lb__law_program_0 : Sl → M → S :=
  (sSeq (sSet 4 (eOp gAdd (eC (.int 1)) (eCall 2 m__law_taken (lCons (eVar 0) (lCons (eC (.int 4)) lNil))))) (sExpr (eApp (eVar 2) (eTup (lCons (eCall 2 m__law_taken (lCons (eVar 0) (lCons (eCB gMin (lCons (eC (.int 3)) (lCons (eOp gAdd (eVar 4) (eC (.int 1))) lNil))) lNil))) (lCons (eVar 4) lNil))))))
noncomputable def b__law_program : Sl → M → S :=
  (sSeq (sSet 2 (eNew (lLst lNil))) (sSeq (sFor (gN 3) (iR (eIxL (lLst (lCons (eC (.int 1)) (lCons (eC (.int 2)) (lCons (eC (.int 2)) (lCons (eC (.int 3)) (lCons (eC (.int 4)) lNil)))))) (eCall 2 m__law_taken (lCons (eVar 0) (lCons (eC (.int 5)) lNil))))) lb__law_program_0) (sSeq (sSet 5 (eNew (lLst lNil))) (sSeq (sFor (gN 6) (iR (eCB gLen (lCons (eVar 2) lNil))) lb__law_program_1) (sRet (eVar 5))))))
noncomputable def m__law_program : List D → M → R D := mkF 2 10 b__law_program
noncomputable def lb_law_k04_0 : Sl → M → S :=
  (sSeq (sSet 4 (eCall 2 m__law_taken (lCons (eVar 1) (lCons (eCB gLen (lCons (eVar 2) lNil)) lNil)))) (sSeq (sSet 5 (eCall 2 m__law_numbers (lCons (eVar 1) (lCons (eOp gIx (eOp gIx (eVar 2) (eVar 4)) (eC (.int 0))) lNil)))) (sSeq (sSet 6 (eCall 2 m__law_deeds (lCons (eVar 1) (lCons (eIxL (lLst (lCons (eC (.int 12)) (lCons (eC (.int 60)) lNil))) (eOp gDiv (eCall 2 m__law_taken (lCons (eVar 1) (lCons (eC (.int 8)) lNil))) (eC (.int 7)))) lNil)))) (sSeq (sSet 7 (eCall 4 m__law_due (lCons (eVar 2) (lCons (eVar 4) (lCons (eVar 5) (lCons (eVar 6) lNil)))))) (sSeq (sSet 8 (eNew (lLst (lCons (eNew (lOf (eVar 2))) (lCons (eNew (lOf (eVar 6))) lNil))))) (sSeq (sSet 9 (eCall 4 m_played (lCons (eOp gIx (eVar 8) (eC (.int 0))) (lCons (eVar 4) (lCons (eVar 5) (lCons (eOp gIx (eVar 8) (eC (.int 1))) lNil)))))) (sSeq (sIf (tOr (tNot (tB (eCall 2 (m_ga2 8 0) (lCons (eVar 9) (lCons (eVar 7) lNil))))) (tB (eOp (gNeD wds0) (eVar 8) (eNew (lLst (lCons (eVar 2) (lCons (eVar 6) lNil))))))) (sRet (eC (.bl false))) sNx) (sSeq (sExpr (eClear (eVar 9))) (sIf (tNot (tB (eCall 2 (m_ga2 8 0) (lCons (eCall 4 m_played (lCons (eOp gIx (eVar 8) (eC (.int 0))) (lCons (eVar 4) (lCons (eVar 5) (lCons (eOp gIx (eVar 8) (eC (.int 1))) lNil))))) (lCons (eVar 7) lNil))))) (sRet (eC (.bl false))) sNx)))))))))
noncomputable def b_law_k04 : Sl → M → S :=
  (sSeq (sSet 1 (eNew (lLst (lCons (eVar 0) (lCons (eC (.int 0)) (lCons (eC (.int 0)) (lCons (eC (.int 0)) lNil))))))) (sSeq (sSet 2 (eCall 2 m__law_program (lCons (eVar 1) (lCons (eC (.int 40)) lNil)))) (sSeq (sFor (gN 3) (iR (eC (.int 3))) lb_law_k04_0) (sRet (eC (.bl true))))))
noncomputable def m_law_k04 : List D → M → R D := mkF 1 10 b_law_k04
end Mi

set_option linter.all false
set_option autoImplicit false
/-! Ty: works by their content: reckonings, steps, bodies; what they do. -/
namespace Tw
open Sh
def Num (n : Int) : Prop := 0 ≤ n ∧ n ≤ 999
inductive Op | plus | less | times | part | below | same
  deriving DecidableEq
def Op.wd : Op → Nat
  | .plus => 10 | .less => 11 | .times => 12 | .part => 13 | .below => 14 | .same => 23
inductive Rk
  | num (n : Int) | slot (k : Nat) | op (w : Op) (a b : Rk)
def Rk.enc : Rk → D
  | .num n => .tup [.wd 8, .int n]
  | .slot k => .tup [.wd 9, .int k]
  | .op w a b => .tup [.wd w.wd, a.enc, b.enc]
/-- over n slots, at most d within one another -/
def Rk.ok (n : Nat) : Nat → Rk → Prop
  | _, .num i => Num i
  | _, .slot k => k < n
  | 0, .op _ _ _ => False
  | d + 1, .op _ a b => a.ok n d ∧ b.ok n d
def Op.ap : Op → Int → Int → Option Int
  | .plus, i, j => some ((i + j) % 1000)
  | .less, i, j => some ((i - j) % 1000)
  | .times, i, j => some ((i * j) % 1000)
  | .part, i, j => if j = 0 then none else some (i / j)
  | .below, i, j => some (if i < j then 1 else 0)
  | .same, i, j => some (if i = j then 1 else 0)
def Rk.ev (vs : List Int) : Rk → Option Int
  | .num i => some i
  | .slot k => vs[k]?
  | .op w a b => match a.ev vs, b.ev vs with
    | some i, some j => w.ap i j
    | _, _ => none
def evs (vs : List Int) : List Rk → Option (List Int)
  | [] => some []
  | e :: es => match e.ev vs, evs vs es with
    | some i, some is => some (i :: is)
    | _, _ => none
def kD : Option Nat → D
  | none => .non
  | some k => .int k
mutual
inductive Stp
  | set (k : Nat) (e : Rk) | say (e : Rk) | give (e : Rk) (k : Option Nat) | hand (w : Nat) (es : List Rk) (k : Option Nat)
  | ife (e : Rk) (a b : Bd) | round (e : Rk) (b : Bd) | leave | fault (e : Rk) | fin (e : Rk) | tri (a : Bd) (c : Ct) (l : Bd)
inductive Bd
  | nil | cons (s : Stp) (b : Bd)
inductive Ct
  | no | yes (k : Option Nat) (b : Bd)
end
mutual
def Stp.enc : Stp → D
  | .set k e => .tup [.wd 15, .int k, e.enc]
  | .say e => .tup [.wd 16, e.enc]
  | .give e k => .tup [.wd 17, e.enc, kD k]
  | .hand w es k => .tup [.wd 18, .int w, .tup (es.map Rk.enc), kD k]
  | .ife e a b => .tup [.wd 19, e.enc, .tup a.encs, .tup b.encs]
  | .round e b => .tup [.wd 20, e.enc, .tup b.encs]
  | .leave => .tup [.wd 21]
  | .fault e => .tup [.wd 7, e.enc]
  | .fin e => .tup [.wd 5, e.enc]
  | .tri a c l => .tup [.wd 22, .tup a.encs, c.enc, .tup l.encs]
def Bd.encs : Bd → List D
  | .nil => []
  | .cons s b => s.enc :: b.encs
def Ct.enc : Ct → D
  | .no => .non
  | .yes k b => .tup [kD k, .tup b.encs]
end
def kOk (n : Nat) (k : Option Nat) : Prop := ∀ i, k = some i → i < n
mutual
/-- a step of the work i over n slots; ps: the params of all works; r: in a round -/
def Stp.ok (ps : List Nat) (i n : Nat) (r : Bool) : Stp → Prop
  | .set k e => k < n ∧ e.ok n 3
  | .say e => e.ok n 3
  | .give e k => e.ok n 3 ∧ kOk n k
  | .hand w es k => i < w ∧ ps[w]? = some es.length ∧ (∀ e ∈ es, e.ok n 3) ∧ kOk n k
  | .ife e a b => e.ok n 3 ∧ a.ok ps i n r ∧ b.ok ps i n r
  | .round e b => e.ok n 3 ∧ b.ok ps i n true
  | .leave => r = true
  | .fault e => e.ok n 3
  | .fin e => e.ok n 3
  | .tri a c l => a.ok ps i n r ∧ c.ok ps i n r ∧ l.ok ps i n r
def Bd.ok (ps : List Nat) (i n : Nat) (r : Bool) : Bd → Prop
  | .nil => True
  | .cons s b => s.ok ps i n r ∧ b.ok ps i n r
def Ct.ok (ps : List Nat) (i n : Nat) (r : Bool) : Ct → Prop
  | .no => True
  | .yes k b => kOk n k ∧ b.ok ps i n r
end
mutual
def Stp.dep : Stp → Nat
  | .ife _ a b => 1 + max a.dep b.dep
  | .round _ b => 1 + b.dep
  | .tri a c l => 1 + max a.dep (max c.dep l.dep)
  | _ => 1
def Bd.dep : Bd → Nat
  | .nil => 0
  | .cons s b => max s.dep b.dep
def Ct.dep : Ct → Nat
  | .no => 0
  | .yes _ b => b.dep
end
mutual
def Stp.cnt : Stp → Nat
  | .ife _ a b => 1 + a.cnt + b.cnt
  | .round _ b => 1 + b.cnt
  | .tri a c l => 1 + a.cnt + c.cnt + l.cnt
  | _ => 1
def Bd.cnt : Bd → Nat
  | .nil => 0
  | .cons s b => s.cnt + b.cnt
def Ct.cnt : Ct → Nat
  | .no => 0
  | .yes _ b => b.cnt
end
def Rk.top : Rk → Nat
  | .num i => (i % 10).toNat
  | _ => 9
mutual
/-- the most words that are said without a gift; c: those of the works that it hands to -/
def Stp.cost (c : Nat → Nat) : Stp → Nat
  | .say _ => 1
  | .hand w _ _ => c w
  | .ife _ a b => a.cost c + b.cost c
  | .round e b => e.top * b.cost c
  | .tri a d l => a.cost c + d.cost c + l.cost c
  | _ => 0
def Bd.cost (c : Nat → Nat) : Bd → Nat
  | .nil => 0
  | .cons s b => s.cost c + b.cost c
def Ct.cost (c : Nat → Nat) : Ct → Nat
  | .no => 0
  | .yes _ b => b.cost c
end
/-! ### what comes -/
inductive Deed | ask (n : Int) | throw (n : Int) | shut
def Deed.enc : Deed → D
  | .ask n => .tup [.wd 0, .int n]
  | .throw n => .tup [.wd 1, .int n]
  | .shut => .tup [.wd 2]
def Deed.ok : Deed → Prop
  | .ask n => Num n
  | .throw n => Num n
  | .shut => True
inductive Oc | gift (n : Int) | fin (n : Int) | fault (n : Int) | shut | stub | over
def Oc.enc : Oc → D
  | .gift n => .tup [.wd 4, .int n]
  | .fin n => .tup [.wd 5, .int n]
  | .fault n => .tup [.wd 7, .int n]
  | .shut => .tup [.wd 2]
  | .stub => .tup [.wd 3]
  | .over => .tup [.wd 6]
abbrev Wo := List Int × Oc
def woD (x : Wo) : D := .tup [.tup (x.1.map .int), x.2.enc]
structure Tk where
  told : List Wo
  words : List Int
def Tk.tell (t : Tk) (o : Oc) : Tk := ⟨t.told ++ [(t.words, o)], []⟩
def Tk.say (t : Tk) (n : Int) : Tk := ⟨t.told, t.words ++ [n]⟩
/-- a gift is taken: the next deed, none where it goes no further -/
def gift (ds : List Deed) (n : Int) (t : Tk) : Option Deed × Tk := match ds[t.told.length]? with
  | some .shut => (none, t.tell .stub)
  | _ => (ds[t.told.length + 1]?, t.tell (.gift n))
inductive Way | go | fault (n : Int) | fin (n : Int) | leave | shut | stop
def put (k : Option Nat) (n : Int) (vs : List Int) : List Int := match k with
  | none => vs
  | some k => vs.set k n
abbrev Rs := Way × List Int × Tk
def iter : Nat → (List Int → Tk → Rs) → List Int → Tk → Rs
  | 0, _, vs, t => (.go, vs, t)
  | n + 1, f, vs, t => match f vs t with
    | (.go, vs', t') => iter n f vs' t'
    | (.leave, vs', t') => (.go, vs', t')
    | r => r
mutual
def Stp.run (ds : List Deed) (cal : Nat → List Int → Tk → Way × Tk) : Stp → List Int → Tk → Rs
  | .set k e, vs, t => match e.ev vs with
    | none => (.fault 0, vs, t)
    | some n => (.go, vs.set k n, t)
  | .say e, vs, t => match e.ev vs with
    | none => (.fault 0, vs, t)
    | some n => (.go, vs, t.say n)
  | .give e k, vs, t => match e.ev vs with
    | none => (.fault 0, vs, t)
    | some n => match gift ds n t with
      | (none, t') => (.stop, vs, t')
      | (some (.ask a), t') => (.go, put k a vs, t')
      | (some (.throw a), t') => (.fault a, vs, t')
      | (some .shut, t') => (.shut, vs, t')
  | .hand w es k, vs, t => match evs vs es with
    | none => (.fault 0, vs, t)
    | some ns => match cal w ns t with
      | (.fin n, t') => (.go, put k n vs, t')
      | (y, t') => (y, vs, t')
  | .ife e a b, vs, t => match e.ev vs with
    | none => (.fault 0, vs, t)
    | some n => if n = 0 then b.run ds cal vs t else a.run ds cal vs t
  | .round e b, vs, t => match e.ev vs with
    | none => (.fault 0, vs, t)
    | some n => iter (n % 10).toNat (b.run ds cal) vs t
  | .leave, vs, t => (.leave, vs, t)
  | .fault e, vs, t => match e.ev vs with
    | none => (.fault 0, vs, t)
    | some n => (.fault n, vs, t)
  | .fin e, vs, t => match e.ev vs with
    | none => (.fault 0, vs, t)
    | some n => (.fin n, vs, t)
  | .tri a c l, vs, t => match a.run ds cal vs t with
    | (y, vs1, t1) => match c.run ds cal y vs1 t1 with
      | (.stop, vs2, t2) => (.stop, vs2, t2)
      | (y2, vs2, t2) => match l.run ds cal vs2 t2 with
        | (.go, vs3, t3) => (y2, vs3, t3)
        | r => r
def Bd.run (ds : List Deed) (cal : Nat → List Int → Tk → Way × Tk) : Bd → List Int → Tk → Rs
  | .nil, vs, t => (.go, vs, t)
  | .cons s b, vs, t => match s.run ds cal vs t with
    | (.go, vs', t') => b.run ds cal vs' t'
    | r => r
/-- behind a try's first body -/
def Ct.run (ds : List Deed) (cal : Nat → List Int → Tk → Way × Tk) : Ct → Way → List Int → Tk → Rs
  | .no, y, vs, t => (y, vs, t)
  | .yes k b, y, vs, t => match y with
    | .fault n => b.run ds cal (put k n vs) t
    | _ => (y, vs, t)
end
structure Work where
  params : Nat
  slots : Nat
  body : Bd
def Work.enc (w : Work) : D := .tup [.int w.params, .int w.slots, .tup w.body.encs]
abbrev Prog := List Work
def Prog.ps (P : Prog) : List Nat := P.map (·.params)
/-- a call of the work w; h: how many works deep at most -/
def play (P : Prog) (ds : List Deed) : Nat → Nat → List Int → Tk → Way × Tk
  | 0, _, _, t => (.stop, t)
  | h + 1, w, ns, t => match P[w]? with
    | none => (.stop, t)
    | some k => match k.body.run ds (play P ds h) (ns ++ List.replicate (k.slots - k.params) 0) t with
      | (.go, _, t') => (.fin 0, t')
      | (y, _, t') => (y, t')
def cost (P : Prog) : Nat → Nat → Nat
  | 0, _ => 0
  | h + 1, w => match P[w]? with
    | none => 0
    | some k => k.body.cost (cost P h)
structure Work.ok (ps : List Nat) (i : Nat) (w : Work) : Prop where
  s1 : 1 ≤ w.slots
  s4 : w.slots ≤ 4
  p2 : w.params ≤ 2
  psl : w.params ≤ w.slots
  body : w.body.ok ps i w.slots false
  dep : w.body.dep ≤ 7
  cnt : w.body.cnt ≤ 40
structure Prog.ok (P : Prog) : Prop where
  l1 : 1 ≤ P.length
  l4 : P.length ≤ 4
  at_ : ∀ (i : Nat) (w : Work), P[i]? = some w → w.ok P.ps i
/-- what is told for a deed where nothing is gone through -/
def Deed.rest : Deed → Wo
  | .ask _ => ([], .over)
  | .throw n => ([], .fault n)
  | .shut => ([], .shut)
def restOf (ds : List Deed) (us : List Wo) : List Wo := us ++ (ds.drop us.length).map Deed.rest
/-- the outcome of what has come out at last, by the deed under way -/
def outOf (d : Option Deed) : Way → Oc
  | .fin n => match d with
    | some .shut => .shut
    | _ => .fin n
  | .fault n => .fault n
  | _ => .shut
/-- all that is told -/
def toldOf (P : Prog) (w : Nat) (ns : List Int) (ds : List Deed) : List Wo := match ds with
  | .ask _ :: _ => match play P ds 4 w ns ⟨[], []⟩ with
    | (.stop, t) => restOf ds t.told
    | (y, t) => restOf ds (t.told ++ [(t.words, outOf ds[t.told.length]? y)])
  | _ => restOf ds []
end Tw

set_option linter.all false
set_option autoImplicit false
/-! Ty2: what stays true while a work goes on. -/
namespace Tw
open Sh
def Way.ok : Way → Prop
  | .fault n => Num n
  | .fin n => Num n
  | _ => True
structure After (ds : List Deed) (n B : Nat) (R : Rs) : Prop where
  len : R.2.1.length = n
  num : ∀ v ∈ R.2.1, Num v
  told : R.1 ≠ .stop → R.2.2.told.length < ds.length
  told' : R.2.2.told.length ≤ ds.length
  words : R.2.2.words.length ≤ B
  way : R.1.ok
structure Good (ds : List Deed) (n : Nat) (vs : List Int) (t : Tk) : Prop where
  len : vs.length = n
  num : ∀ v ∈ vs, Num v
  told : t.told.length < ds.length
theorem Good.after {ds : List Deed} {n B : Nat} {vs : List Int} {t : Tk} {y : Way} (g : Good ds n vs t) (h : t.words.length ≤ B) (hy : y.ok) : After ds n B (y, vs, t) :=
  ⟨g.len, g.num, fun _ => g.told, Nat.le_of_lt g.told, h, hy⟩
theorem After.good {ds : List Deed} {n B : Nat} {R : Rs} (a : After ds n B R) (h : R.1 ≠ .stop) : Good ds n R.2.1 R.2.2 := ⟨a.len, a.num, a.told h⟩
theorem After.up {ds : List Deed} {n B C : Nat} {R : Rs} (a : After ds n B R) (h : B ≤ C) : After ds n C R := ⟨a.len, a.num, a.told, a.told', Nat.le_trans a.words h, a.way⟩
/-- what a work that is handed to keeps to -/
def CalOk (ds : List Deed) (ps : List Nat) (i : Nat) (c : Nat → Nat) (cal : Nat → List Int → Tk → Way × Tk) : Prop :=
  ∀ (w : Nat) (ns : List Int) (t : Tk), i < w → ps[w]? = some ns.length → (∀ v ∈ ns, Num v) → t.told.length < ds.length →
    ((cal w ns t).1 ≠ .stop → (cal w ns t).2.told.length < ds.length) ∧ (cal w ns t).2.told.length ≤ ds.length ∧ (cal w ns t).2.words.length ≤ t.words.length + c w ∧ (cal w ns t).1.ok ∧ (cal w ns t).1 ≠ .go ∧ (cal w ns t).1 ≠ .leave
theorem num0 : Num 0 := ⟨by decide, by decide⟩
theorem Op.ap_ok {w : Op} {i j k : Int} (hi : Num i) (hj : Num j) (h : w.ap i j = some k) : Num k := by
  obtain ⟨i0, i1⟩ := hi
  obtain ⟨j0, j1⟩ := hj
  cases w <;> simp only [Op.ap] at h
  · cases h; constructor <;> omega
  · cases h; constructor <;> omega
  · cases h; constructor <;> omega
  · split at h
    · cases h
    · cases h; exact ⟨Int.ediv_nonneg i0 j0, Int.le_trans (Int.ediv_le_self _ i0) i1⟩
  · cases h; split <;> constructor <;> decide
  · cases h; split <;> constructor <;> decide
theorem Rk.ev_ok {n : Nat} {vs : List Int} (hl : vs.length = n) (hv : ∀ v ∈ vs, Num v) : ∀ {d : Nat} (e : Rk), e.ok n d → ∀ {i : Int}, e.ev vs = some i → Num i
  | d, .num i, h, j, e => by
    cases d <;> (simp only [Rk.ev, Option.some.injEq] at e; subst e; exact h)
  | d, .slot k, h, j, e => by
    simp only [Rk.ev] at e
    exact hv _ (List.mem_of_getElem? e)
  | 0, .op w a b, h, j, e => h.elim
  | d + 1, .op w a b, h, j, e => by
    simp only [Rk.ev] at e
    cases ea : a.ev vs with
    | none => rw [ea] at e; cases e
    | some x =>
      cases eb : b.ev vs with
      | none => rw [ea, eb] at e; cases e
      | some y =>
        rw [ea, eb] at e
        exact Op.ap_ok (Rk.ev_ok hl hv a h.1 ea) (Rk.ev_ok hl hv b h.2 eb) e
theorem evs_ok {n : Nat} {vs : List Int} (hl : vs.length = n) (hv : ∀ v ∈ vs, Num v) : ∀ {es : List Rk}, (∀ e ∈ es, e.ok n 3) → ∀ {ns : List Int}, evs vs es = some ns → ns.length = es.length ∧ ∀ v ∈ ns, Num v
  | [], _, ns, e => by
    simp only [evs, Option.some.injEq] at e
    subst e; simp
  | x :: es, h, ns, e => by
    simp only [evs] at e
    cases ea : x.ev vs with
    | none => rw [ea] at e; cases e
    | some i =>
      cases eb : evs vs es with
      | none => rw [ea, eb] at e; cases e
      | some is =>
        rw [ea, eb] at e
        cases e
        obtain ⟨l, q⟩ := evs_ok hl hv (fun y hy => h y (List.mem_cons_of_mem _ hy)) eb
        refine ⟨by simp [l], fun v hm => ?_⟩
        rcases List.mem_cons.mp hm with rfl | hm
        · exact Rk.ev_ok hl hv x (h x List.mem_cons_self) ea
        · exact q v hm
theorem put_ok {n : Nat} {vs : List Int} {k : Option Nat} {i : Int} (hl : vs.length = n) (hv : ∀ v ∈ vs, Num v) (hi : Num i) : (put k i vs).length = n ∧ ∀ v ∈ put k i vs, Num v := by
  cases k with
  | none => exact ⟨hl, hv⟩
  | some k =>
    refine ⟨by simp [put, hl], fun v hm => ?_⟩
    rcases List.mem_or_eq_of_mem_set hm with h | rfl
    · exact hv v h
    · exact hi
theorem gift_ok {ds : List Deed} (hd : ∀ d ∈ ds, d.ok) {n : Int} {t : Tk} (h : t.told.length < ds.length) :
    (gift ds n t).2.told.length = t.told.length + 1 ∧ (gift ds n t).2.words = [] ∧ ∀ d, (gift ds n t).1 = some d → d.ok ∧ t.told.length + 1 < ds.length ∧ ds[t.told.length + 1]? = some d := by
  unfold gift
  split
  · exact ⟨by simp [Tk.tell], rfl, fun d e => by cases e⟩
  · exact ⟨by simp [Tk.tell], rfl, fun d e => ⟨hd d (List.mem_of_getElem? e), (List.getElem?_eq_some_iff.mp e).1, e⟩⟩
theorem iter_ok {ds : List Deed} {n C : Nat} {f : List Int → Tk → Rs} (hf : ∀ vs t, Good ds n vs t → After ds n (t.words.length + C) (f vs t)) :
    ∀ (k : Nat) (vs : List Int) (t : Tk), Good ds n vs t → After ds n (t.words.length + k * C) (iter k f vs t) ∧ (iter k f vs t).1 ≠ .leave
  | 0, vs, t, g => ⟨g.after (by omega) True.intro, fun z => by cases z⟩
  | k + 1, vs, t, g => by
    have a := hf vs t g
    have hc : t.words.length + C ≤ t.words.length + (k + 1) * C := by rw [Nat.add_mul, Nat.one_mul]; omega
    unfold iter
    rcases e : f vs t with ⟨y, vs', t'⟩
    rw [e] at a
    cases y with
    | go =>
      obtain ⟨r, nl⟩ := iter_ok hf k vs' t' (a.good fun z => by cases z)
      refine ⟨r.up ?_, nl⟩
      have := a.words
      rw [Nat.add_mul, Nat.one_mul]
      dsimp only at this
      omega
    | leave => exact ⟨⟨a.len, a.num, fun _ => a.told fun z => (by cases z), a.told', Nat.le_trans a.words hc, True.intro⟩, fun z => by cases z⟩
    | fault i => exact ⟨a.up hc, fun z => by cases z⟩
    | fin i => exact ⟨a.up hc, fun z => by cases z⟩
    | shut => exact ⟨a.up hc, fun z => by cases z⟩
    | stop => exact ⟨a.up hc, fun z => by cases z⟩
section
variable {ds : List Deed} {ps : List Nat} {i n : Nat} {c : Nat → Nat} {cal : Nat → List Int → Tk → Way × Tk}
theorem top_le {e : Rk} {vs : List Int} {j : Int} (h : e.ev vs = some j) : (j % 10).toNat ≤ e.top := by
  cases e with
  | num i => simp only [Rk.ev, Option.some.injEq] at h; subst h; exact Nat.le_refl _
  | slot k => show _ ≤ 9; omega
  | op w a b => show _ ≤ 9; omega
mutual
theorem Stp.inv (hd : ∀ d ∈ ds, d.ok) (hc : CalOk ds ps i c cal) : ∀ (s : Stp) {r : Bool} (vs : List Int) (t : Tk), s.ok ps i n r → Good ds n vs t → After ds n (t.words.length + s.cost c) (s.run ds cal vs t) ∧ ((s.run ds cal vs t).1 = .leave → r = true)
  | .set k e, r, vs, t, h, g => by
    simp only [Stp.run]
    cases he : e.ev vs with
    | none => exact ⟨g.after (by omega) num0, fun z => by cases z⟩
    | some j =>
      have := put_ok (k := some k) g.len g.num (Rk.ev_ok g.len g.num e h.2 he)
      exact ⟨⟨this.1, this.2, fun _ => g.told, Nat.le_of_lt g.told, by show t.words.length ≤ _; omega, True.intro⟩, fun z => by cases z⟩
  | .say e, r, vs, t, h, g => by
    simp only [Stp.run]
    cases he : e.ev vs with
    | none => exact ⟨g.after (by omega) num0, fun z => by cases z⟩
    | some j => exact ⟨⟨g.len, g.num, fun _ => g.told, Nat.le_of_lt g.told, by simp [Tk.say, Stp.cost], True.intro⟩, fun z => by cases z⟩
  | .give e k, r, vs, t, h, g => by
    simp only [Stp.run]
    cases he : e.ev vs with
    | none => exact ⟨g.after (by omega) num0, fun z => by cases z⟩
    | some j =>
      obtain ⟨l1, l2, l3⟩ := gift_ok hd (n := j) g.told
      rcases eg : gift ds j t with ⟨o, t'⟩
      rw [eg] at l1 l2 l3
      dsimp only at l1 l2 l3 ⊢
      try rw [eg]
      have ht : t'.told.length ≤ ds.length := by have := g.told; omega
      have hw : t'.words.length ≤ t.words.length + (Stp.give e k).cost c := by rw [l2]; simp
      cases o with
      | none => exact ⟨⟨g.len, g.num, fun z => absurd rfl z, ht, hw, True.intro⟩, fun z => by cases z⟩
      | some d =>
        obtain ⟨q1, q2, _⟩ := l3 d rfl
        cases d with
        | ask a =>
          have := put_ok (k := k) g.len g.num (i := a) q1
          exact ⟨⟨this.1, this.2, fun _ => (by show t'.told.length < _; omega), ht, hw, True.intro⟩, fun z => by cases z⟩
        | throw a => exact ⟨⟨g.len, g.num, fun _ => (by show t'.told.length < _; omega), ht, hw, q1⟩, fun z => by cases z⟩
        | shut => exact ⟨⟨g.len, g.num, fun _ => (by show t'.told.length < _; omega), ht, hw, True.intro⟩, fun z => by cases z⟩
  | .hand w es k, r, vs, t, h, g => by
    simp only [Stp.run]
    cases he : evs vs es with
    | none => exact ⟨g.after (by omega) num0, fun z => by cases z⟩
    | some ns =>
      obtain ⟨nl, nn⟩ := evs_ok g.len g.num h.2.2.1 he
      obtain ⟨q1, q2, q3, q4, q5, q6⟩ := hc w ns t h.1 (by rw [nl]; exact h.2.1) nn g.told
      rcases ec : cal w ns t with ⟨y, t'⟩
      rw [ec] at q1 q2 q3 q4 q5 q6
      dsimp only at q1 q2 q3 q4 q5 q6 ⊢
      try rw [ec]
      cases y with
      | go => exact absurd rfl q5
      | leave => exact absurd rfl q6
      | fin j =>
        have := put_ok (k := k) g.len g.num (i := j) q4
        exact ⟨⟨this.1, this.2, fun _ => q1 fun z => (by cases z), q2, q3, True.intro⟩, fun z => by cases z⟩
      | fault j => exact ⟨⟨g.len, g.num, fun _ => q1 fun z => (by cases z), q2, q3, q4⟩, fun z => by cases z⟩
      | shut => exact ⟨⟨g.len, g.num, fun _ => q1 fun z => (by cases z), q2, q3, True.intro⟩, fun z => by cases z⟩
      | stop => exact ⟨⟨g.len, g.num, fun z => absurd rfl z, q2, q3, True.intro⟩, fun z => by cases z⟩
  | .ife e a b, r, vs, t, h, g => by
    simp only [Stp.run]
    cases he : e.ev vs with
    | none => exact ⟨g.after (by omega) num0, fun z => by cases z⟩
    | some j =>
      dsimp only
      split
      · obtain ⟨p, q⟩ := Bd.inv hd hc b vs t h.2.2 g
        exact ⟨p.up (by simp only [Stp.cost]; omega), q⟩
      · obtain ⟨p, q⟩ := Bd.inv hd hc a vs t h.2.1 g
        exact ⟨p.up (by simp only [Stp.cost]; omega), q⟩
  | .round e b, r, vs, t, h, g => by
    simp only [Stp.run]
    cases he : e.ev vs with
    | none => exact ⟨g.after (by omega) num0, fun z => by cases z⟩
    | some j =>
      obtain ⟨p, q⟩ := iter_ok (f := b.run ds cal) (C := b.cost c) (fun vs t g => (Bd.inv hd hc b vs t h.2 g).1) (j % 10).toNat vs t g
      refine ⟨p.up ?_, fun z => absurd z q⟩
      simp only [Stp.cost]
      have := Nat.mul_le_mul_right (b.cost c) (top_le he)
      omega
  | .leave, r, vs, t, h, g => by
    simp only [Stp.run]
    exact ⟨g.after (by omega) True.intro, fun _ => h⟩
  | .fault e, r, vs, t, h, g => by
    simp only [Stp.run]
    cases he : e.ev vs with
    | none => exact ⟨g.after (by omega) num0, fun z => by cases z⟩
    | some j => exact ⟨g.after (by omega) (Rk.ev_ok g.len g.num e h he), fun z => by cases z⟩
  | .fin e, r, vs, t, h, g => by
    simp only [Stp.run]
    cases he : e.ev vs with
    | none => exact ⟨g.after (by omega) num0, fun z => by cases z⟩
    | some j => exact ⟨g.after (by omega) (Rk.ev_ok g.len g.num e h he), fun z => by cases z⟩
  | .tri a d l, r, vs, t, h, g => by
    simp only [Stp.run]
    obtain ⟨p1, q1⟩ := Bd.inv hd hc a vs t h.1 g
    rcases e1 : a.run ds cal vs t with ⟨y, vs1, t1⟩
    rw [e1] at p1 q1
    dsimp only
    have hd2 := Ct.inv hd hc d y vs1 t1 (r := r) h.2.1 q1 p1
    obtain ⟨p2, q2⟩ := hd2
    rcases e2 : d.run ds cal y vs1 t1 with ⟨y2, vs2, t2⟩
    rw [e2] at p2 q2
    by_cases hs : y2 = .stop
    · subst hs
      exact ⟨p2.up (by simp only [Stp.cost]; omega), fun z => by cases z⟩
    · have g2 := p2.good hs
      obtain ⟨p3, q3⟩ := Bd.inv hd hc l vs2 t2 h.2.2 g2
      have hw : t2.words.length ≤ t.words.length + a.cost c + d.cost c := p2.words
      have goal : ∀ R : Rs, R = (match l.run ds cal vs2 t2 with
          | (.go, vs3, t3) => (y2, vs3, t3)
          | r => r) → After ds n (t.words.length + (Stp.tri a d l).cost c) R ∧ (R.1 = .leave → r = true) := by
        intro R hR
        rcases e3 : l.run ds cal vs2 t2 with ⟨y3, vs3, t3⟩
        rw [e3] at p3 q3 hR
        have hw3 : t3.words.length ≤ t.words.length + (Stp.tri a d l).cost c := by
          have : t3.words.length ≤ t2.words.length + l.cost c := p3.words
          simp only [Stp.cost]; omega
        cases y3 with
        | go => subst hR; exact ⟨⟨p3.len, p3.num, fun _ => p3.told fun z => (by cases z), p3.told', hw3, p2.way⟩, q2⟩
        | leave => subst hR; exact ⟨⟨p3.len, p3.num, p3.told, p3.told', hw3, p3.way⟩, q3⟩
        | fault j => subst hR; exact ⟨⟨p3.len, p3.num, p3.told, p3.told', hw3, p3.way⟩, q3⟩
        | fin j => subst hR; exact ⟨⟨p3.len, p3.num, p3.told, p3.told', hw3, p3.way⟩, q3⟩
        | shut => subst hR; exact ⟨⟨p3.len, p3.num, p3.told, p3.told', hw3, p3.way⟩, q3⟩
        | stop => subst hR; exact ⟨⟨p3.len, p3.num, p3.told, p3.told', hw3, p3.way⟩, q3⟩
      cases y2 with
      | stop => exact absurd rfl hs
      | go => exact goal _ rfl
      | leave => exact goal _ rfl
      | fault j => exact goal _ rfl
      | fin j => exact goal _ rfl
      | shut => exact goal _ rfl
theorem Bd.inv (hd : ∀ d ∈ ds, d.ok) (hc : CalOk ds ps i c cal) : ∀ (b : Bd) {r : Bool} (vs : List Int) (t : Tk), b.ok ps i n r → Good ds n vs t → After ds n (t.words.length + b.cost c) (b.run ds cal vs t) ∧ ((b.run ds cal vs t).1 = .leave → r = true)
  | .nil, r, vs, t, h, g => by
    simp only [Bd.run]
    exact ⟨g.after (by omega) True.intro, fun z => by cases z⟩
  | .cons s b, r, vs, t, h, g => by
    simp only [Bd.run]
    obtain ⟨p, q⟩ := Stp.inv hd hc s vs t h.1 g
    rcases e : s.run ds cal vs t with ⟨y, vs', t'⟩
    rw [e] at p q
    have hb : t.words.length + s.cost c ≤ t.words.length + (Bd.cons s b).cost c := by simp only [Bd.cost]; omega
    cases y with
    | go =>
      obtain ⟨p2, q2⟩ := Bd.inv hd hc b vs' t' h.2 (p.good fun z => by cases z)
      refine ⟨p2.up ?_, q2⟩
      have : t'.words.length ≤ t.words.length + s.cost c := p.words
      simp only [Bd.cost]; omega
    | leave => exact ⟨p.up hb, q⟩
    | fault j => exact ⟨p.up hb, q⟩
    | fin j => exact ⟨p.up hb, q⟩
    | shut => exact ⟨p.up hb, q⟩
    | stop => exact ⟨p.up hb, q⟩
theorem Ct.inv (hd : ∀ d ∈ ds, d.ok) (hc : CalOk ds ps i c cal) : ∀ (d : Ct) (y : Way) (vs : List Int) (t : Tk) {r : Bool} {B : Nat}, d.ok ps i n r → (y = .leave → r = true) → After ds n B (y, vs, t) → After ds n (B + d.cost c) (d.run ds cal y vs t) ∧ ((d.run ds cal y vs t).1 = .leave → r = true)
  | .no, y, vs, t, r, B, h, hy, a => by
    simp only [Ct.run]
    exact ⟨a.up (by omega), hy⟩
  | .yes k b, y, vs, t, r, B, h, hy, a => by
    simp only [Ct.run]
    cases y with
    | fault j =>
      have := put_ok (k := k) a.len a.num (i := j) a.way
      obtain ⟨p, q⟩ := Bd.inv hd hc b (put k j vs) t h.2 ⟨this.1, this.2, a.told fun z => by cases z⟩
      refine ⟨p.up ?_, q⟩
      have : t.words.length ≤ B := a.words
      simp only [Ct.cost]; omega
    | go => exact ⟨a.up (by omega), hy⟩
    | leave => exact ⟨a.up (by omega), hy⟩
    | fin j => exact ⟨a.up (by omega), hy⟩
    | shut => exact ⟨a.up (by omega), hy⟩
    | stop => exact ⟨a.up (by omega), hy⟩
end
end
theorem ps_get {P : Prog} {w : Nat} {k : Nat} (h : P.ps[w]? = some k) : ∃ W, P[w]? = some W ∧ W.params = k := by
  unfold Prog.ps at h
  rw [List.getElem?_map] at h
  cases e : P[w]? with
  | none => rw [e] at h; cases h
  | some W => rw [e] at h; exact ⟨W, rfl, by simpa using h⟩
/-- a call keeps to it -/
theorem play_ok {P : Prog} {ds : List Deed} (hd : ∀ d ∈ ds, d.ok) (hP : P.ok) : ∀ (h i : Nat), P.length ≤ h + i + 1 → CalOk ds P.ps i (cost P h) (play P ds h)
  | 0, i, hl, w, ns, t, hw, hp, hn, ht => by
    obtain ⟨W, e, _⟩ := ps_get hp
    have := (List.getElem?_eq_some_iff.mp e).1
    omega
  | h + 1, i, hl, w, ns, t, hw, hp, hn, ht => by
    obtain ⟨W, e, hk⟩ := ps_get hp
    have ok := hP.at_ w W e
    have hlen : (ns ++ List.replicate (W.slots - W.params) (0 : Int)).length = W.slots := by
      have := ok.psl
      simp; omega
    have g : Good ds W.slots (ns ++ List.replicate (W.slots - W.params) 0) t := ⟨hlen, fun v hv => by
      rcases List.mem_append.mp hv with z | z
      · exact hn v z
      · rw [List.mem_replicate] at z; rw [z.2]; exact num0, ht⟩
    obtain ⟨p, q⟩ := Bd.inv hd (play_ok hd hP h w (by omega)) W.body _ t ok.body g
    unfold play
    rw [e]
    dsimp only
    have hc : cost P (h + 1) w = W.body.cost (cost P h) := by rw [cost, e]
    rw [hc]
    rcases e2 : W.body.run ds (play P ds h) (ns ++ List.replicate (W.slots - W.params) 0) t with ⟨y, vs', t'⟩
    rw [e2] at p q
    cases y with
    | go => exact ⟨fun _ => p.told fun z => (by cases z), p.told', p.words, num0, fun z => (by cases z), fun z => by cases z⟩
    | leave => cases q rfl
    | fault j => exact ⟨fun _ => p.told fun z => (by cases z), p.told', p.words, p.way, fun z => (by cases z), fun z => by cases z⟩
    | fin j => exact ⟨fun _ => p.told fun z => (by cases z), p.told', p.words, p.way, fun z => (by cases z), fun z => by cases z⟩
    | shut => exact ⟨fun _ => p.told fun z => (by cases z), p.told', p.words, p.way, fun z => (by cases z), fun z => by cases z⟩
    | stop => exact ⟨fun z => absurd rfl z, p.told', p.words, True.intro, fun z => (by cases z), fun z => by cases z⟩
end Tw

set_option linter.all false
set_option autoImplicit false
/-! Ty3: where nothing is gone through any more, no word is left. -/
namespace Tw
open Sh
theorem gift_words {ds : List Deed} {n : Int} {t : Tk} : (gift ds n t).2.words = [] := by
  unfold gift
  split <;> rfl
theorem evs_len {vs : List Int} : ∀ {es : List Rk} {ns : List Int}, evs vs es = some ns → ns.length = es.length
  | [], ns, e => by simp only [evs, Option.some.injEq] at e; subst e; rfl
  | x :: es, ns, e => by
    simp only [evs] at e
    cases ea : x.ev vs with
    | none => rw [ea] at e; cases e
    | some i =>
      cases eb : evs vs es with
      | none => rw [ea, eb] at e; cases e
      | some is => rw [ea, eb] at e; cases e; simp [evs_len eb]
def StopOk (ps : List Nat) (i : Nat) (cal : Nat → List Int → Tk → Way × Tk) : Prop := ∀ (w : Nat) (ns : List Int) (t : Tk), i < w → ps[w]? = some ns.length → (cal w ns t).1 = .stop → (cal w ns t).2.words = []
def Sw (R : Rs) : Prop := R.1 = .stop → R.2.2.words = []
theorem Sw.of {y : Way} {vs : List Int} {t : Tk} (h : y ≠ .stop) : Sw (y, vs, t) := fun z => absurd z h
theorem iter_stop {f : List Int → Tk → Rs} (hf : ∀ vs t, Sw (f vs t)) : ∀ (k : Nat) (vs : List Int) (t : Tk), Sw (iter k f vs t)
  | 0, vs, t => .of fun z => by cases z
  | k + 1, vs, t => by
    have a := hf vs t
    unfold iter
    rcases e : f vs t with ⟨y, vs', t'⟩
    rw [e] at a
    cases y with
    | go => exact iter_stop hf k vs' t'
    | leave => exact .of fun z => by cases z
    | fault j => exact a
    | fin j => exact a
    | shut => exact a
    | stop => exact a
section
variable {ds : List Deed} {ps : List Nat} {i n : Nat} {cal : Nat → List Int → Tk → Way × Tk}
mutual
theorem Stp.stp (hc : StopOk ps i cal) : ∀ (s : Stp) {r : Bool} (vs : List Int) (t : Tk), s.ok ps i n r → Sw (s.run ds cal vs t)
  | .set k e, r, vs, t, h => by
    simp only [Stp.run]
    cases e.ev vs <;> exact .of fun z => by cases z
  | .say e, r, vs, t, h => by
    simp only [Stp.run]
    cases e.ev vs <;> exact .of fun z => by cases z
  | .give e k, r, vs, t, h => by
    simp only [Stp.run]
    cases e.ev vs with
    | none => exact .of fun z => by cases z
    | some j =>
      dsimp only
      have w := gift_words (ds := ds) (n := j) (t := t)
      rcases eg : gift ds j t with ⟨o, t'⟩
      rw [eg] at w
      cases o with
      | none => exact fun _ => w
      | some d => cases d <;> exact .of fun z => by cases z
  | .hand w es k, r, vs, t, h => by
    simp only [Stp.run]
    cases ee : evs vs es with
    | none => exact .of fun z => by cases z
    | some ns =>
      dsimp only
      have a := hc w ns t h.1 (by rw [evs_len ee]; exact h.2.1)
      rcases ec : cal w ns t with ⟨y, t'⟩
      rw [ec] at a
      cases y with
      | fin j => exact .of fun z => by cases z
      | go => exact a
      | leave => exact a
      | fault j => exact a
      | shut => exact a
      | stop => exact a
  | .ife e a b, r, vs, t, h => by
    simp only [Stp.run]
    cases e.ev vs with
    | none => exact .of fun z => by cases z
    | some j =>
      dsimp only
      split
      · exact Bd.stp hc b vs t h.2.2
      · exact Bd.stp hc a vs t h.2.1
  | .round e b, r, vs, t, h => by
    simp only [Stp.run]
    cases e.ev vs with
    | none => exact .of fun z => by cases z
    | some j => exact iter_stop (fun vs t => Bd.stp hc b vs t h.2) _ vs t
  | .leave, r, vs, t, h => by simp only [Stp.run]; exact .of fun z => by cases z
  | .fault e, r, vs, t, h => by
    simp only [Stp.run]
    cases e.ev vs <;> exact .of fun z => by cases z
  | .fin e, r, vs, t, h => by
    simp only [Stp.run]
    cases e.ev vs <;> exact .of fun z => by cases z
  | .tri a c l, r, vs, t, h => by
    simp only [Stp.run]
    have h1 := Bd.stp hc a vs t h.1
    rcases e1 : a.run ds cal vs t with ⟨y, vs1, t1⟩
    rw [e1] at h1
    dsimp only
    have h2 := Ct.stp hc c y vs1 t1 h.2.1 h1
    rcases e2 : c.run ds cal y vs1 t1 with ⟨y2, vs2, t2⟩
    rw [e2] at h2
    have h3 := Bd.stp hc l vs2 t2 h.2.2
    have fin : y2 ≠ .stop → Sw (match l.run ds cal vs2 t2 with
        | (.go, vs3, t3) => (y2, vs3, t3)
        | r => r) := by
      intro hn
      rcases e3 : l.run ds cal vs2 t2 with ⟨y3, vs3, t3⟩
      rw [e3] at h3
      cases y3 with
      | go => exact .of hn
      | leave => exact h3
      | fault j => exact h3
      | fin j => exact h3
      | shut => exact h3
      | stop => exact h3
    cases y2 with
    | stop => exact h2
    | go => exact fin fun z => by cases z
    | leave => exact fin fun z => by cases z
    | fault j => exact fin fun z => by cases z
    | fin j => exact fin fun z => by cases z
    | shut => exact fin fun z => by cases z
theorem Bd.stp (hc : StopOk ps i cal) : ∀ (b : Bd) {r : Bool} (vs : List Int) (t : Tk), b.ok ps i n r → Sw (b.run ds cal vs t)
  | .nil, r, vs, t, h => by simp only [Bd.run]; exact .of fun z => by cases z
  | .cons s b, r, vs, t, h => by
    simp only [Bd.run]
    have h1 := Stp.stp hc s vs t h.1
    rcases e1 : s.run ds cal vs t with ⟨y, vs1, t1⟩
    rw [e1] at h1
    cases y with
    | go => exact Bd.stp hc b vs1 t1 h.2
    | leave => exact h1
    | fault j => exact h1
    | fin j => exact h1
    | shut => exact h1
    | stop => exact h1
theorem Ct.stp (hc : StopOk ps i cal) : ∀ (d : Ct) {r : Bool} (y : Way) (vs : List Int) (t : Tk), d.ok ps i n r → Sw (y, vs, t) → Sw (d.run ds cal y vs t)
  | .no, r, y, vs, t, h, hy => by simp only [Ct.run]; exact hy
  | .yes k b, r, y, vs, t, h, hy => by
    simp only [Ct.run]
    cases y with
    | fault j => exact Bd.stp hc b _ t h.2
    | go => exact hy
    | leave => exact hy
    | fin j => exact hy
    | shut => exact hy
    | stop => exact hy
end
end
theorem play_one {P : Prog} {ds : List Deed} (hP : P.ok) {h w : Nat} (hc : StopOk P.ps w (play P ds h)) {ns : List Int} {t : Tk} (hp : P.ps[w]? = some ns.length) (e : (play P ds (h + 1) w ns t).1 = .stop) : (play P ds (h + 1) w ns t).2.words = [] := by
  obtain ⟨W, eW, hk⟩ := ps_get hp
  have ok := hP.at_ w W eW
  have s := Bd.stp (ds := ds) hc W.body (ns ++ List.replicate (W.slots - W.params) 0) t ok.body
  unfold play at e ⊢
  rw [eW] at e ⊢
  dsimp only at e ⊢
  rcases er : W.body.run ds (play P ds h) (ns ++ List.replicate (W.slots - W.params) 0) t with ⟨y, vs', t'⟩
  rw [er] at s e
  cases y with
  | go => cases e
  | leave => cases e
  | fault j => cases e
  | fin j => cases e
  | shut => cases e
  | stop => exact s rfl
theorem play_stop {P : Prog} {ds : List Deed} (hP : P.ok) : ∀ (h i : Nat), P.length ≤ h + i + 1 → StopOk P.ps i (play P ds h)
  | 0, i, hl, w, ns, t, hw, hp, _ => by
    obtain ⟨W, e, _⟩ := ps_get hp
    have := (List.getElem?_eq_some_iff.mp e).1
    omega
  | h + 1, i, hl, w, ns, t, hw, hp, e => play_one hP (play_stop hP h w (by omega)) hp e
theorem walked_stop {P : Prog} {ds : List Deed} (hP : P.ok) {w : Nat} {ns : List Int} {t : Tk} (hp : P.ps[w]? = some ns.length) (e : (play P ds 4 w ns t).1 = .stop) : (play P ds 4 w ns t).2.words = [] := by
  have := hP.l4
  exact play_one hP (play_stop hP 3 w (by omega)) hp e
end Tw

set_option linter.all false
set_option autoImplicit false
/-! Ty4: how many words are told at once, at most. -/
namespace Tw
open Sh
def TB (B : Nat) (t : Tk) : Prop := ∀ x ∈ t.told, x.1.length ≤ B
theorem TB.tell {B : Nat} {t : Tk} {o : Oc} (h : TB B t) (hw : t.words.length ≤ B) : TB B (t.tell o) := fun x hx => by
  simp only [Tk.tell, List.mem_append, List.mem_singleton] at hx
  rcases hx with hx | rfl
  · exact h x hx
  · exact hw
theorem TB.say {B : Nat} {t : Tk} {n : Int} (h : TB B t) : TB B (t.say n) := h
theorem TB.gift {B : Nat} {ds : List Deed} {n : Int} {t : Tk} (h : TB B t) (hw : t.words.length ≤ B) : TB B (gift ds n t).2 := by
  unfold Tw.gift
  split <;> exact h.tell hw
def CalTB (ds : List Deed) (ps : List Nat) (i : Nat) (c : Nat → Nat) (B : Nat) (cal : Nat → List Int → Tk → Way × Tk) : Prop := ∀ (w : Nat) (ns : List Int) (t : Tk), i < w → ps[w]? = some ns.length → (∀ v ∈ ns, Num v) → t.told.length < ds.length → t.words.length + c w ≤ B → TB B t → TB B (cal w ns t).2
section
variable {ds : List Deed} {ps : List Nat} {i n B : Nat} {c : Nat → Nat} {cal : Nat → List Int → Tk → Way × Tk}
theorem iter_TB {f : List Int → Tk → Rs} {C : Nat} (hf : ∀ vs t, Good ds n vs t → t.words.length + C ≤ B → TB B t → TB B (f vs t).2.2) (hi : ∀ vs t, Good ds n vs t → After ds n (t.words.length + C) (f vs t)) : ∀ (k : Nat) (vs : List Int) (t : Tk), Good ds n vs t → t.words.length + k * C ≤ B → TB B t → TB B (iter k f vs t).2.2
  | 0, vs, t, g, hw, h => h
  | k + 1, vs, t, g, hw, h => by
    rw [Nat.add_mul, Nat.one_mul] at hw
    have a := hf vs t g (by omega) h
    have b := hi vs t g
    unfold iter
    rcases e : f vs t with ⟨y, vs', t'⟩
    rw [e] at a b
    have := b.words
    dsimp only at this
    cases y with
    | go => exact iter_TB hf hi k vs' t' (b.good fun z => by cases z) (by omega) a
    | leave => exact a
    | fault j => exact a
    | fin j => exact a
    | shut => exact a
    | stop => exact a
mutual
theorem Stp.TB (hd : ∀ d ∈ ds, d.ok) (hc : CalOk ds ps i c cal) (hb : CalTB ds ps i c B cal) : ∀ (s : Stp) {r : Bool} (vs : List Int) (t : Tk), s.ok ps i n r → Good ds n vs t → t.words.length + s.cost c ≤ B → TB B t → TB B (s.run ds cal vs t).2.2
  | .set k e, r, vs, t, h, g, hw, tb => by
    simp only [Stp.run]
    cases e.ev vs <;> exact tb
  | .say e, r, vs, t, h, g, hw, tb => by
    simp only [Stp.run]
    cases e.ev vs with
    | none => exact tb
    | some j => exact tb.say
  | .give e k, r, vs, t, h, g, hw, tb => by
    simp only [Stp.run]
    simp only [Stp.cost] at hw
    cases e.ev vs with
    | none => exact tb
    | some j =>
      dsimp only
      have w := tb.gift (ds := ds) (n := j) (by omega)
      rcases eg : gift ds j t with ⟨o, t'⟩
      rw [eg] at w
      cases o with
      | none => exact w
      | some d => cases d <;> exact w
  | .hand w es k, r, vs, t, h, g, hw, tb => by
    simp only [Stp.run]
    simp only [Stp.cost] at hw
    cases ee : evs vs es with
    | none => exact tb
    | some ns =>
      dsimp only
      obtain ⟨nl, nn⟩ := evs_ok g.len g.num h.2.2.1 ee
      have a := hb w ns t h.1 (by rw [nl]; exact h.2.1) nn g.told hw tb
      rcases ec : cal w ns t with ⟨y, t'⟩
      rw [ec] at a
      cases y <;> exact a
  | .ife e a b, r, vs, t, h, g, hw, tb => by
    simp only [Stp.run]
    simp only [Stp.cost] at hw
    cases e.ev vs with
    | none => exact tb
    | some j =>
      dsimp only
      split
      · exact Bd.TB hd hc hb b vs t h.2.2 g (by omega) tb
      · exact Bd.TB hd hc hb a vs t h.2.1 g (by omega) tb
  | .round e b, r, vs, t, h, g, hw, tb => by
    simp only [Stp.run]
    simp only [Stp.cost] at hw
    cases o : e.ev vs with
    | none => exact tb
    | some j =>
      have hm : (j % 10).toNat * b.cost c ≤ e.top * b.cost c := Nat.mul_le_mul_right _ (top_le o)
      exact iter_TB (fun vs t g hw tb => Bd.TB hd hc hb b vs t h.2 g hw tb) (fun vs t g => (Bd.inv hd hc b vs t h.2 g).1) _ vs t g (by omega) tb
  | .leave, r, vs, t, h, g, hw, tb => by simp only [Stp.run]; exact tb
  | .fault e, r, vs, t, h, g, hw, tb => by
    simp only [Stp.run]
    cases e.ev vs <;> exact tb
  | .fin e, r, vs, t, h, g, hw, tb => by
    simp only [Stp.run]
    cases e.ev vs <;> exact tb
  | .tri a d l, r, vs, t, h, g, hw, tb => by
    simp only [Stp.run]
    simp only [Stp.cost] at hw
    have h1 := Bd.TB hd hc hb a vs t h.1 g (by omega) tb
    obtain ⟨i1, l1⟩ := Bd.inv hd hc a vs t h.1 g
    rcases e1 : a.run ds cal vs t with ⟨y, vs1, t1⟩
    rw [e1] at h1 i1 l1
    dsimp only at h1 i1 l1 ⊢
    have h2 := Ct.TB hd hc hb d y vs1 t1 h.2.1 i1 (by omega) h1
    obtain ⟨i2, l2⟩ := Ct.inv hd hc d y vs1 t1 h.2.1 l1 i1
    rcases e2 : d.run ds cal y vs1 t1 with ⟨y2, vs2, t2⟩
    rw [e2] at h2 i2
    have w2 := i2.words
    dsimp only at w2 h2
    have fin : y2 ≠ .stop → Tw.TB B (match l.run ds cal vs2 t2 with
        | (.go, vs3, t3) => ((y2, vs3, t3) : Rs)
        | r => r).2.2 := by
      intro hn
      have h3 := Bd.TB hd hc hb l vs2 t2 h.2.2 (i2.good hn) (by omega) h2
      rcases e3 : l.run ds cal vs2 t2 with ⟨y3, vs3, t3⟩
      rw [e3] at h3
      cases y3 <;> exact h3
    cases y2 with
    | stop => exact h2
    | go => exact fin fun z => by cases z
    | leave => exact fin fun z => by cases z
    | fault j => exact fin fun z => by cases z
    | fin j => exact fin fun z => by cases z
    | shut => exact fin fun z => by cases z
theorem Bd.TB (hd : ∀ d ∈ ds, d.ok) (hc : CalOk ds ps i c cal) (hb : CalTB ds ps i c B cal) : ∀ (b : Bd) {r : Bool} (vs : List Int) (t : Tk), b.ok ps i n r → Good ds n vs t → t.words.length + b.cost c ≤ B → TB B t → TB B (b.run ds cal vs t).2.2
  | .nil, r, vs, t, h, g, hw, tb => by simp only [Bd.run]; exact tb
  | .cons s b, r, vs, t, h, g, hw, tb => by
    simp only [Bd.run]
    simp only [Bd.cost] at hw
    have h1 := Stp.TB hd hc hb s vs t h.1 g (by omega) tb
    obtain ⟨i1, l1⟩ := Stp.inv hd hc s vs t h.1 g
    rcases e1 : s.run ds cal vs t with ⟨y, vs1, t1⟩
    rw [e1] at h1 i1
    have w1 := i1.words
    dsimp only at w1
    cases y with
    | go => exact Bd.TB hd hc hb b vs1 t1 h.2 (i1.good fun z => by cases z) (by omega) h1
    | leave => exact h1
    | fault j => exact h1
    | fin j => exact h1
    | shut => exact h1
    | stop => exact h1
theorem Ct.TB (hd : ∀ d ∈ ds, d.ok) (hc : CalOk ds ps i c cal) (hb : CalTB ds ps i c B cal) : ∀ (d : Ct) {r : Bool} {A : Nat} (y : Way) (vs : List Int) (t : Tk), d.ok ps i n r → After ds n A (y, vs, t) → A + d.cost c ≤ B → TB B t → TB B (d.run ds cal y vs t).2.2
  | .no, r, A, y, vs, t, h, a, hw, tb => by simp only [Ct.run]; exact tb
  | .yes k b, r, A, y, vs, t, h, a, hw, tb => by
    simp only [Ct.run]
    simp only [Ct.cost] at hw
    cases y with
    | fault j =>
      have pn := put_ok (k := k) a.len a.num (i := j) a.way
      have := a.words
      dsimp only at this
      exact Bd.TB hd hc hb b _ t h.2 ⟨pn.1, pn.2, a.told fun z => by cases z⟩ (by omega) tb
    | go => exact tb
    | leave => exact tb
    | fin j => exact tb
    | shut => exact tb
    | stop => exact tb
end
end
theorem play_TB1 {P : Prog} {ds : List Deed} (hd : ∀ d ∈ ds, d.ok) (hP : P.ok) {h w B : Nat} (hc : CalOk ds P.ps w (cost P h) (play P ds h)) (hb : CalTB ds P.ps w (cost P h) B (play P ds h)) {ns : List Int} {t : Tk} (hp : P.ps[w]? = some ns.length) (hn : ∀ v ∈ ns, Num v) (ht : t.told.length < ds.length) (hw : t.words.length + cost P (h + 1) w ≤ B) (tb : TB B t) : TB B (play P ds (h + 1) w ns t).2 := by
  obtain ⟨W, eW, hk⟩ := ps_get hp
  have ok := hP.at_ w W eW
  have g : Good ds W.slots (ns ++ List.replicate (W.slots - W.params) 0) t := ⟨by have := ok.psl; simp; omega, fun v hv => by
    rcases List.mem_append.mp hv with z | z
    · exact hn v z
    · rw [List.mem_replicate] at z; rw [z.2]; exact num0, ht⟩
  have hcost : cost P (h + 1) w = W.body.cost (cost P h) := by rw [cost, eW]
  rw [hcost] at hw
  have s := Bd.TB hd hc hb W.body (ns ++ List.replicate (W.slots - W.params) 0) t ok.body g hw tb
  unfold play
  rw [eW]
  dsimp only
  rcases er : W.body.run ds (play P ds h) (ns ++ List.replicate (W.slots - W.params) 0) t with ⟨y, vs', t'⟩
  rw [er] at s
  cases y <;> exact s
theorem play_TB {P : Prog} {ds : List Deed} (hd : ∀ d ∈ ds, d.ok) (hP : P.ok) {B : Nat} : ∀ (h i : Nat), P.length ≤ h + i + 1 → CalTB ds P.ps i (cost P h) B (play P ds h)
  | 0, i, hl, w, ns, t, hw, hp, _, _, _, tb => tb
  | h + 1, i, hl, w, ns, t, hw, hp, hn, ht, hB, tb => play_TB1 hd hP (play_ok hd hP h w (by omega)) (play_TB hd hP h w (by omega)) hp hn ht hB tb
theorem walked_TB {P : Prog} {ds : List Deed} (hd : ∀ d ∈ ds, d.ok) (hP : P.ok) {w : Nat} {ns : List Int} {t : Tk} {B : Nat} (hp : P.ps[w]? = some ns.length) (hn : ∀ v ∈ ns, Num v) (ht : t.told.length < ds.length) (hw : t.words.length + cost P 4 w ≤ B) (tb : TB B t) : TB B (play P ds 4 w ns t).2 := by
  have := hP.l4
  exact play_TB1 hd hP (play_ok hd hP 3 w (by omega)) (play_TB hd hP 3 w (by omega)) hp hn ht hw tb
end Tw

set_option Elab.async false
set_option linter.all false
set_option autoImplicit false
set_option maxRecDepth 100000
set_option maxHeartbeats 8000000
namespace K04
open PySem PySem.Spec PyProof.Rows L2 Sh Mi
def top (i : Nat) : Stmt := PySem.Challenge.pw_pausewright_k04_whole_played.main.body.getD i (.Pass ⟨0, 0, 0, 0⟩)
abbrev st__law_alike : Stmt := top 43
abbrev st__law_taken : Stmt := top 33
abbrev st__law_deeds : Stmt := top 42
abbrev st__law_tell : Stmt := top 45
abbrev st__law_closed : Stmt := top 47
abbrev st__law_gift : Stmt := top 46
abbrev st__law_given : Stmt := top 51
abbrev st__law_reckoned : Stmt := top 44
abbrev st__law_walk : Stmt := top 48
abbrev st__law_step : Stmt := top 49
abbrev st__law_rounds : Stmt := top 50
abbrev st__law_handed : Stmt := top 52
abbrev st__law_tried : Stmt := top 53
abbrev st__law_due : Stmt := top 54
abbrev st__law_numbers : Stmt := top 41
abbrev st__law_reckoning : Stmt := top 34
abbrev st__law_lent : Stmt := top 37
abbrev st__law_body : Stmt := top 35
abbrev st__law_drawn : Stmt := top 36
abbrev st__law_try : Stmt := top 38
abbrev st__law_tower : Stmt := top 39
abbrev st__law_program : Stmt := top 40
abbrev st_Asker___init__ : Stmt := inClass (top 13) 0
abbrev st_Asker_begins : Stmt := inClass (top 13) 1
abbrev st_Asker_tell : Stmt := inClass (top 13) 3
abbrev st_Asker_do_the_rest : Stmt := inClass (top 13) 7
abbrev st_Asker_deed : Stmt := inClass (top 13) 4
abbrev st_Asker_see_out : Stmt := inClass (top 13) 6
abbrev st_Walk___init__ : Stmt := inClass (top 31) 0
abbrev st_Asker_say : Stmt := inClass (top 13) 2
abbrev st_Asker_take : Stmt := inClass (top 13) 5
abbrev st_Walk_keep : Stmt := inClass (top 31) 1
abbrev st_Walk_give : Stmt := inClass (top 31) 6
abbrev st_reckoned_of_two : Stmt := top 18
abbrev st_reckoned : Stmt := top 17
abbrev st_Walk_reckon : Stmt := inClass (top 31) 2
abbrev st_walked : Stmt := top 30
abbrev st_Walk_body : Stmt := inClass (top 31) 3
abbrev st_Walk_outcome : Stmt := inClass (top 31) 4
abbrev st_Walk_step : Stmt := inClass (top 31) 5
abbrev st_Walk_hand : Stmt := inClass (top 31) 7
abbrev st_Walk_go_round : Stmt := inClass (top 31) 8
abbrev st_Walk_attempt : Stmt := inClass (top 31) 9
abbrev st_asked : Stmt := top 12
abbrev st_is_whole : Stmt := top 6
abbrev st_is_deed : Stmt := top 11
abbrev st_need_work : Stmt := top 9
abbrev st_need_ask : Stmt := top 10
abbrev st_Look___init__ : Stmt := inClass (top 27) 0
abbrev st_Look_need : Stmt := inClass (top 27) 1
abbrev st_Look_reckoning : Stmt := inClass (top 27) 8
abbrev st_Look_handing : Stmt := inClass (top 27) 6
abbrev st_Look_kept : Stmt := inClass (top 27) 7
abbrev st_Look_body : Stmt := inClass (top 27) 3
abbrev st_Look_step : Stmt := inClass (top 27) 4
abbrev st_Look_caught : Stmt := inClass (top 27) 5
abbrev st_Look_whole_work : Stmt := inClass (top 27) 2
abbrev st_need_program : Stmt := top 26
abbrev st_played : Stmt := top 29
abbrev st_law : Stmt := top 55
theorem sc__law_alike : FnScope ["_law_found", "_law_due_here", "_law_k"] ["_law_found", "_law_due_here"] (defScope st__law_alike) := ⟨rfl, rfl, rfl, by decide +kernel, rfl, by decide +kernel, by decide +kernel⟩
theorem sc__law_taken : FnScope ["_law_row", "_law_many", "_law_found", "_law_cell"] ["_law_row", "_law_many"] (defScope st__law_taken) := ⟨rfl, rfl, rfl, by decide +kernel, rfl, by decide +kernel, by decide +kernel⟩
theorem sc__law_deeds : FnScope ["_law_row", "_law_most", "_law_found", "_law_turn", "_law_number", "_law_way"] ["_law_row", "_law_most"] (defScope st__law_deeds) := ⟨rfl, rfl, rfl, by decide +kernel, rfl, by decide +kernel, by decide +kernel⟩
theorem sc__law_tell : FnScope ["_law_talk", "_law_outcome"] ["_law_talk", "_law_outcome"] (defScope st__law_tell) := ⟨rfl, rfl, rfl, by decide +kernel, rfl, by decide +kernel, by decide +kernel⟩
theorem sc__law_closed : FnScope ["_law_talk", "_law_way", "_law_shut", "_law_found", "_law_deed"] ["_law_talk", "_law_way"] (defScope st__law_closed) := ⟨rfl, rfl, rfl, by decide +kernel, rfl, by decide +kernel, by decide +kernel⟩
theorem sc__law_gift : FnScope ["_law_talk", "_law_number"] ["_law_talk", "_law_number"] (defScope st__law_gift) := ⟨rfl, rfl, rfl, by decide +kernel, rfl, by decide +kernel, by decide +kernel⟩
theorem sc__law_given : FnScope ["_law_k", "_law_deed", "_law_slots"] ["_law_k", "_law_deed", "_law_slots"] (defScope st__law_given) := ⟨rfl, rfl, rfl, by decide +kernel, rfl, by decide +kernel, by decide +kernel⟩
theorem sc__law_reckoned : FnScope ["_law_e", "_law_slots", "_law_one", "_law_other"] ["_law_e", "_law_slots"] (defScope st__law_reckoned) := ⟨rfl, rfl, rfl, by decide +kernel, rfl, by decide +kernel, by decide +kernel⟩
theorem sc__law_walk : FnScope ["_law_program_here", "_law_steps", "_law_slots", "_law_talk", "_law_step_here", "_law_way"] ["_law_program_here", "_law_steps", "_law_slots", "_law_talk"] (defScope st__law_walk) := ⟨rfl, rfl, rfl, by decide +kernel, rfl, by decide +kernel, by decide +kernel⟩
theorem sc__law_step : FnScope ["_law_program_here", "_law_step_here", "_law_slots", "_law_talk", "_law_number"] ["_law_program_here", "_law_step_here", "_law_slots", "_law_talk"] (defScope st__law_step) := ⟨rfl, rfl, rfl, by decide +kernel, rfl, by decide +kernel, by decide +kernel⟩
theorem sc__law_rounds : FnScope ["_law_program_here", "_law_steps", "_law_many", "_law_slots", "_law_talk", "_law_turn", "_law_way"] ["_law_program_here", "_law_steps", "_law_many", "_law_slots", "_law_talk"] (defScope st__law_rounds) := ⟨rfl, rfl, rfl, by decide +kernel, rfl, by decide +kernel, by decide +kernel⟩
theorem sc__law_handed : FnScope ["_law_program_here", "_law_step_here", "_law_slots", "_law_talk", "_law_params", "_law_many", "_law_body_here", "_law_numbers_here", "_law_way", "_law_e"] ["_law_program_here", "_law_step_here", "_law_slots", "_law_talk"] (defScope st__law_handed) := ⟨rfl, rfl, rfl, by decide +kernel, rfl, by decide +kernel, by decide +kernel⟩
theorem sc__law_tried : FnScope ["_law_program_here", "_law_step_here", "_law_slots", "_law_talk", "_law_way", "_law_more"] ["_law_program_here", "_law_step_here", "_law_slots", "_law_talk"] (defScope st__law_tried) := ⟨rfl, rfl, rfl, by decide +kernel, rfl, by decide +kernel, by decide +kernel⟩
theorem sc__law_due : FnScope ["_law_program_here", "_law_work", "_law_numbers_here", "_law_deeds_here", "_law_talk", "_law_way", "_law_params", "_law_many", "_law_body_here", "_law_slots"] ["_law_program_here", "_law_work", "_law_numbers_here", "_law_deeds_here"] (defScope st__law_due) := ⟨rfl, rfl, rfl, by decide +kernel, rfl, by decide +kernel, by decide +kernel⟩
theorem sc__law_numbers : FnScope ["_law_row", "_law_many", "_law_turn"] ["_law_row", "_law_many"] (defScope st__law_numbers) := ⟨rfl, rfl, rfl, by decide +kernel, rfl, by decide +kernel, by decide +kernel⟩
theorem sc__law_reckoning : FnScope ["_law_row", "_law_slots", "_law_deep", "_law_way", "_law_word"] ["_law_row", "_law_slots", "_law_deep"] (defScope st__law_reckoning) := ⟨rfl, rfl, rfl, by decide +kernel, rfl, by decide +kernel, by decide +kernel⟩
theorem sc__law_lent : FnScope ["_law_row", "_law_box", "_law_e", "_law_k", "_law_later", "_law_work", "_law_slots", "_law_args", "_law_turn"] ["_law_row", "_law_box", "_law_e", "_law_k"] (defScope st__law_lent) := ⟨rfl, rfl, rfl, by decide +kernel, rfl, by decide +kernel, by decide +kernel⟩
theorem sc__law_body : FnScope ["_law_row", "_law_box", "_law_deep", "_law_inner", "_law_many", "_law_found", "_law_turn"] ["_law_row", "_law_box", "_law_deep", "_law_inner", "_law_many"] (defScope st__law_body) := ⟨rfl, rfl, rfl, by decide +kernel, rfl, by decide +kernel, by decide +kernel⟩
theorem sc__law_drawn : FnScope ["_law_row", "_law_box", "_law_deep", "_law_inner", "_law_slots", "_law_e", "_law_k", "_law_way", "_law_often"] ["_law_row", "_law_box", "_law_deep", "_law_inner"] (defScope st__law_drawn) := ⟨rfl, rfl, rfl, by decide +kernel, rfl, by decide +kernel, by decide +kernel⟩
theorem sc__law_try : FnScope ["_law_row", "_law_box", "_law_deep", "_law_inner", "_law_k", "_law_first", "_law_caught"] ["_law_row", "_law_box", "_law_deep", "_law_inner", "_law_k"] (defScope st__law_try) := ⟨rfl, rfl, rfl, by decide +kernel, rfl, by decide +kernel, by decide +kernel⟩
theorem sc__law_tower : FnScope ["_law_row", "_law_most", "_law_step_here", "_law_sort", "_law_turn", "_law_word", "_law_caught"] ["_law_row", "_law_most"] (defScope st__law_tower) := ⟨rfl, rfl, rfl, by decide +kernel, rfl, by decide +kernel, by decide +kernel⟩
theorem sc__law_program : FnScope ["_law_row", "_law_most", "_law_shapes", "_law_turn", "_law_slots", "_law_found", "_law_number", "_law_box", "_law_deep", "_law_body_here"] ["_law_row", "_law_most"] (defScope st__law_program) := ⟨rfl, rfl, rfl, by decide +kernel, rfl, by decide +kernel, by decide +kernel⟩
theorem sc_Asker___init__ : FnScope ["self", "deeds"] ["self", "deeds"] (defScope st_Asker___init__) := ⟨rfl, rfl, rfl, by decide +kernel, rfl, by decide +kernel, by decide +kernel⟩
theorem sc_Asker_begins : FnScope ["self"] ["self"] (defScope st_Asker_begins) := ⟨rfl, rfl, rfl, by decide +kernel, rfl, by decide +kernel, by decide +kernel⟩
theorem sc_Asker_tell : FnScope ["self", "outcome"] ["self", "outcome"] (defScope st_Asker_tell) := ⟨rfl, rfl, rfl, by decide +kernel, rfl, by decide +kernel, by decide +kernel⟩
theorem sc_Asker_do_the_rest : FnScope ["self", "done", "deed"] ["self"] (defScope st_Asker_do_the_rest) := ⟨rfl, rfl, rfl, by decide +kernel, rfl, by decide +kernel, by decide +kernel⟩
theorem sc_Asker_deed : FnScope ["self"] ["self"] (defScope st_Asker_deed) := ⟨rfl, rfl, rfl, by decide +kernel, rfl, by decide +kernel, by decide +kernel⟩
theorem sc_Asker_see_out : FnScope ["self", "came"] ["self", "came"] (defScope st_Asker_see_out) := ⟨rfl, rfl, rfl, by decide +kernel, rfl, by decide +kernel, by decide +kernel⟩
theorem sc_Walk___init__ : FnScope ["self", "program", "slots", "asker"] ["self", "program", "slots", "asker"] (defScope st_Walk___init__) := ⟨rfl, rfl, rfl, by decide +kernel, rfl, by decide +kernel, by decide +kernel⟩
theorem sc_Asker_say : FnScope ["self", "word"] ["self", "word"] (defScope st_Asker_say) := ⟨rfl, rfl, rfl, by decide +kernel, rfl, by decide +kernel, by decide +kernel⟩
theorem sc_Asker_take : FnScope ["self", "gift"] ["self", "gift"] (defScope st_Asker_take) := ⟨rfl, rfl, rfl, by decide +kernel, rfl, by decide +kernel, by decide +kernel⟩
theorem sc_Walk_keep : FnScope ["self", "k", "n"] ["self", "k", "n"] (defScope st_Walk_keep) := ⟨rfl, rfl, rfl, by decide +kernel, rfl, by decide +kernel, by decide +kernel⟩
theorem sc_Walk_give : FnScope ["self", "gift", "k", "deed"] ["self", "gift", "k"] (defScope st_Walk_give) := ⟨rfl, rfl, rfl, by decide +kernel, rfl, by decide +kernel, by decide +kernel⟩
theorem sc_reckoned_of_two : FnScope ["word", "one", "other"] ["word", "one", "other"] (defScope st_reckoned_of_two) := ⟨rfl, rfl, rfl, by decide +kernel, rfl, by decide +kernel, by decide +kernel⟩
theorem sc_reckoned : FnScope ["e", "slots", "word", "first", "second", "one", "other"] ["e", "slots"] (defScope st_reckoned) := ⟨rfl, rfl, rfl, by decide +kernel, rfl, by decide +kernel, by decide +kernel⟩
theorem sc_Walk_reckon : FnScope ["self", "e"] ["self", "e"] (defScope st_Walk_reckon) := ⟨rfl, rfl, rfl, by decide +kernel, rfl, by decide +kernel, by decide +kernel⟩
theorem sc_walked : FnScope ["program", "work", "numbers", "asker", "params", "slots", "body", "walk", "came"] ["program", "work", "numbers", "asker"] (defScope st_walked) := ⟨rfl, rfl, rfl, by decide +kernel, rfl, by decide +kernel, by decide +kernel⟩
theorem sc_Walk_body : FnScope ["self", "steps", "step", "came"] ["self", "steps"] (defScope st_Walk_body) := ⟨rfl, rfl, rfl, by decide +kernel, rfl, by decide +kernel, by decide +kernel⟩
theorem sc_Walk_outcome : FnScope ["self", "step"] ["self", "step"] (defScope st_Walk_outcome) := ⟨rfl, rfl, rfl, by decide +kernel, rfl, by decide +kernel, by decide +kernel⟩
theorem sc_Walk_step : FnScope ["self", "given", "k", "e", "w", "args", "first", "second", "body", "caught", "last", "arg"] ["self", "given"] (defScope st_Walk_step) := ⟨rfl, rfl, rfl, by decide +kernel, rfl, by decide +kernel, by decide +kernel⟩
theorem sc_Walk_hand : FnScope ["self", "w", "numbers", "k", "came"] ["self", "w", "numbers", "k"] (defScope st_Walk_hand) := ⟨rfl, rfl, rfl, by decide +kernel, rfl, by decide +kernel, by decide +kernel⟩
theorem sc_Walk_go_round : FnScope ["self", "times", "body", "_", "came"] ["self", "times", "body"] (defScope st_Walk_go_round) := ⟨rfl, rfl, rfl, by decide +kernel, rfl, by decide +kernel, by decide +kernel⟩
theorem sc_Walk_attempt : FnScope ["self", "first", "caught", "last", "came", "k", "body", "after"] ["self", "first", "caught", "last"] (defScope st_Walk_attempt) := ⟨rfl, rfl, rfl, by decide +kernel, rfl, by decide +kernel, by decide +kernel⟩
theorem sc_asked : FnScope ["deeds", "gone_through", "asker"] ["deeds", "gone_through"] (defScope st_asked) := ⟨rfl, rfl, rfl, by decide +kernel, rfl, by decide +kernel, by decide +kernel⟩
theorem sc_is_whole : FnScope ["n", "low", "high"] ["n", "low", "high"] (defScope st_is_whole) := ⟨rfl, rfl, rfl, by decide +kernel, rfl, by decide +kernel, by decide +kernel⟩
theorem sc_is_deed : FnScope ["deed", "n"] ["deed"] (defScope st_is_deed) := ⟨rfl, rfl, rfl, by decide +kernel, rfl, by decide +kernel, by decide +kernel⟩
theorem sc_need_work : FnScope ["works", "work"] ["works", "work"] (defScope st_need_work) := ⟨rfl, rfl, rfl, by decide +kernel, rfl, by decide +kernel, by decide +kernel⟩
theorem sc_need_ask : FnScope ["works", "work", "numbers", "deeds", "params", "n", "deed"] ["works", "work", "numbers", "deeds"] (defScope st_need_ask) := ⟨rfl, rfl, rfl, by decide +kernel, rfl, by decide +kernel, by decide +kernel⟩
theorem sc_Look___init__ : FnScope ["self", "program", "number"] ["self", "program", "number"] (defScope st_Look___init__) := ⟨rfl, rfl, rfl, by decide +kernel, rfl, by decide +kernel, by decide +kernel⟩
theorem sc_Look_need : FnScope ["self", "holds"] ["self", "holds"] (defScope st_Look_need) := ⟨rfl, rfl, rfl, by decide +kernel, rfl, by decide +kernel, by decide +kernel⟩
theorem sc_Look_reckoning : FnScope ["self", "e", "around", "n", "k", "first", "second"] ["self", "e", "around"] (defScope st_Look_reckoning) := ⟨rfl, rfl, rfl, by decide +kernel, rfl, by decide +kernel, by decide +kernel⟩
theorem sc_Look_handing : FnScope ["self", "w", "args", "arg"] ["self", "w", "args"] (defScope st_Look_handing) := ⟨rfl, rfl, rfl, by decide +kernel, rfl, by decide +kernel, by decide +kernel⟩
theorem sc_Look_kept : FnScope ["self", "k"] ["self", "k"] (defScope st_Look_kept) := ⟨rfl, rfl, rfl, by decide +kernel, rfl, by decide +kernel, by decide +kernel⟩
theorem sc_Look_body : FnScope ["self", "steps", "around", "in_round", "step"] ["self", "steps", "around", "in_round"] (defScope st_Look_body) := ⟨rfl, rfl, rfl, by decide +kernel, rfl, by decide +kernel, by decide +kernel⟩
theorem sc_Look_step : FnScope ["self", "given", "around", "in_round", "k", "e", "w", "args", "first", "second", "body", "caught", "last"] ["self", "given", "around", "in_round"] (defScope st_Look_step) := ⟨rfl, rfl, rfl, by decide +kernel, rfl, by decide +kernel, by decide +kernel⟩
theorem sc_Look_caught : FnScope ["self", "given", "around", "in_round", "k", "body"] ["self", "given", "around", "in_round"] (defScope st_Look_caught) := ⟨rfl, rfl, rfl, by decide +kernel, rfl, by decide +kernel, by decide +kernel⟩
theorem sc_Look_whole_work : FnScope ["self", "params", "slots", "body"] ["self"] (defScope st_Look_whole_work) := ⟨rfl, rfl, rfl, by decide +kernel, rfl, by decide +kernel, by decide +kernel⟩
theorem sc_need_program : FnScope ["program", "number"] ["program"] (defScope st_need_program) := ⟨rfl, rfl, rfl, by decide +kernel, rfl, by decide +kernel, by decide +kernel⟩
theorem sc_played : FnScope ["program", "work", "numbers", "deeds"] ["program", "work", "numbers", "deeds"] (defScope st_played) := ⟨rfl, rfl, rfl, by decide +kernel, rfl, by decide +kernel, by decide +kernel⟩
theorem sc_law : FnScope ["_law_script", "_law_row", "_law_program_here", "_law_turn", "_law_work", "_law_numbers_here", "_law_deeds_here", "_law_due_here", "_law_handed_here", "_law_found"] ["_law_script"] (defScope st_law) := ⟨rfl, rfl, rfl, by decide +kernel, rfl, by decide +kernel, by decide +kernel⟩
def tb (tt : List (Addr × Str)) : Tb where
  wds := wds0
  cls := cls0
  flds := flds0
  exn := exn0
  exf := fun _ => []
  tabs := tt
theorem tb_nd {tt : List (Addr × Str)} : (tb tt).wds.Nodup := wds_nd
structure Fx (K : PySem.W.Frag) (mg : Str → Option Value) (base : Heap) (tt : List (Addr × Str)) (ad ac ae : Nat → Addr) : Prop where
  c_MOST : ∃ t, mg "MOST" = some (.int 999 t)
  c_MOST_AROUND_RECKONING : ∃ t, mg "MOST_AROUND_RECKONING" = some (.int 3 t)
  c_MOST_AROUND_STEP : ∃ t, mg "MOST_AROUND_STEP" = some (.int 6 t)
  c_MOST_PARAMS : ∃ t, mg "MOST_PARAMS" = some (.int 2 t)
  c_MOST_SLOTS : ∃ t, mg "MOST_SLOTS" = some (.int 4 t)
  c_MOST_STEPS : ∃ t, mg "MOST_STEPS" = some (.int 40 t)
  c_MOST_WORKS : ∃ t, mg "MOST_WORKS" = some (.int 4 t)
  c_WRAP : ∃ t, mg "WRAP" = some (.int 1000 t)
  z_bool : mg "bool" = none
  z_int : mg "int" = none
  z_isinstance : mg "isinstance" = none
  z_len : mg "len" = none
  z_list : mg "list" = none
  z_min : mg "min" = none
  z_range : mg "range" = none
  z_str : mg "str" = none
  z_tuple : mg "tuple" = none
  g__law_alike : mg "_law_alike" = some (.ref (ad 0))
  f__law_alike : ∃ fd, Fun K "_law_alike" "_law_alike" st__law_alike (ad 0) fd
  g__law_taken : mg "_law_taken" = some (.ref (ad 1))
  f__law_taken : ∃ fd, Fun K "_law_taken" "_law_taken" st__law_taken (ad 1) fd
  g__law_deeds : mg "_law_deeds" = some (.ref (ad 2))
  f__law_deeds : ∃ fd, Fun K "_law_deeds" "_law_deeds" st__law_deeds (ad 2) fd
  g__law_tell : mg "_law_tell" = some (.ref (ad 3))
  f__law_tell : ∃ fd, Fun K "_law_tell" "_law_tell" st__law_tell (ad 3) fd
  g__law_closed : mg "_law_closed" = some (.ref (ad 4))
  f__law_closed : ∃ fd, Fun K "_law_closed" "_law_closed" st__law_closed (ad 4) fd
  g__law_gift : mg "_law_gift" = some (.ref (ad 5))
  f__law_gift : ∃ fd, Fun K "_law_gift" "_law_gift" st__law_gift (ad 5) fd
  g__law_given : mg "_law_given" = some (.ref (ad 6))
  f__law_given : ∃ fd, Fun K "_law_given" "_law_given" st__law_given (ad 6) fd
  g__law_reckoned : mg "_law_reckoned" = some (.ref (ad 7))
  f__law_reckoned : ∃ fd, Fun K "_law_reckoned" "_law_reckoned" st__law_reckoned (ad 7) fd
  g__law_walk : mg "_law_walk" = some (.ref (ad 8))
  f__law_walk : ∃ fd, Fun K "_law_walk" "_law_walk" st__law_walk (ad 8) fd
  g__law_step : mg "_law_step" = some (.ref (ad 9))
  f__law_step : ∃ fd, Fun K "_law_step" "_law_step" st__law_step (ad 9) fd
  g__law_rounds : mg "_law_rounds" = some (.ref (ad 10))
  f__law_rounds : ∃ fd, Fun K "_law_rounds" "_law_rounds" st__law_rounds (ad 10) fd
  g__law_handed : mg "_law_handed" = some (.ref (ad 11))
  f__law_handed : ∃ fd, Fun K "_law_handed" "_law_handed" st__law_handed (ad 11) fd
  g__law_tried : mg "_law_tried" = some (.ref (ad 12))
  f__law_tried : ∃ fd, Fun K "_law_tried" "_law_tried" st__law_tried (ad 12) fd
  g__law_due : mg "_law_due" = some (.ref (ad 13))
  f__law_due : ∃ fd, Fun K "_law_due" "_law_due" st__law_due (ad 13) fd
  g__law_numbers : mg "_law_numbers" = some (.ref (ad 14))
  f__law_numbers : ∃ fd, Fun K "_law_numbers" "_law_numbers" st__law_numbers (ad 14) fd
  g__law_reckoning : mg "_law_reckoning" = some (.ref (ad 15))
  f__law_reckoning : ∃ fd, Fun K "_law_reckoning" "_law_reckoning" st__law_reckoning (ad 15) fd
  g__law_lent : mg "_law_lent" = some (.ref (ad 16))
  f__law_lent : ∃ fd, Fun K "_law_lent" "_law_lent" st__law_lent (ad 16) fd
  g__law_body : mg "_law_body" = some (.ref (ad 17))
  f__law_body : ∃ fd, Fun K "_law_body" "_law_body" st__law_body (ad 17) fd
  g__law_drawn : mg "_law_drawn" = some (.ref (ad 18))
  f__law_drawn : ∃ fd, Fun K "_law_drawn" "_law_drawn" st__law_drawn (ad 18) fd
  g__law_try : mg "_law_try" = some (.ref (ad 19))
  f__law_try : ∃ fd, Fun K "_law_try" "_law_try" st__law_try (ad 19) fd
  g__law_tower : mg "_law_tower" = some (.ref (ad 20))
  f__law_tower : ∃ fd, Fun K "_law_tower" "_law_tower" st__law_tower (ad 20) fd
  g__law_program : mg "_law_program" = some (.ref (ad 21))
  f__law_program : ∃ fd, Fun K "_law_program" "_law_program" st__law_program (ad 21) fd
  f_Asker___init__ : ∃ fd, Fun K "__init__" "Asker.__init__" st_Asker___init__ (ad 22) fd
  f_Asker_begins : ∃ fd, Fun K "begins" "Asker.begins" st_Asker_begins (ad 23) fd
  f_Asker_tell : ∃ fd, Fun K "tell" "Asker.tell" st_Asker_tell (ad 24) fd
  f_Asker_do_the_rest : ∃ fd, Fun K "do_the_rest" "Asker.do_the_rest" st_Asker_do_the_rest (ad 25) fd
  f_Asker_deed : ∃ fd, Fun K "deed" "Asker.deed" st_Asker_deed (ad 26) fd
  f_Asker_see_out : ∃ fd, Fun K "see_out" "Asker.see_out" st_Asker_see_out (ad 27) fd
  f_Walk___init__ : ∃ fd, Fun K "__init__" "Walk.__init__" st_Walk___init__ (ad 28) fd
  f_Asker_say : ∃ fd, Fun K "say" "Asker.say" st_Asker_say (ad 29) fd
  f_Asker_take : ∃ fd, Fun K "take" "Asker.take" st_Asker_take (ad 30) fd
  f_Walk_keep : ∃ fd, Fun K "keep" "Walk.keep" st_Walk_keep (ad 31) fd
  f_Walk_give : ∃ fd, Fun K "give" "Walk.give" st_Walk_give (ad 32) fd
  g_reckoned_of_two : mg "reckoned_of_two" = some (.ref (ad 33))
  f_reckoned_of_two : ∃ fd, Fun K "reckoned_of_two" "reckoned_of_two" st_reckoned_of_two (ad 33) fd
  g_reckoned : mg "reckoned" = some (.ref (ad 34))
  f_reckoned : ∃ fd, Fun K "reckoned" "reckoned" st_reckoned (ad 34) fd
  f_Walk_reckon : ∃ fd, Fun K "reckon" "Walk.reckon" st_Walk_reckon (ad 35) fd
  g_walked : mg "walked" = some (.ref (ad 36))
  f_walked : ∃ fd, Fun K "walked" "walked" st_walked (ad 36) fd
  f_Walk_body : ∃ fd, Fun K "body" "Walk.body" st_Walk_body (ad 37) fd
  f_Walk_outcome : ∃ fd, Fun K "outcome" "Walk.outcome" st_Walk_outcome (ad 38) fd
  f_Walk_step : ∃ fd, Fun K "step" "Walk.step" st_Walk_step (ad 39) fd
  f_Walk_hand : ∃ fd, Fun K "hand" "Walk.hand" st_Walk_hand (ad 40) fd
  f_Walk_go_round : ∃ fd, Fun K "go_round" "Walk.go_round" st_Walk_go_round (ad 41) fd
  f_Walk_attempt : ∃ fd, Fun K "attempt" "Walk.attempt" st_Walk_attempt (ad 42) fd
  g_asked : mg "asked" = some (.ref (ad 43))
  f_asked : ∃ fd, Fun K "asked" "asked" st_asked (ad 43) fd
  g_is_whole : mg "is_whole" = some (.ref (ad 44))
  f_is_whole : ∃ fd, Fun K "is_whole" "is_whole" st_is_whole (ad 44) fd
  g_is_deed : mg "is_deed" = some (.ref (ad 45))
  f_is_deed : ∃ fd, Fun K "is_deed" "is_deed" st_is_deed (ad 45) fd
  g_need_work : mg "need_work" = some (.ref (ad 46))
  f_need_work : ∃ fd, Fun K "need_work" "need_work" st_need_work (ad 46) fd
  g_need_ask : mg "need_ask" = some (.ref (ad 47))
  f_need_ask : ∃ fd, Fun K "need_ask" "need_ask" st_need_ask (ad 47) fd
  f_Look___init__ : ∃ fd, Fun K "__init__" "Look.__init__" st_Look___init__ (ad 48) fd
  f_Look_need : ∃ fd, Fun K "need" "Look.need" st_Look_need (ad 49) fd
  f_Look_reckoning : ∃ fd, Fun K "reckoning" "Look.reckoning" st_Look_reckoning (ad 50) fd
  f_Look_handing : ∃ fd, Fun K "handing" "Look.handing" st_Look_handing (ad 51) fd
  f_Look_kept : ∃ fd, Fun K "kept" "Look.kept" st_Look_kept (ad 52) fd
  f_Look_body : ∃ fd, Fun K "body" "Look.body" st_Look_body (ad 53) fd
  f_Look_step : ∃ fd, Fun K "step" "Look.step" st_Look_step (ad 54) fd
  f_Look_caught : ∃ fd, Fun K "caught" "Look.caught" st_Look_caught (ad 55) fd
  f_Look_whole_work : ∃ fd, Fun K "whole_work" "Look.whole_work" st_Look_whole_work (ad 56) fd
  g_need_program : mg "need_program" = some (.ref (ad 57))
  f_need_program : ∃ fd, Fun K "need_program" "need_program" st_need_program (ad 57) fd
  g_played : mg "played" = some (.ref (ad 58))
  f_played : ∃ fd, Fun K "played" "played" st_played (ad 58) fd
  g_law : mg "law" = some (.ref (ad 59))
  f_law : ∃ fd, Fun K "law" "law" st_law (ad 59) fd
  t_played : TabOf K base mg (tb tt) (ad 58) (("played" ++ ".<locals>.") ++ "<lambda>")
  gc_Asker : mg "Asker" = some (.ref (ac 0))
  cl_Asker : Cls K (ac 0)
  na_Asker_deeds : NoAttr K (ac 0) "deeds"
  na_Asker_told : NoAttr K (ac 0) "told"
  na_Asker_words : NoAttr K (ac 0) "words"
  mk_Asker : Mk K (ac 0) (ad 22)
  me_Asker_begins : Meth K (ac 0) "begins" (ad 23)
  me_Asker_tell : Meth K (ac 0) "tell" (ad 24)
  me_Asker_do_the_rest : Meth K (ac 0) "do_the_rest" (ad 25)
  me_Asker_deed : Meth K (ac 0) "deed" (ad 26)
  me_Asker_see_out : Meth K (ac 0) "see_out" (ad 27)
  me_Asker_say : Meth K (ac 0) "say" (ad 29)
  me_Asker_take : Meth K (ac 0) "take" (ad 30)
  gc_Walk : mg "Walk" = some (.ref (ac 1))
  cl_Walk : Cls K (ac 1)
  na_Walk_program : NoAttr K (ac 1) "program"
  na_Walk_slots : NoAttr K (ac 1) "slots"
  na_Walk_asker : NoAttr K (ac 1) "asker"
  mk_Walk : Mk K (ac 1) (ad 28)
  me_Walk_keep : Meth K (ac 1) "keep" (ad 31)
  me_Walk_give : Meth K (ac 1) "give" (ad 32)
  me_Walk_reckon : Meth K (ac 1) "reckon" (ad 35)
  me_Walk_body : Meth K (ac 1) "body" (ad 37)
  me_Walk_outcome : Meth K (ac 1) "outcome" (ad 38)
  me_Walk_step : Meth K (ac 1) "step" (ad 39)
  me_Walk_hand : Meth K (ac 1) "hand" (ad 40)
  me_Walk_go_round : Meth K (ac 1) "go_round" (ad 41)
  me_Walk_attempt : Meth K (ac 1) "attempt" (ad 42)
  gc_Look : mg "Look" = some (.ref (ac 2))
  cl_Look : Cls K (ac 2)
  na_Look_program : NoAttr K (ac 2) "program"
  na_Look_number : NoAttr K (ac 2) "number"
  na_Look_slots : NoAttr K (ac 2) "slots"
  na_Look_many : NoAttr K (ac 2) "many"
  mk_Look : Mk K (ac 2) (ad 48)
  me_Look_need : Meth K (ac 2) "need" (ad 49)
  me_Look_reckoning : Meth K (ac 2) "reckoning" (ad 50)
  me_Look_handing : Meth K (ac 2) "handing" (ad 51)
  me_Look_kept : Meth K (ac 2) "kept" (ad 52)
  me_Look_body : Meth K (ac 2) "body" (ad 53)
  me_Look_step : Meth K (ac 2) "step" (ad 54)
  me_Look_caught : Meth K (ac 2) "caught" (ad 55)
  me_Look_whole_work : Meth K (ac 2) "whole_work" (ad 56)
  ge_NoPart : mg "NoPart" = some (.ref (ae 0))
  xx_NoPart : PySem.W.excIn K (ae 0) [.type "Exception", .type "BaseException", .type "object"] "Exception.__new__" = true ∧ PySem.W.keepIn K (.ref (ae 0)) = true ∧ PySem.W.subIn K (.ref (ae 0)) (.type "BaseException") = some true ∧ PySem.W.typeIn K (.ref (ae 0)) = some (.type "type")
  ge_Over : mg "Over" = some (.ref (ae 1))
  xx_Over : PySem.W.excIn K (ae 1) [.type "Exception", .type "BaseException", .type "object"] "Exception.__new__" = true ∧ PySem.W.keepIn K (.ref (ae 1)) = true ∧ PySem.W.subIn K (.ref (ae 1)) (.type "BaseException") = some true ∧ PySem.W.typeIn K (.ref (ae 1)) = some (.type "type")
  eh_NoPart_NoPart : PySem.W.exmOne K (.ref (ae 0)) (.ref (ae 0)) = some true
  eh_Over_NoPart : PySem.W.exmOne K (.ref (ae 1)) (.ref (ae 0)) = some false
  eh_NoPart_Over : PySem.W.exmOne K (.ref (ae 0)) (.ref (ae 1)) = some false
  eh_Over_Over : PySem.W.exmOne K (.ref (ae 1)) (.ref (ae 1)) = some true
section
variable {P : Program} {w : World} {K : PySem.W.Frag} {mg : Str → Option Value} {base : Heap} {tt : List (Addr × Str)} {ad ac ae : Nat → Addr}
theorem Fx.d_Asker_deeds (Z : Fx K mg base tt ad ac ae) : Fd K mg (tb tt) 0 0 "deeds" := ⟨rfl, (by decide +kernel : (flds0 0).Nodup), (by decide +kernel : (flds0 0).length < 900), ac 0, Z.gc_Asker, Z.cl_Asker, Z.na_Asker_deeds⟩
theorem Fx.d_Asker_told (Z : Fx K mg base tt ad ac ae) : Fd K mg (tb tt) 0 1 "told" := ⟨rfl, (by decide +kernel : (flds0 0).Nodup), (by decide +kernel : (flds0 0).length < 900), ac 0, Z.gc_Asker, Z.cl_Asker, Z.na_Asker_told⟩
theorem Fx.d_Asker_words (Z : Fx K mg base tt ad ac ae) : Fd K mg (tb tt) 0 2 "words" := ⟨rfl, (by decide +kernel : (flds0 0).Nodup), (by decide +kernel : (flds0 0).length < 900), ac 0, Z.gc_Asker, Z.cl_Asker, Z.na_Asker_words⟩
theorem Fx.d_Walk_program (Z : Fx K mg base tt ad ac ae) : Fd K mg (tb tt) 1 0 "program" := ⟨rfl, (by decide +kernel : (flds0 1).Nodup), (by decide +kernel : (flds0 1).length < 900), ac 1, Z.gc_Walk, Z.cl_Walk, Z.na_Walk_program⟩
theorem Fx.d_Walk_slots (Z : Fx K mg base tt ad ac ae) : Fd K mg (tb tt) 1 1 "slots" := ⟨rfl, (by decide +kernel : (flds0 1).Nodup), (by decide +kernel : (flds0 1).length < 900), ac 1, Z.gc_Walk, Z.cl_Walk, Z.na_Walk_slots⟩
theorem Fx.d_Walk_asker (Z : Fx K mg base tt ad ac ae) : Fd K mg (tb tt) 1 2 "asker" := ⟨rfl, (by decide +kernel : (flds0 1).Nodup), (by decide +kernel : (flds0 1).length < 900), ac 1, Z.gc_Walk, Z.cl_Walk, Z.na_Walk_asker⟩
theorem Fx.d_Look_program (Z : Fx K mg base tt ad ac ae) : Fd K mg (tb tt) 2 0 "program" := ⟨rfl, (by decide +kernel : (flds0 2).Nodup), (by decide +kernel : (flds0 2).length < 900), ac 2, Z.gc_Look, Z.cl_Look, Z.na_Look_program⟩
theorem Fx.d_Look_number (Z : Fx K mg base tt ad ac ae) : Fd K mg (tb tt) 2 1 "number" := ⟨rfl, (by decide +kernel : (flds0 2).Nodup), (by decide +kernel : (flds0 2).length < 900), ac 2, Z.gc_Look, Z.cl_Look, Z.na_Look_number⟩
theorem Fx.d_Look_slots (Z : Fx K mg base tt ad ac ae) : Fd K mg (tb tt) 2 2 "slots" := ⟨rfl, (by decide +kernel : (flds0 2).Nodup), (by decide +kernel : (flds0 2).length < 900), ac 2, Z.gc_Look, Z.cl_Look, Z.na_Look_slots⟩
theorem Fx.d_Look_many (Z : Fx K mg base tt ad ac ae) : Fd K mg (tb tt) 2 3 "many" := ⟨rfl, (by decide +kernel : (flds0 2).Nodup), (by decide +kernel : (flds0 2).length < 900), ac 2, Z.gc_Look, Z.cl_Look, Z.na_Look_many⟩
theorem Fx.x_NoPart (Z : Fx K mg base tt ad ac ae) : Xc K mg (tb tt) 0 [.type "Exception", .type "BaseException", .type "object"] "Exception.__new__" := ⟨ae 0, Z.ge_NoPart, Z.xx_NoPart⟩
theorem Fx.x_Over (Z : Fx K mg base tt ad ac ae) : Xc K mg (tb tt) 1 [.type "Exception", .type "BaseException", .type "object"] "Exception.__new__" := ⟨ae 1, Z.ge_Over, Z.xx_Over⟩
theorem Fx.h_NoPart (Z : Fx K mg base tt ad ac ae) : Hand K mg (tb tt) (.ref (ae 0)) sub_NoPart := fun y C h => by
  cases y with
  | zero =>
    have h' : mg "NoPart" = some (.ref C) := h
    rw [Z.ge_NoPart] at h'; cases h'; exact Z.eh_NoPart_NoPart
  | succ y =>
    have h' : mg "Over" = some (.ref C) := h
    rw [Z.ge_Over] at h'; cases h'; exact Z.eh_Over_NoPart
theorem Fx.h_Over (Z : Fx K mg base tt ad ac ae) : Hand K mg (tb tt) (.ref (ae 1)) sub_Over := fun y C h => by
  cases y with
  | zero =>
    have h' : mg "NoPart" = some (.ref C) := h
    rw [Z.ge_NoPart] at h'; cases h'; exact Z.eh_NoPart_Over
  | succ y =>
    have h' : mg "Over" = some (.ref C) := h
    rw [Z.ge_Over] at h'; cases h'; exact Z.eh_Over_Over
structure Ih_ga2 (P : Program) (w : World) (K : PySem.W.Frag) (mg : Str → Option Value) (base : Heap) (tt : List (Addr × Str)) (ad ac ae : Nat → Addr) (l : Nat) (rec : Nat → List D → M → R D) : Prop where
  i__law_alike : Df P w K mg base (tb tt) "_law_alike" l 2 (rec 0)
theorem ok__law_alike (Z : Fx K mg base tt ad ac ae) {fd : FuncData} {n : Nat} {rec : Nat → List D → M → R D} (Fu : Fun K "_law_alike" "_law_alike" st__law_alike (ad 0) fd) (ih : Ih_ga2 P w K mg base tt ad ac ae (1 + n) rec) : Fn P w K mg base (tb tt) (1 + n + 1) (ad 0) 2 (mkF 2 3 (b__law_alike_v2 rec)) :=
  fn_mk (k := 1 + n) (g := b__law_alike_v2 rec) Fu sc__law_alike (Fu.binds fun _ _ _ _ _ _ us hl => match us, hl with | [_, _], _ => rfl) fun cdv A outer s H E hr =>
    (iss_cons (is_if (it_w (iw_or (it_val (ie_callB c_isi Z.z_isinstance (by decide +kernel) (ia_cons (ie_var (pv 1)) (ia_cons (ie_ty (t := .tuple) Z.z_tuple (by decide +kernel)) ia_nil)))) (iw_or1 (it_val (ie_callB c_isi Z.z_isinstance (by decide +kernel) (ia_cons (ie_var (pv 1)) (ia_cons (ie_ty (t := .list) Z.z_list (by decide +kernel)) ia_nil))))))) (iss_cons (is_if (it_w (iw_or (it_cmp (o_ne tb_nd) (ie_callB c_isi Z.z_isinstance (by decide +kernel) (ia_cons (ie_var (pv 0)) (ia_cons (ie_ty (t := .tuple) Z.z_tuple (by decide +kernel)) ia_nil))) (ie_callB c_isi Z.z_isinstance (by decide +kernel) (ia_cons (ie_var (pv 1)) (ia_cons (ie_ty (t := .tuple) Z.z_tuple (by decide +kernel)) ia_nil))) (nomark _)) (iw_or1 (it_not (it_val (ie_isi2 Z.z_isinstance (ie_var (pv 0)) (ia_cons (ie_ty (t := .tuple) Z.z_tuple (by decide +kernel)) (ia_cons (ie_ty (t := .list) Z.z_list (by decide +kernel)) ia_nil)))))))) (iss_one (is_ret ie_bl)) iss_nil) (iss_cons (is_if (it_cmp (o_ne tb_nd) (ie_callB c_len Z.z_len PySem.boot_len (ia_cons (ie_var (pv 0)) ia_nil)) (ie_callB c_len Z.z_len PySem.boot_len (ia_cons (ie_var (pv 1)) ia_nil)) (nomark _)) (iss_one (is_ret ie_bl)) iss_nil) (iss_one (is_ret (ie_nil hr.units (il_lc (i := 2) rfl sc__law_alike.nd (ii_range Z.z_range (ie_callB c_len Z.z_len PySem.boot_len (ia_cons (ie_var (pv 1)) ia_nil))) (blkOk_by (N := ["_law_found", "_law_due_here", "_law_k"]) (sc := defScope st__law_alike) (by decide +kernel)) (fun _ _ _ _ _ => pg_name (i := 2) sc__law_alike.nd rfl (Or.inl rfl)) (fun _ _ _ _ _ => (its_one (it_not (it_val (ie_call (ih.i__law_alike) (hr.mono (by omega)) (ia_cons (ie_ix (ie_var (pv 0)) (ie_var (pv 2))) (ia_cons (ie_ix (ie_var (pv 1)) (ie_var (pv 2))) ia_nil))))))) (fun _ _ _ _ _ => (ie_var (pv 2))))))))) iss_nil) (iss_cons (is_if (it_w (iw_or (it_cmp o_is (ie_var (pv 1)) ie_non (nomark _)) (iw_or1 (it_cmp o_is (ie_var (pv 0)) ie_non (nomark _))))) (iss_one (is_ret (ie_and (ie_cmp o_is (ie_var (pv 1)) ie_non (nomark _)) (ie_one (ie_cmp o_is (ie_var (pv 0)) ie_non (nomark _)))))) iss_nil) (iss_cons (is_if (it_w (iw_or (it_val (ie_callB c_isi Z.z_isinstance (by decide +kernel) (ia_cons (ie_var (pv 1)) (ia_cons (ie_ty (t := .bool) Z.z_bool (by decide +kernel)) ia_nil)))) (iw_or1 (it_val (ie_callB c_isi Z.z_isinstance (by decide +kernel) (ia_cons (ie_var (pv 0)) (ia_cons (ie_ty (t := .bool) Z.z_bool (by decide +kernel)) ia_nil))))))) (iss_one (is_ret (ie_and (ie_callB c_isi Z.z_isinstance (by decide +kernel) (ia_cons (ie_var (pv 1)) (ia_cons (ie_ty (t := .bool) Z.z_bool (by decide +kernel)) ia_nil))) (ie_and (ie_callB c_isi Z.z_isinstance (by decide +kernel) (ia_cons (ie_var (pv 0)) (ia_cons (ie_ty (t := .bool) Z.z_bool (by decide +kernel)) ia_nil))) (ie_one (ie_cmp (o_eq tb_nd) (ie_var (pv 0)) (ie_var (pv 1)) (nomark _))))))) iss_nil) (iss_cons (is_if (it_val (ie_callB c_isi Z.z_isinstance (by decide +kernel) (ia_cons (ie_var (pv 1)) (ia_cons (ie_ty (t := .str) Z.z_str (by decide +kernel)) ia_nil)))) (iss_one (is_ret (ie_and (ie_callB c_isi Z.z_isinstance (by decide +kernel) (ia_cons (ie_var (pv 0)) (ia_cons (ie_ty (t := .str) Z.z_str (by decide +kernel)) ia_nil))) (ie_one (ie_cmp (o_eq tb_nd) (ie_var (pv 0)) (ie_var (pv 1)) (nomark _)))))) iss_nil) (iss_one (is_ret (ie_and (ie_callB c_isi Z.z_isinstance (by decide +kernel) (ia_cons (ie_var (pv 0)) (ia_cons (ie_ty (t := .int) Z.z_int (by decide +kernel)) ia_nil))) (ie_one (ie_cmp (o_eq tb_nd) (ie_var (pv 0)) (ie_var (pv 1)) (nomark _))))))))))
theorem df_ga2 (Z : Fx K mg base tt ad ac ae) : ∀ n, Ih_ga2 P w K mg base tt ad ac ae (1 + n) (m_ga2 n)
  | 0 => by
    obtain ⟨fd__law_alike, F__law_alike⟩ := Z.f__law_alike
    exact ⟨⟨ad 0, Z.g__law_alike, F__law_alike.kp, fn_bad (k := 0) F__law_alike sc__law_alike (F__law_alike.binds fun _ _ _ _ _ _ us hl => match us, hl with | [_, _], _ => rfl)⟩⟩
  | n + 1 => by
    have ih := df_ga2 Z n
    obtain ⟨fd__law_alike, F__law_alike⟩ := Z.f__law_alike
    exact ⟨⟨ad 0, Z.g__law_alike, F__law_alike.kp, ok__law_alike Z F__law_alike ih⟩⟩
theorem ok__law_taken (Z : Fx K mg base tt ad ac ae) {fd : FuncData} (Fu : Fun K "_law_taken" "_law_taken" st__law_taken (ad 1) fd) : Fn P w K mg base (tb tt) 1 (ad 1) 2 m__law_taken :=
  fn_mk (k := 0) (g := b__law_taken) Fu sc__law_taken (Fu.binds fun _ _ _ _ _ _ us hl => match us, hl with | [_, _], _ => rfl) fun cdv A outer s H E hr =>
    (iss_cons (is_if (it_cmp o_gt (ie_ix (ie_var (pv 0)) ie_int) ie_int (nomark _)) (iss_cons (is_set (i := 2) sc__law_taken.nd (ie_op o_mod (ie_ix (ie_var (pv 0)) ie_int) (ie_var (pv 1)))) (iss_cons (is_asg (ie_op o_div (ie_ix (ie_var (pv 0)) ie_int) (ie_var (pv 1))) (ig_sub (ie_var (pv 0)) ie_int)) (iss_one (is_ret (ie_var (pv 2)))))) iss_nil) (iss_cons (is_asg (ie_op o_add (ie_ix (ie_var (pv 0)) ie_int) ie_int) (ig_sub (ie_var (pv 0)) ie_int)) (iss_cons (is_if (it_cmp o_gt (ie_ix (ie_var (pv 0)) ie_int) (ie_callB c_len Z.z_len PySem.boot_len (ia_cons (ie_ix (ie_var (pv 0)) ie_int) ia_nil)) (nomark _)) (iss_cons (is_asg (ie_op o_mod (ie_op o_add (ie_op o_mul (ie_ix (ie_var (pv 0)) ie_int) ie_int) ie_int) ie_int) (ig_sub (ie_var (pv 0)) ie_int)) (iss_one (is_ret (ie_op o_mod (ie_op o_div (ie_ix (ie_var (pv 0)) ie_int) ie_int) (ie_var (pv 1)))))) iss_nil) (iss_cons (is_set (i := 3) sc__law_taken.nd (ie_ix (ie_ix (ie_var (pv 0)) ie_int) (ie_op o_sub (ie_ix (ie_var (pv 0)) ie_int) ie_int))) (iss_cons (is_asg (ie_op o_mod (ie_op o_add (ie_op o_add (ie_op o_mul (ie_ix (ie_var (pv 0)) ie_int) ie_int) (ie_var (pv 3))) ie_int) ie_int) (ig_sub (ie_var (pv 0)) ie_int)) (iss_cons (is_if (it_cmp o_ge (ie_var (pv 3)) (ie_op o_pow ie_int ie_int) (nomark _)) (iss_one (is_asg (ie_op o_div (ie_var (pv 3)) (ie_var (pv 1))) (ig_sub (ie_var (pv 0)) ie_int))) iss_nil) (iss_one (is_ret (ie_op o_mod (ie_var (pv 3)) (ie_var (pv 1)))))))))))
theorem df__law_taken (Z : Fx K mg base tt ad ac ae) : Df P w K mg base (tb tt) "_law_taken" 1 2 m__law_taken := let ⟨_, Fu⟩ := Z.f__law_taken; ⟨ad 1, Z.g__law_taken, Fu.kp, ok__law_taken Z Fu⟩
theorem ok__law_deeds (Z : Fx K mg base tt ad ac ae) {fd : FuncData} (Fu : Fun K "_law_deeds" "_law_deeds" st__law_deeds (ad 2) fd) : Fn P w K mg base (tb tt) 2 (ad 2) 2 m__law_deeds :=
  fn_mk (k := 1) (g := b__law_deeds) Fu sc__law_deeds (Fu.binds fun _ _ _ _ _ _ us hl => match us, hl with | [_, _], _ => rfl) fun cdv A outer s H E hr =>
    (iss_cons (is_set (i := 2) sc__law_deeds.nd (ie_new (il_lst ia_nil))) (iss_cons (is_for (passes_of rfl) rfl (ii_range Z.z_range (ie_call (df__law_taken Z) (hr.mono (by omega)) (ia_cons (ie_var (pv 0)) (ia_cons (ie_op o_add (ie_var (pv 1)) ie_int) ia_nil)))) (ig_name (i := 3) sc__law_deeds.nd) (iss_cons (is_set (i := 4) sc__law_deeds.nd (ie_call (df__law_taken Z) (hr.mono (by omega)) (ia_cons (ie_var (pv 0)) (ia_cons (ie_ixL (il_lst (ia_cons ie_int (ia_cons ie_int ia_nil))) (ie_call (df__law_taken Z) (hr.mono (by omega)) (ia_cons (ie_var (pv 0)) (ia_cons ie_int ia_nil)))) ia_nil)))) (iss_cons (is_set (i := 5) sc__law_deeds.nd (ie_call (df__law_taken Z) (hr.mono (by omega)) (ia_cons (ie_var (pv 0)) (ia_cons (ie_ixL (il_lst (ia_cons ie_int (ia_cons ie_int ia_nil))) (ie_callTy c_int Z.z_int (by decide +kernel) (ia_cons (ie_cmp o_gt (ie_var (pv 3)) ie_int (nomark _)) ia_nil))) ia_nil)))) (iss_one (is_expr (ie_app (ie_var (pv 2)) (ie_ixL (il_lst (ia_cons (ie_tup (ia_cons (ie_wd 0) (ia_cons (ie_var (pv 4)) ia_nil))) (ia_cons (ie_tup (ia_cons (ie_wd 1) (ia_cons (ie_var (pv 4)) ia_nil))) (ia_cons (ie_tup (ia_cons (ie_wd 2) ia_nil)) ia_nil)))) (ie_op o_mul (ie_op o_mul (ie_callTy c_int Z.z_int (by decide +kernel) (ia_cons (ie_cmp o_gt (ie_var (pv 5)) ie_int (nomark _)) ia_nil)) (ie_callTy c_int Z.z_int (by decide +kernel) (ia_cons (ie_cmp o_lt (ie_var (pv 5)) ie_int (nomark _)) ia_nil))) (ie_op o_add ie_int (ie_op o_div (ie_var (pv 5)) ie_int)))))))))) (iss_one (is_ret (ie_var (pv 2))))))
theorem df__law_deeds (Z : Fx K mg base tt ad ac ae) : Df P w K mg base (tb tt) "_law_deeds" 2 2 m__law_deeds := let ⟨_, Fu⟩ := Z.f__law_deeds; ⟨ad 2, Z.g__law_deeds, Fu.kp, ok__law_deeds Z Fu⟩
theorem ok__law_tell (Z : Fx K mg base tt ad ac ae) {fd : FuncData} (Fu : Fun K "_law_tell" "_law_tell" st__law_tell (ad 3) fd) : Fn P w K mg base (tb tt) 1 (ad 3) 2 m__law_tell :=
  fn_mk (k := 0) (g := b__law_tell) Fu sc__law_tell (Fu.binds fun _ _ _ _ _ _ us hl => match us, hl with | [_, _], _ => rfl) fun cdv A outer s H E hr =>
    (iss_cons (is_expr (ie_app (ie_dget 24 (hu_of hr) (ie_var (pv 0))) (ie_tup (ia_cons (ie_callTy c_tuple Z.z_tuple (by decide +kernel) (ia_cons (ie_dget 25 (hu_of hr) (ie_var (pv 0))) ia_nil)) (ia_cons (ie_var (pv 1)) ia_nil))))) (iss_one (is_dput 25 tb_nd (hu_of hr) (ie_var (pv 0)) (ie_new (il_lst ia_nil)))))
theorem df__law_tell (Z : Fx K mg base tt ad ac ae) : Df P w K mg base (tb tt) "_law_tell" 1 2 m__law_tell := let ⟨_, Fu⟩ := Z.f__law_tell; ⟨ad 3, Z.g__law_tell, Fu.kp, ok__law_tell Z Fu⟩
theorem ok__law_closed (Z : Fx K mg base tt ad ac ae) {fd : FuncData} (Fu : Fun K "_law_closed" "_law_closed" st__law_closed (ad 4) fd) : Fn P w K mg base (tb tt) 2 (ad 4) 2 m__law_closed :=
  fn_mk (k := 1) (g := b__law_closed) Fu sc__law_closed (Fu.binds fun _ _ _ _ _ _ us hl => match us, hl with | [_, _], _ => rfl) fun cdv A outer s H E hr =>
    (iss_cons (is_if (it_cmp (o_ne tb_nd) (ie_ix (ie_var (pv 1)) ie_int) (ie_wd 27) (nomark _)) (iss_cons (is_set (i := 2) sc__law_closed.nd (ie_cmp (o_eq tb_nd) (ie_ix (ie_ix (ie_dget 26 (hu_of hr) (ie_var (pv 0))) (ie_callB c_len Z.z_len PySem.boot_len (ia_cons (ie_dget 24 (hu_of hr) (ie_var (pv 0))) ia_nil))) ie_int) (ie_wd 2) (nomark _))) (iss_one (is_expr (ie_call (df__law_tell Z) (hr.mono (by omega)) (ia_cons (ie_var (pv 0)) (ia_cons (ie_ixL (il_lst (ia_cons (ie_var (pv 1)) (ia_cons (ie_tup (ia_cons (ie_wd 2) ia_nil)) ia_nil))) (ie_callTy c_int Z.z_int (by decide +kernel) (ia_cons (ie_and (ie_cmp (o_eq tb_nd) (ie_ix (ie_var (pv 1)) ie_int) (ie_wd 5) (nomark _)) (ie_one (ie_var (pv 2)))) ia_nil))) ia_nil)))))) iss_nil) (iss_cons (is_set (i := 3) sc__law_closed.nd (ie_dget 24 (hu_of hr) (ie_var (pv 0)))) (iss_cons (is_for (passes_of rfl) rfl (ii_new (il_cut (ie_dget 26 (hu_of hr) (ie_var (pv 0))) (io_some (ie_callB c_len Z.z_len PySem.boot_len (ia_cons (ie_var (pv 3)) ia_nil))) io_none)) (ig_name (i := 4) sc__law_closed.nd) (iss_one (is_set (i := 3) sc__law_closed.nd (ie_new (il_catV (ie_var (pv 3)) (il_lst (ia_cons (ie_tup (ia_cons (ie_tup ia_nil) (ia_cons (ie_dlit tb_nd (hu_of hr) (idl_cons 0 (ie_tup (ia_cons (ie_wd 6) ia_nil)) (idl_cons 1 (ie_catT (ie_tup (ia_cons (ie_wd 7) ia_nil)) (ie_cutT (ie_var (pv 4)) (io_some ie_int) io_none)) (idl_cons 2 (ie_var (pv 4)) idl_nil))) (ie_ix (ie_var (pv 4)) ie_int)) ia_nil))) ia_nil))))))) (iss_one (is_ret (ie_var (pv 3)))))))
theorem df__law_closed (Z : Fx K mg base tt ad ac ae) : Df P w K mg base (tb tt) "_law_closed" 2 2 m__law_closed := let ⟨_, Fu⟩ := Z.f__law_closed; ⟨ad 4, Z.g__law_closed, Fu.kp, ok__law_closed Z Fu⟩
theorem ok__law_gift (Z : Fx K mg base tt ad ac ae) {fd : FuncData} (Fu : Fun K "_law_gift" "_law_gift" st__law_gift (ad 5) fd) : Fn P w K mg base (tb tt) 2 (ad 5) 2 m__law_gift :=
  fn_mk (k := 1) (g := b__law_gift) Fu sc__law_gift (Fu.binds fun _ _ _ _ _ _ us hl => match us, hl with | [_, _], _ => rfl) fun cdv A outer s H E hr =>
    (iss_cons (is_if (it_cmp (o_eq tb_nd) (ie_ix (ie_ix (ie_dget 26 (hu_of hr) (ie_var (pv 0))) (ie_callB c_len Z.z_len PySem.boot_len (ia_cons (ie_dget 24 (hu_of hr) (ie_var (pv 0))) ia_nil))) ie_int) (ie_wd 2) (nomark _)) (iss_cons (is_expr (ie_call (df__law_tell Z) (hr.mono (by omega)) (ia_cons (ie_var (pv 0)) (ia_cons (ie_tup (ia_cons (ie_wd 3) ia_nil)) ia_nil)))) (iss_one (is_ret (ie_tup (ia_cons (ie_wd 27) ia_nil))))) iss_nil) (iss_cons (is_expr (ie_call (df__law_tell Z) (hr.mono (by omega)) (ia_cons (ie_var (pv 0)) (ia_cons (ie_tup (ia_cons (ie_wd 4) (ia_cons (ie_var (pv 1)) ia_nil))) ia_nil)))) (iss_one (is_ret (ie_ixL (il_catV (ie_dget 26 (hu_of hr) (ie_var (pv 0))) (il_lst (ia_cons (ie_tup (ia_cons (ie_wd 27) ia_nil)) ia_nil))) (ie_callB c_len Z.z_len PySem.boot_len (ia_cons (ie_dget 24 (hu_of hr) (ie_var (pv 0))) ia_nil)))))))
theorem df__law_gift (Z : Fx K mg base tt ad ac ae) : Df P w K mg base (tb tt) "_law_gift" 2 2 m__law_gift := let ⟨_, Fu⟩ := Z.f__law_gift; ⟨ad 5, Z.g__law_gift, Fu.kp, ok__law_gift Z Fu⟩
theorem ok__law_given (Z : Fx K mg base tt ad ac ae) {fd : FuncData} (Fu : Fun K "_law_given" "_law_given" st__law_given (ad 6) fd) : Fn P w K mg base (tb tt) 1 (ad 6) 3 m__law_given :=
  fn_mk (k := 0) (g := b__law_given) Fu sc__law_given (Fu.binds fun _ _ _ _ _ _ us hl => match us, hl with | [_, _, _], _ => rfl) fun cdv A outer s H E hr =>
    (iss_cons (is_if (it_cmp (o_eq tb_nd) (ie_ix (ie_var (pv 1)) ie_int) (ie_wd 1) (nomark _)) (iss_one (is_ret (ie_tup (ia_cons (ie_wd 7) (ia_cons (ie_ix (ie_var (pv 1)) ie_int) ia_nil))))) iss_nil) (iss_cons (is_if (it_cmp (o_ne tb_nd) (ie_ix (ie_var (pv 1)) ie_int) (ie_wd 0) (nomark _)) (iss_one (is_ret (ie_var (pv 1)))) iss_nil) (iss_cons (is_if (it_cmp o_isn (ie_var (pv 0)) ie_non (nomark _)) (iss_one (is_asg (ie_ix (ie_var (pv 1)) ie_int) (ig_sub (ie_var (pv 2)) (ie_var (pv 0))))) iss_nil) (iss_one (is_ret ie_non)))))
theorem df__law_given (Z : Fx K mg base tt ad ac ae) : Df P w K mg base (tb tt) "_law_given" 1 3 m__law_given := let ⟨_, Fu⟩ := Z.f__law_given; ⟨ad 6, Z.g__law_given, Fu.kp, ok__law_given Z Fu⟩
structure Ih_gk (P : Program) (w : World) (K : PySem.W.Frag) (mg : Str → Option Value) (base : Heap) (tt : List (Addr × Str)) (ad ac ae : Nat → Addr) (l : Nat) (rec : Nat → List D → M → R D) : Prop where
  i__law_reckoned : Df P w K mg base (tb tt) "_law_reckoned" l 2 (rec 0)
theorem ok__law_reckoned (Z : Fx K mg base tt ad ac ae) {fd : FuncData} {n : Nat} {rec : Nat → List D → M → R D} (Fu : Fun K "_law_reckoned" "_law_reckoned" st__law_reckoned (ad 7) fd) (ih : Ih_gk P w K mg base tt ad ac ae (1 + n) rec) : Fn P w K mg base (tb tt) (1 + n + 1) (ad 7) 2 (mkF 2 4 (b__law_reckoned rec)) :=
  fn_mk (k := 1 + n) (g := b__law_reckoned rec) Fu sc__law_reckoned (Fu.binds fun _ _ _ _ _ _ us hl => match us, hl with | [_, _], _ => rfl) fun cdv A outer s H E hr =>
    (iss_cons (is_if (it_cmp (o_eq tb_nd) (ie_ix (ie_var (pv 0)) ie_int) (ie_wd 8) (nomark _)) (iss_one (is_ret (ie_ix (ie_var (pv 0)) ie_int))) iss_nil) (iss_cons (is_if (it_cmp (o_eq tb_nd) (ie_ix (ie_var (pv 0)) ie_int) (ie_wd 9) (nomark _)) (iss_one (is_ret (ie_ix (ie_var (pv 1)) (ie_ix (ie_var (pv 0)) ie_int)))) iss_nil) (iss_cons (is_set (i := 2) sc__law_reckoned.nd (ie_call (ih.i__law_reckoned) (hr.mono (by omega)) (ia_cons (ie_ix (ie_var (pv 0)) ie_int) (ia_cons (ie_var (pv 1)) ia_nil)))) (iss_cons (is_set (i := 3) sc__law_reckoned.nd (ie_call (ih.i__law_reckoned) (hr.mono (by omega)) (ia_cons (ie_ix (ie_var (pv 0)) ie_int) (ia_cons (ie_var (pv 1)) ia_nil)))) (iss_cons (is_if (it_w (iw_or (it_cmp o_is (ie_var (pv 2)) ie_non (nomark _)) (iw_or (it_cmp o_is (ie_var (pv 3)) ie_non (nomark _)) (iw_or1 (it_w (iw_and (it_cmp (o_eq tb_nd) (ie_ix (ie_var (pv 0)) ie_int) (ie_wd 13) (nomark _)) (iw_and1 (it_cmp (o_eq tb_nd) (ie_var (pv 3)) ie_int (nomark _))))))))) (iss_one (is_ret ie_non)) iss_nil) (iss_cons (is_if (it_cmp (o_inW tb_nd) (ie_ix (ie_var (pv 0)) ie_int) (ie_tup (ia_cons (ie_wd 14) (ia_cons (ie_wd 23) ia_nil))) (by with_unfolding_all rfl)) (iss_one (is_ret (ie_callTy c_int Z.z_int (by decide +kernel) (ia_cons (ie_ixL (il_lst (ia_cons (ie_cmp o_lt (ie_var (pv 2)) (ie_var (pv 3)) (nomark _)) (ia_cons (ie_cmp (o_eq tb_nd) (ie_var (pv 2)) (ie_var (pv 3)) (nomark _)) ia_nil))) (ie_callTy c_int Z.z_int (by decide +kernel) (ia_cons (ie_cmp (o_eq tb_nd) (ie_ix (ie_var (pv 0)) ie_int) (ie_wd 23) (nomark _)) ia_nil))) ia_nil)))) iss_nil) (iss_cons (is_if (it_cmp (o_eq tb_nd) (ie_ix (ie_var (pv 0)) ie_int) (ie_wd 13) (nomark _)) (iss_one (is_ret (ie_op o_div (ie_var (pv 2)) (ie_var (pv 3))))) iss_nil) (iss_one (is_ret (ie_op o_mod (ie_dlit tb_nd (hu_of hr) (idl_cons 10 (ie_op o_add (ie_var (pv 2)) (ie_var (pv 3))) (idl_cons 11 (ie_op o_sub (ie_op o_add ie_int (ie_var (pv 2))) (ie_var (pv 3))) (idl_cons 12 (ie_op o_mul (ie_var (pv 2)) (ie_var (pv 3))) idl_nil))) (ie_ix (ie_var (pv 0)) ie_int)) ie_int))))))))))
theorem df_gk (Z : Fx K mg base tt ad ac ae) : ∀ n, Ih_gk P w K mg base tt ad ac ae (1 + n) (m_gk n)
  | 0 => by
    obtain ⟨fd__law_reckoned, F__law_reckoned⟩ := Z.f__law_reckoned
    exact ⟨⟨ad 7, Z.g__law_reckoned, F__law_reckoned.kp, fn_bad (k := 0) F__law_reckoned sc__law_reckoned (F__law_reckoned.binds fun _ _ _ _ _ _ us hl => match us, hl with | [_, _], _ => rfl)⟩⟩
  | n + 1 => by
    have ih := df_gk Z n
    obtain ⟨fd__law_reckoned, F__law_reckoned⟩ := Z.f__law_reckoned
    exact ⟨⟨ad 7, Z.g__law_reckoned, F__law_reckoned.kp, ok__law_reckoned Z F__law_reckoned ih⟩⟩
structure Ih_lw (P : Program) (w : World) (K : PySem.W.Frag) (mg : Str → Option Value) (base : Heap) (tt : List (Addr × Str)) (ad ac ae : Nat → Addr) (l : Nat) (rec : Nat → List D → M → R D) : Prop where
  i__law_walk : Df P w K mg base (tb tt) "_law_walk" l 4 (rec 0)
  i__law_step : Df P w K mg base (tb tt) "_law_step" l 4 (rec 1)
  i__law_rounds : Df P w K mg base (tb tt) "_law_rounds" l 5 (rec 2)
  i__law_handed : Df P w K mg base (tb tt) "_law_handed" l 4 (rec 3)
  i__law_tried : Df P w K mg base (tb tt) "_law_tried" l 4 (rec 4)
theorem ok__law_walk (Z : Fx K mg base tt ad ac ae) {fd : FuncData} {n : Nat} {rec : Nat → List D → M → R D} (Fu : Fun K "_law_walk" "_law_walk" st__law_walk (ad 8) fd) (ih : Ih_lw P w K mg base tt ad ac ae (8 + n) rec) : Fn P w K mg base (tb tt) (8 + n + 1) (ad 8) 4 (mkF 4 6 (b__law_walk rec)) :=
  fn_mk (k := 8 + n) (g := b__law_walk rec) Fu sc__law_walk (Fu.binds fun _ _ _ _ _ _ us hl => match us, hl with | [_, _, _, _], _ => rfl) fun cdv A outer s H E hr =>
    (iss_cons (is_for (passes_of rfl) rfl (ii_tup (ie_var (pv 1))) (ig_name (i := 4) sc__law_walk.nd) (iss_cons (is_set (i := 5) sc__law_walk.nd (ie_call (ih.i__law_step) (hr.mono (by omega)) (ia_cons (ie_var (pv 0)) (ia_cons (ie_var (pv 4)) (ia_cons (ie_var (pv 2)) (ia_cons (ie_var (pv 3)) ia_nil)))))) (iss_one (is_if (it_cmp o_isn (ie_var (pv 5)) ie_non (nomark _)) (iss_one (is_ret (ie_var (pv 5)))) iss_nil)))) (iss_one (is_ret ie_non)))
theorem ok__law_step (Z : Fx K mg base tt ad ac ae) {fd : FuncData} {n : Nat} {rec : Nat → List D → M → R D} (Fu : Fun K "_law_step" "_law_step" st__law_step (ad 9) fd) (ih : Ih_lw P w K mg base tt ad ac ae (8 + n) rec) : Fn P w K mg base (tb tt) (8 + n + 1) (ad 9) 4 (mkF 4 5 (b__law_step rec)) :=
  fn_mk (k := 8 + n) (g := b__law_step rec) Fu sc__law_step (Fu.binds fun _ _ _ _ _ _ us hl => match us, hl with | [_, _, _, _], _ => rfl) fun cdv A outer s H E hr =>
    (iss_cons (is_if (it_cmp (o_eq tb_nd) (ie_ix (ie_var (pv 1)) ie_int) (ie_wd 21) (nomark _)) (iss_one (is_ret (ie_var (pv 1)))) iss_nil) (iss_cons (is_if (it_cmp (o_eq tb_nd) (ie_ix (ie_var (pv 1)) ie_int) (ie_wd 22) (nomark _)) (iss_one (is_ret (ie_call (ih.i__law_tried) (hr.mono (by omega)) (ia_cons (ie_var (pv 0)) (ia_cons (ie_var (pv 1)) (ia_cons (ie_var (pv 2)) (ia_cons (ie_var (pv 3)) ia_nil))))))) iss_nil) (iss_cons (is_if (it_cmp (o_eq tb_nd) (ie_ix (ie_var (pv 1)) ie_int) (ie_wd 18) (nomark _)) (iss_one (is_ret (ie_call (ih.i__law_handed) (hr.mono (by omega)) (ia_cons (ie_var (pv 0)) (ia_cons (ie_var (pv 1)) (ia_cons (ie_var (pv 2)) (ia_cons (ie_var (pv 3)) ia_nil))))))) iss_nil) (iss_cons (is_set (i := 4) sc__law_step.nd (ie_call (df_gk Z 6).i__law_reckoned (hr.mono (by omega)) (ia_cons (ie_ix (ie_var (pv 1)) (ie_op o_add ie_int (ie_callTy c_int Z.z_int (by decide +kernel) (ia_cons (ie_cmp (o_eq tb_nd) (ie_ix (ie_var (pv 1)) ie_int) (ie_wd 15) (nomark _)) ia_nil)))) (ia_cons (ie_var (pv 2)) ia_nil)))) (iss_cons (is_if (it_cmp o_is (ie_var (pv 4)) ie_non (nomark _)) (iss_one (is_ret (ie_tup (ia_cons (ie_wd 7) (ia_cons ie_int ia_nil))))) iss_nil) (iss_cons (is_if (it_cmp (o_inW tb_nd) (ie_ix (ie_var (pv 1)) ie_int) (ie_tup (ia_cons (ie_wd 7) (ia_cons (ie_wd 5) ia_nil))) (by with_unfolding_all rfl)) (iss_one (is_ret (ie_tup (ia_cons (ie_ix (ie_var (pv 1)) ie_int) (ia_cons (ie_var (pv 4)) ia_nil))))) iss_nil) (iss_cons (is_if (it_cmp (o_eq tb_nd) (ie_ix (ie_var (pv 1)) ie_int) (ie_wd 19) (nomark _)) (iss_one (is_ret (ie_call (ih.i__law_walk) (hr.mono (by omega)) (ia_cons (ie_var (pv 0)) (ia_cons (ie_ix (ie_var (pv 1)) (ie_op o_sub ie_int (ie_callTy c_int Z.z_int (by decide +kernel) (ia_cons (ie_cmp o_gt (ie_var (pv 4)) ie_int (nomark _)) ia_nil)))) (ia_cons (ie_var (pv 2)) (ia_cons (ie_var (pv 3)) ia_nil))))))) iss_nil) (iss_cons (is_if (it_cmp (o_eq tb_nd) (ie_ix (ie_var (pv 1)) ie_int) (ie_wd 20) (nomark _)) (iss_one (is_ret (ie_call (ih.i__law_rounds) (hr.mono (by omega)) (ia_cons (ie_var (pv 0)) (ia_cons (ie_ix (ie_var (pv 1)) ie_int) (ia_cons (ie_op o_mod (ie_var (pv 4)) ie_int) (ia_cons (ie_var (pv 2)) (ia_cons (ie_var (pv 3)) ia_nil)))))))) iss_nil) (iss_cons (is_if (it_cmp (o_eq tb_nd) (ie_ix (ie_var (pv 1)) ie_int) (ie_wd 17) (nomark _)) (iss_one (is_ret (ie_call (df__law_given Z) (hr.mono (by omega)) (ia_cons (ie_ix (ie_var (pv 1)) ie_int) (ia_cons (ie_call (df__law_gift Z) (hr.mono (by omega)) (ia_cons (ie_var (pv 3)) (ia_cons (ie_var (pv 4)) ia_nil))) (ia_cons (ie_var (pv 2)) ia_nil)))))) iss_nil) (iss_cons (is_if (it_cmp (o_eq tb_nd) (ie_ix (ie_var (pv 1)) ie_int) (ie_wd 16) (nomark _)) (iss_one (is_expr (ie_app (ie_dget 25 (hu_of hr) (ie_var (pv 3))) (ie_var (pv 4))))) (iss_one (is_asg (ie_var (pv 4)) (ig_sub (ie_var (pv 2)) (ie_ix (ie_var (pv 1)) ie_int))))) (iss_one (is_ret ie_non))))))))))))
theorem ok__law_rounds (Z : Fx K mg base tt ad ac ae) {fd : FuncData} {n : Nat} {rec : Nat → List D → M → R D} (Fu : Fun K "_law_rounds" "_law_rounds" st__law_rounds (ad 10) fd) (ih : Ih_lw P w K mg base tt ad ac ae (8 + n) rec) : Fn P w K mg base (tb tt) (8 + n + 1) (ad 10) 5 (mkF 5 7 (b__law_rounds rec)) :=
  fn_mk (k := 8 + n) (g := b__law_rounds rec) Fu sc__law_rounds (Fu.binds fun _ _ _ _ _ _ us hl => match us, hl with | [_, _, _, _, _], _ => rfl) fun cdv A outer s H E hr =>
    (iss_cons (is_for (passes_of rfl) rfl (ii_range Z.z_range (ie_var (pv 2))) (ig_name (i := 5) sc__law_rounds.nd) (iss_cons (is_set (i := 6) sc__law_rounds.nd (ie_call (ih.i__law_walk) (hr.mono (by omega)) (ia_cons (ie_var (pv 0)) (ia_cons (ie_var (pv 1)) (ia_cons (ie_var (pv 3)) (ia_cons (ie_var (pv 4)) ia_nil)))))) (iss_one (is_if (it_cmp o_isn (ie_var (pv 6)) ie_non (nomark _)) (iss_one (is_ret (ie_ixL (il_lst (ia_cons (ie_var (pv 6)) (ia_cons ie_non ia_nil))) (ie_callTy c_int Z.z_int (by decide +kernel) (ia_cons (ie_cmp (o_eq tb_nd) (ie_ix (ie_var (pv 6)) ie_int) (ie_wd 21) (nomark _)) ia_nil))))) iss_nil)))) (iss_one (is_ret ie_non)))
theorem ok__law_handed (Z : Fx K mg base tt ad ac ae) {fd : FuncData} {n : Nat} {rec : Nat → List D → M → R D} (Fu : Fun K "_law_handed" "_law_handed" st__law_handed (ad 11) fd) (ih : Ih_lw P w K mg base tt ad ac ae (8 + n) rec) : Fn P w K mg base (tb tt) (8 + n + 1) (ad 11) 4 (mkF 4 10 (b__law_handed rec)) :=
  fn_mk (k := 8 + n) (g := b__law_handed rec) Fu sc__law_handed (Fu.binds fun _ _ _ _ _ _ us hl => match us, hl with | [_, _, _, _], _ => rfl) fun cdv A outer s H E hr =>
    (iss_cons (is_asg (ie_ix (ie_var (pv 0)) (ie_ix (ie_var (pv 1)) ie_int)) (ig_tup (is := [4, 5, 6]) rfl sc__law_handed.nd (.cons rfl (Or.inl rfl) (.inl rfl) (.cons rfl (Or.inl rfl) (.inl rfl) (.cons rfl (Or.inl rfl) (.inl rfl) .nil))))) (iss_cons (is_setLc (j := 7) (i := 9) rfl sc__law_handed.nd (ii_tup (ie_ix (ie_var (pv 1)) ie_int)) (blkOk_by (N := ["_law_program_here", "_law_step_here", "_law_slots", "_law_talk", "_law_params", "_law_many", "_law_body_here", "_law_numbers_here", "_law_way", "_law_e"]) (sc := defScope st__law_handed) (by decide +kernel)) (fun _ _ _ _ _ => pg_name (i := 9) sc__law_handed.nd rfl (Or.inl rfl)) (fun _ _ _ _ _ => its_nil) (fun _ _ _ _ _ => (ie_call (df_gk Z 6).i__law_reckoned (hr.mono (by omega)) (ia_cons (ie_var (pv 9)) (ia_cons (ie_var (pv 2)) ia_nil)))) (sw_true rfl rfl rfl (by decide +kernel))) (iss_cons (is_if (it_cmp o_noneIn ie_non (ie_var (pv 7)) (by with_unfolding_all rfl)) (iss_one (is_ret (ie_tup (ia_cons (ie_wd 7) (ia_cons ie_int ia_nil))))) iss_nil) (iss_cons (is_set (i := 8) sc__law_handed.nd (ie_call (ih.i__law_walk) (hr.mono (by omega)) (ia_cons (ie_var (pv 0)) (ia_cons (ie_var (pv 6)) (ia_cons (ie_new (il_catV (ie_var (pv 7)) (il_rep (il_lst (ia_cons ie_int ia_nil)) (ie_op o_sub (ie_var (pv 5)) (ie_var (pv 4)))))) (ia_cons (ie_var (pv 3)) ia_nil)))))) (iss_cons (is_if (it_w (iw_and (it_cmp o_isn (ie_var (pv 8)) ie_non (nomark _)) (iw_and1 (it_cmp (o_ne tb_nd) (ie_ix (ie_var (pv 8)) ie_int) (ie_wd 5) (nomark _))))) (iss_one (is_ret (ie_var (pv 8)))) iss_nil) (iss_cons (is_if (it_cmp o_isn (ie_ix (ie_var (pv 1)) ie_int) ie_non (nomark _)) (iss_one (is_asg (ie_ix (ie_orT (ie_var (pv 8)) (ie_one (ie_tup (ia_cons (ie_wd 5) (ia_cons ie_int ia_nil))))) ie_int) (ig_sub (ie_var (pv 2)) (ie_ix (ie_var (pv 1)) ie_int)))) iss_nil) (iss_one (is_ret ie_non))))))))
theorem ok__law_tried (Z : Fx K mg base tt ad ac ae) {fd : FuncData} {n : Nat} {rec : Nat → List D → M → R D} (Fu : Fun K "_law_tried" "_law_tried" st__law_tried (ad 12) fd) (ih : Ih_lw P w K mg base tt ad ac ae (8 + n) rec) : Fn P w K mg base (tb tt) (8 + n + 1) (ad 12) 4 (mkF 4 6 (b__law_tried rec)) :=
  fn_mk (k := 8 + n) (g := b__law_tried rec) Fu sc__law_tried (Fu.binds fun _ _ _ _ _ _ us hl => match us, hl with | [_, _, _, _], _ => rfl) fun cdv A outer s H E hr =>
    (iss_cons (is_set (i := 4) sc__law_tried.nd (ie_call (ih.i__law_walk) (hr.mono (by omega)) (ia_cons (ie_var (pv 0)) (ia_cons (ie_ix (ie_var (pv 1)) ie_int) (ia_cons (ie_var (pv 2)) (ia_cons (ie_var (pv 3)) ia_nil)))))) (iss_cons (is_if (it_w (iw_and (it_cmp o_isn (ie_ix (ie_var (pv 1)) ie_int) ie_non (nomark _)) (iw_and (it_cmp o_isn (ie_var (pv 4)) ie_non (nomark _)) (iw_and1 (it_cmp (o_eq tb_nd) (ie_ix (ie_var (pv 4)) ie_int) (ie_wd 7) (nomark _)))))) (iss_cons (is_if (it_cmp o_isn (ie_ix (ie_ix (ie_var (pv 1)) ie_int) ie_int) ie_non (nomark _)) (iss_one (is_asg (ie_ix (ie_var (pv 4)) ie_int) (ig_sub (ie_var (pv 2)) (ie_ix (ie_ix (ie_var (pv 1)) ie_int) ie_int)))) iss_nil) (iss_one (is_set (i := 4) sc__law_tried.nd (ie_call (ih.i__law_walk) (hr.mono (by omega)) (ia_cons (ie_var (pv 0)) (ia_cons (ie_ix (ie_ix (ie_var (pv 1)) ie_int) ie_int) (ia_cons (ie_var (pv 2)) (ia_cons (ie_var (pv 3)) ia_nil)))))))) iss_nil) (iss_cons (is_if (it_cmp (o_eqD (hr.units)) (ie_var (pv 4)) (ie_tup (ia_cons (ie_wd 27) ia_nil)) (nomark _)) (iss_one (is_ret (ie_var (pv 4)))) iss_nil) (iss_cons (is_set (i := 5) sc__law_tried.nd (ie_call (ih.i__law_walk) (hr.mono (by omega)) (ia_cons (ie_var (pv 0)) (ia_cons (ie_ix (ie_var (pv 1)) ie_int) (ia_cons (ie_var (pv 2)) (ia_cons (ie_var (pv 3)) ia_nil)))))) (iss_one (is_ret (ie_ixL (il_lst (ia_cons (ie_var (pv 5)) (ia_cons (ie_var (pv 4)) ia_nil))) (ie_callTy c_int Z.z_int (by decide +kernel) (ia_cons (ie_cmp o_is (ie_var (pv 5)) ie_non (nomark _)) ia_nil)))))))))
theorem df_lw (Z : Fx K mg base tt ad ac ae) : ∀ n, Ih_lw P w K mg base tt ad ac ae (8 + n) (m_lw n)
  | 0 => by
    obtain ⟨fd__law_walk, F__law_walk⟩ := Z.f__law_walk
    obtain ⟨fd__law_step, F__law_step⟩ := Z.f__law_step
    obtain ⟨fd__law_rounds, F__law_rounds⟩ := Z.f__law_rounds
    obtain ⟨fd__law_handed, F__law_handed⟩ := Z.f__law_handed
    obtain ⟨fd__law_tried, F__law_tried⟩ := Z.f__law_tried
    exact ⟨⟨ad 8, Z.g__law_walk, F__law_walk.kp, fn_bad (k := 7) F__law_walk sc__law_walk (F__law_walk.binds fun _ _ _ _ _ _ us hl => match us, hl with | [_, _, _, _], _ => rfl)⟩, ⟨ad 9, Z.g__law_step, F__law_step.kp, fn_bad (k := 7) F__law_step sc__law_step (F__law_step.binds fun _ _ _ _ _ _ us hl => match us, hl with | [_, _, _, _], _ => rfl)⟩, ⟨ad 10, Z.g__law_rounds, F__law_rounds.kp, fn_bad (k := 7) F__law_rounds sc__law_rounds (F__law_rounds.binds fun _ _ _ _ _ _ us hl => match us, hl with | [_, _, _, _, _], _ => rfl)⟩, ⟨ad 11, Z.g__law_handed, F__law_handed.kp, fn_bad (k := 7) F__law_handed sc__law_handed (F__law_handed.binds fun _ _ _ _ _ _ us hl => match us, hl with | [_, _, _, _], _ => rfl)⟩, ⟨ad 12, Z.g__law_tried, F__law_tried.kp, fn_bad (k := 7) F__law_tried sc__law_tried (F__law_tried.binds fun _ _ _ _ _ _ us hl => match us, hl with | [_, _, _, _], _ => rfl)⟩⟩
  | n + 1 => by
    have ih := df_lw Z n
    obtain ⟨fd__law_walk, F__law_walk⟩ := Z.f__law_walk
    obtain ⟨fd__law_step, F__law_step⟩ := Z.f__law_step
    obtain ⟨fd__law_rounds, F__law_rounds⟩ := Z.f__law_rounds
    obtain ⟨fd__law_handed, F__law_handed⟩ := Z.f__law_handed
    obtain ⟨fd__law_tried, F__law_tried⟩ := Z.f__law_tried
    exact ⟨⟨ad 8, Z.g__law_walk, F__law_walk.kp, ok__law_walk Z F__law_walk ih⟩, ⟨ad 9, Z.g__law_step, F__law_step.kp, ok__law_step Z F__law_step ih⟩, ⟨ad 10, Z.g__law_rounds, F__law_rounds.kp, ok__law_rounds Z F__law_rounds ih⟩, ⟨ad 11, Z.g__law_handed, F__law_handed.kp, ok__law_handed Z F__law_handed ih⟩, ⟨ad 12, Z.g__law_tried, F__law_tried.kp, ok__law_tried Z F__law_tried ih⟩⟩
theorem ok__law_due (Z : Fx K mg base tt ad ac ae) {fd : FuncData} (Fu : Fun K "_law_due" "_law_due" st__law_due (ad 13) fd) : Fn P w K mg base (tb tt) 149 (ad 13) 4 m__law_due :=
  fn_mk (k := 148) (g := b__law_due) Fu sc__law_due (Fu.binds fun _ _ _ _ _ _ us hl => match us, hl with | [_, _, _, _], _ => rfl) fun cdv A outer s H E hr =>
    (iss_cons (is_set (i := 4) sc__law_due.nd (ie_dnew tb_nd (idl_cons 26 (ie_new (il_list Z.z_list (ie_var (pv 3)))) (idl_cons 24 (ie_new (il_lst ia_nil)) (idl_cons 25 (ie_new (il_lst ia_nil)) idl_nil))))) (iss_cons (is_set (i := 5) sc__law_due.nd (ie_tup (ia_cons (ie_wd 27) ia_nil))) (iss_cons (is_if (it_w (iw_and (it_cmp (o_neD (hr.units)) (ie_var (pv 3)) (ie_new (il_lst ia_nil)) (nomark _)) (iw_and1 (it_cmp (o_eq tb_nd) (ie_ix (ie_ix (ie_var (pv 3)) ie_int) ie_int) (ie_wd 0) (nomark _))))) (iss_cons (is_asg (ie_ix (ie_var (pv 0)) (ie_var (pv 1))) (ig_tup (is := [6, 7, 8]) rfl sc__law_due.nd (.cons rfl (Or.inl rfl) (.inl rfl) (.cons rfl (Or.inl rfl) (.inl rfl) (.cons rfl (Or.inl rfl) (.inl rfl) .nil))))) (iss_cons (is_set (i := 9) sc__law_due.nd (ie_new (il_cat (il_list Z.z_list (ie_var (pv 2))) (il_rep (il_lst (ia_cons ie_int ia_nil)) (ie_op o_sub (ie_var (pv 7)) (ie_var (pv 6))))))) (iss_one (is_set (i := 5) sc__law_due.nd (ie_orT (ie_call (df_lw Z 140).i__law_walk (hr.mono (by omega)) (ia_cons (ie_var (pv 0)) (ia_cons (ie_var (pv 8)) (ia_cons (ie_var (pv 9)) (ia_cons (ie_var (pv 4)) ia_nil))))) (ie_one (ie_tup (ia_cons (ie_wd 5) (ia_cons ie_int ia_nil))))))))) iss_nil) (iss_one (is_ret (ie_call (df__law_closed Z) (hr.mono (by omega)) (ia_cons (ie_var (pv 4)) (ia_cons (ie_var (pv 5)) ia_nil))))))))
theorem df__law_due (Z : Fx K mg base tt ad ac ae) : Df P w K mg base (tb tt) "_law_due" 149 4 m__law_due := let ⟨_, Fu⟩ := Z.f__law_due; ⟨ad 13, Z.g__law_due, Fu.kp, ok__law_due Z Fu⟩
theorem ok__law_numbers (Z : Fx K mg base tt ad ac ae) {fd : FuncData} (Fu : Fun K "_law_numbers" "_law_numbers" st__law_numbers (ad 14) fd) : Fn P w K mg base (tb tt) 2 (ad 14) 2 m__law_numbers :=
  fn_mk (k := 1) (g := b__law_numbers) Fu sc__law_numbers (Fu.binds fun _ _ _ _ _ _ us hl => match us, hl with | [_, _], _ => rfl) fun cdv A outer s H E hr =>
    (iss_one (is_ret (ie_tupL Z.z_tuple (il_lc (i := 2) rfl sc__law_numbers.nd (ii_range Z.z_range (ie_var (pv 1))) (blkOk_by (N := ["_law_row", "_law_many", "_law_turn"]) (sc := defScope st__law_numbers) (by decide +kernel)) (fun _ _ _ _ _ => pg_name (i := 2) sc__law_numbers.nd rfl (Or.inl rfl)) (fun _ _ _ _ _ => its_nil) (fun _ _ _ _ _ => (ie_call (df__law_taken Z) (hr.mono (by omega)) (ia_cons (ie_var (pv 0)) (ia_cons (ie_ixL (il_lst (ia_cons ie_int (ia_cons ie_int ia_nil))) (ie_call (df__law_taken Z) (hr.mono (by omega)) (ia_cons (ie_var (pv 0)) (ia_cons ie_int ia_nil)))) ia_nil))))))))
theorem df__law_numbers (Z : Fx K mg base tt ad ac ae) : Df P w K mg base (tb tt) "_law_numbers" 2 2 m__law_numbers := let ⟨_, Fu⟩ := Z.f__law_numbers; ⟨ad 14, Z.g__law_numbers, Fu.kp, ok__law_numbers Z Fu⟩
structure Ih_gr (P : Program) (w : World) (K : PySem.W.Frag) (mg : Str → Option Value) (base : Heap) (tt : List (Addr × Str)) (ad ac ae : Nat → Addr) (l : Nat) (rec : Nat → List D → M → R D) : Prop where
  i__law_reckoning : Df P w K mg base (tb tt) "_law_reckoning" l 3 (rec 0)
theorem ok__law_reckoning (Z : Fx K mg base tt ad ac ae) {fd : FuncData} {n : Nat} {rec : Nat → List D → M → R D} (Fu : Fun K "_law_reckoning" "_law_reckoning" st__law_reckoning (ad 15) fd) (ih : Ih_gr P w K mg base tt ad ac ae (2 + n) rec) : Fn P w K mg base (tb tt) (2 + n + 1) (ad 15) 3 (mkF 3 5 (b__law_reckoning rec)) :=
  fn_mk (k := 2 + n) (g := b__law_reckoning rec) Fu sc__law_reckoning (Fu.binds fun _ _ _ _ _ _ us hl => match us, hl with | [_, _, _], _ => rfl) fun cdv A outer s H E hr =>
    (iss_cons (is_set (i := 3) sc__law_reckoning.nd (ie_call (df__law_taken Z) (hr.mono (by omega)) (ia_cons (ie_var (pv 0)) (ia_cons ie_int ia_nil)))) (iss_cons (is_if (it_w (iw_and (it_cmp o_gt (ie_var (pv 3)) ie_int (nomark _)) (iw_and1 (it_cmp o_gt (ie_var (pv 2)) ie_int (nomark _))))) (iss_cons (is_set (i := 4) sc__law_reckoning.nd (ie_ixL (il_lst (ia_cons (ie_wd 10) (ia_cons (ie_wd 11) (ia_cons (ie_wd 12) (ia_cons (ie_wd 13) (ia_cons (ie_wd 14) (ia_cons (ie_wd 23) ia_nil))))))) (ie_call (df__law_taken Z) (hr.mono (by omega)) (ia_cons (ie_var (pv 0)) (ia_cons ie_int ia_nil))))) (iss_one (is_ret (ie_tup (ia_cons (ie_var (pv 4)) (ia_cons (ie_call (ih.i__law_reckoning) (hr.mono (by omega)) (ia_cons (ie_var (pv 0)) (ia_cons (ie_var (pv 1)) (ia_cons (ie_op o_sub (ie_var (pv 2)) ie_int) ia_nil)))) (ia_cons (ie_call (ih.i__law_reckoning) (hr.mono (by omega)) (ia_cons (ie_var (pv 0)) (ia_cons (ie_var (pv 1)) (ia_cons (ie_op o_sub (ie_var (pv 2)) ie_int) ia_nil)))) ia_nil))))))) iss_nil) (iss_cons (is_if (it_cmp o_lt (ie_var (pv 3)) ie_int (nomark _)) (iss_one (is_ret (ie_tup (ia_cons (ie_wd 8) (ia_cons (ie_call (df__law_taken Z) (hr.mono (by omega)) (ia_cons (ie_var (pv 0)) (ia_cons (ie_ixL (il_lst (ia_cons ie_int (ia_cons ie_int (ia_cons ie_int ia_nil)))) (ie_var (pv 3))) ia_nil))) ia_nil))))) iss_nil) (iss_one (is_ret (ie_tup (ia_cons (ie_wd 9) (ia_cons (ie_call (df__law_taken Z) (hr.mono (by omega)) (ia_cons (ie_var (pv 0)) (ia_cons (ie_var (pv 1)) ia_nil))) ia_nil))))))))
theorem df_gr (Z : Fx K mg base tt ad ac ae) : ∀ n, Ih_gr P w K mg base tt ad ac ae (2 + n) (m_gr n)
  | 0 => by
    obtain ⟨fd__law_reckoning, F__law_reckoning⟩ := Z.f__law_reckoning
    exact ⟨⟨ad 15, Z.g__law_reckoning, F__law_reckoning.kp, fn_bad (k := 1) F__law_reckoning sc__law_reckoning (F__law_reckoning.binds fun _ _ _ _ _ _ us hl => match us, hl with | [_, _, _], _ => rfl)⟩⟩
  | n + 1 => by
    have ih := df_gr Z n
    obtain ⟨fd__law_reckoning, F__law_reckoning⟩ := Z.f__law_reckoning
    exact ⟨⟨ad 15, Z.g__law_reckoning, F__law_reckoning.kp, ok__law_reckoning Z F__law_reckoning ih⟩⟩
theorem ok__law_lent (Z : Fx K mg base tt ad ac ae) {fd : FuncData} (Fu : Fun K "_law_lent" "_law_lent" st__law_lent (ad 16) fd) : Fn P w K mg base (tb tt) 9 (ad 16) 4 m__law_lent :=
  fn_mk (k := 8) (g := b__law_lent) Fu sc__law_lent (Fu.binds fun _ _ _ _ _ _ us hl => match us, hl with | [_, _, _, _], _ => rfl) fun cdv A outer s H E hr =>
    (iss_cons (is_set (i := 4) sc__law_lent.nd (ie_op o_sub (ie_op o_sub (ie_callB c_len Z.z_len PySem.boot_len (ia_cons (ie_ix (ie_var (pv 1)) ie_int) ia_nil)) ie_int) (ie_ix (ie_var (pv 1)) ie_int))) (iss_cons (is_if (it_w (iw_or (it_cmp (o_eq tb_nd) (ie_var (pv 4)) ie_int (nomark _)) (iw_or1 (it_cmp (o_eq tb_nd) (ie_ix (ie_var (pv 1)) ie_int) ie_int (nomark _))))) (iss_one (is_ret (ie_tup (ia_cons (ie_wd 16) (ia_cons (ie_var (pv 2)) ia_nil))))) iss_nil) (iss_cons (is_asg (ie_op o_sub (ie_ix (ie_var (pv 1)) ie_int) ie_int) (ig_sub (ie_var (pv 1)) ie_int)) (iss_cons (is_set (i := 5) sc__law_lent.nd (ie_op o_add (ie_op o_add (ie_ix (ie_var (pv 1)) ie_int) ie_int) (ie_call (df__law_taken Z) (hr.mono (by omega)) (ia_cons (ie_var (pv 0)) (ia_cons (ie_var (pv 4)) ia_nil))))) (iss_cons (is_set (i := 6) sc__law_lent.nd (ie_ix (ie_ix (ie_ix (ie_var (pv 1)) ie_int) (ie_ix (ie_var (pv 1)) ie_int)) ie_int)) (iss_cons (is_setLc (j := 7) (i := 8) rfl sc__law_lent.nd (ii_range Z.z_range (ie_ix (ie_ix (ie_ix (ie_var (pv 1)) ie_int) (ie_var (pv 5))) ie_int)) (blkOk_by (N := ["_law_row", "_law_box", "_law_e", "_law_k", "_law_later", "_law_work", "_law_slots", "_law_args", "_law_turn"]) (sc := defScope st__law_lent) (by decide +kernel)) (fun _ _ _ _ _ => pg_name (i := 8) sc__law_lent.nd rfl (Or.inl rfl)) (fun _ _ _ _ _ => its_nil) (fun _ _ _ _ _ => (ie_call (df_gr Z 6).i__law_reckoning (hr.mono (by omega)) (ia_cons (ie_var (pv 0)) (ia_cons (ie_var (pv 6)) (ia_cons ie_int ia_nil))))) (sw_true rfl rfl rfl (by decide +kernel))) (iss_one (is_ret (ie_tup (ia_cons (ie_wd 18) (ia_cons (ie_var (pv 5)) (ia_cons (ie_callTy c_tuple Z.z_tuple (by decide +kernel) (ia_cons (ie_var (pv 7)) ia_nil)) (ia_cons (ie_var (pv 3)) ia_nil)))))))))))))
theorem df__law_lent (Z : Fx K mg base tt ad ac ae) : Df P w K mg base (tb tt) "_law_lent" 9 4 m__law_lent := let ⟨_, Fu⟩ := Z.f__law_lent; ⟨ad 16, Z.g__law_lent, Fu.kp, ok__law_lent Z Fu⟩
structure Ih_bd (P : Program) (w : World) (K : PySem.W.Frag) (mg : Str → Option Value) (base : Heap) (tt : List (Addr × Str)) (ad ac ae : Nat → Addr) (l : Nat) (rec : Nat → List D → M → R D) : Prop where
  i__law_body : Df P w K mg base (tb tt) "_law_body" l 5 (rec 0)
  i__law_drawn : Df P w K mg base (tb tt) "_law_drawn" l 4 (rec 1)
  i__law_try : Df P w K mg base (tb tt) "_law_try" l 5 (rec 2)
theorem ok__law_body (Z : Fx K mg base tt ad ac ae) {fd : FuncData} {n : Nat} {rec : Nat → List D → M → R D} (Fu : Fun K "_law_body" "_law_body" st__law_body (ad 17) fd) (ih : Ih_bd P w K mg base tt ad ac ae (10 + n) rec) : Fn P w K mg base (tb tt) (10 + n + 1) (ad 17) 5 (mkF 5 7 (b__law_body rec)) :=
  fn_mk (k := 10 + n) (g := b__law_body rec) Fu sc__law_body (Fu.binds fun _ _ _ _ _ _ us hl => match us, hl with | [_, _, _, _, _], _ => rfl) fun cdv A outer s H E hr =>
    (iss_cons (is_set (i := 5) sc__law_body.nd (ie_new (il_lst ia_nil))) (iss_cons (is_for (passes_of rfl) rfl (ii_range Z.z_range (ie_call (df__law_taken Z) (hr.mono (by omega)) (ia_cons (ie_var (pv 0)) (ia_cons (ie_op o_add (ie_var (pv 4)) ie_int) ia_nil)))) (ig_name (i := 6) sc__law_body.nd) (iss_one (is_if (it_cmp o_gt (ie_ix (ie_var (pv 1)) ie_int) ie_int (nomark _)) (iss_cons (is_asg (ie_op o_sub (ie_ix (ie_var (pv 1)) ie_int) ie_int) (ig_sub (ie_var (pv 1)) ie_int)) (iss_one (is_expr (ie_app (ie_var (pv 5)) (ie_call (ih.i__law_drawn) (hr.mono (by omega)) (ia_cons (ie_var (pv 0)) (ia_cons (ie_var (pv 1)) (ia_cons (ie_var (pv 2)) (ia_cons (ie_var (pv 3)) ia_nil))))))))) iss_nil))) (iss_one (is_ret (ie_callTy c_tuple Z.z_tuple (by decide +kernel) (ia_cons (ie_var (pv 5)) ia_nil))))))
theorem ok__law_drawn (Z : Fx K mg base tt ad ac ae) {fd : FuncData} {n : Nat} {rec : Nat → List D → M → R D} (Fu : Fun K "_law_drawn" "_law_drawn" st__law_drawn (ad 18) fd) (ih : Ih_bd P w K mg base tt ad ac ae (10 + n) rec) : Fn P w K mg base (tb tt) (10 + n + 1) (ad 18) 4 (mkF 4 9 (b__law_drawn rec)) :=
  fn_mk (k := 10 + n) (g := b__law_drawn rec) Fu sc__law_drawn (Fu.binds fun _ _ _ _ _ _ us hl => match us, hl with | [_, _, _, _], _ => rfl) fun cdv A outer s H E hr =>
    (iss_cons (is_set (i := 4) sc__law_drawn.nd (ie_ix (ie_ix (ie_ix (ie_var (pv 1)) ie_int) (ie_ix (ie_var (pv 1)) ie_int)) ie_int)) (iss_cons (is_set (i := 5) sc__law_drawn.nd (ie_call (df_gr Z 6).i__law_reckoning (hr.mono (by omega)) (ia_cons (ie_var (pv 0)) (ia_cons (ie_var (pv 4)) (ia_cons (ie_call (df__law_taken Z) (hr.mono (by omega)) (ia_cons (ie_var (pv 0)) (ia_cons ie_int ia_nil))) ia_nil))))) (iss_cons (is_set (i := 6) sc__law_drawn.nd (ie_ixL (il_lst (ia_cons ie_non (ia_cons ie_int (ia_cons ie_int (ia_cons ie_int (ia_cons ie_int ia_nil)))))) (ie_call (df__law_taken Z) (hr.mono (by omega)) (ia_cons (ie_var (pv 0)) (ia_cons (ie_op o_add ie_int (ie_var (pv 4))) ia_nil))))) (iss_cons (is_set (i := 7) sc__law_drawn.nd (ie_call (df__law_taken Z) (hr.mono (by omega)) (ia_cons (ie_var (pv 0)) (ia_cons (ie_ixL (il_lst (ia_cons ie_int (ia_cons ie_int ia_nil))) (ie_callTy c_int Z.z_int (by decide +kernel) (ia_cons (ie_cmp o_gt (ie_var (pv 2)) ie_int (nomark _)) ia_nil))) ia_nil)))) (iss_cons (is_if (it_cmp o_lt (ie_var (pv 7)) ie_int (nomark _)) (iss_one (is_ret (ie_tup (ia_cons (ie_wd 15) (ia_cons (ie_call (df__law_taken Z) (hr.mono (by omega)) (ia_cons (ie_var (pv 0)) (ia_cons (ie_var (pv 4)) ia_nil))) (ia_cons (ie_var (pv 5)) ia_nil)))))) iss_nil) (iss_cons (is_if (it_w (iw_or (it_cmp o_lt (ie_var (pv 7)) ie_int (nomark _)) (iw_or1 (it_w (iw_and (it_cmp (o_eq tb_nd) (ie_var (pv 7)) ie_int (nomark _)) (iw_and1 (it_not (it_val (ie_var (pv 3)))))))))) (iss_one (is_ret (ie_tup (ia_cons (ie_wd 16) (ia_cons (ie_var (pv 5)) ia_nil))))) iss_nil) (iss_cons (is_if (it_cmp o_lt (ie_var (pv 7)) ie_int (nomark _)) (iss_one (is_ret (ie_tup (ia_cons (ie_wd 17) (ia_cons (ie_var (pv 5)) (ia_cons (ie_var (pv 6)) ia_nil)))))) iss_nil) (iss_cons (is_if (it_cmp (o_eq tb_nd) (ie_var (pv 7)) ie_int (nomark _)) (iss_one (is_ret (ie_tup (ia_cons (ie_ixL (il_lst (ia_cons (ie_wd 7) (ia_cons (ie_wd 5) ia_nil))) (ie_call (df__law_taken Z) (hr.mono (by omega)) (ia_cons (ie_var (pv 0)) (ia_cons ie_int ia_nil)))) (ia_cons (ie_var (pv 5)) ia_nil))))) iss_nil) (iss_cons (is_if (it_cmp (o_eq tb_nd) (ie_var (pv 7)) ie_int (nomark _)) (iss_one (is_ret (ie_tup (ia_cons (ie_wd 21) ia_nil)))) iss_nil) (iss_cons (is_if (it_cmp o_lt (ie_var (pv 7)) ie_int (nomark _)) (iss_one (is_ret (ie_call (df__law_lent Z) (hr.mono (by omega)) (ia_cons (ie_var (pv 0)) (ia_cons (ie_var (pv 1)) (ia_cons (ie_var (pv 5)) (ia_cons (ie_var (pv 6)) ia_nil))))))) iss_nil) (iss_cons (is_if (it_w (iw_or (it_cmp o_lt (ie_var (pv 7)) ie_int (nomark _)) (iw_or1 (it_w (iw_and (it_cmp (o_eq tb_nd) (ie_var (pv 7)) ie_int (nomark _)) (iw_and1 (it_cmp (o_eq tb_nd) (ie_ix (ie_var (pv 1)) ie_int) ie_int (nomark _)))))))) (iss_one (is_ret (ie_tup (ia_cons (ie_wd 19) (ia_cons (ie_var (pv 5)) (ia_cons (ie_call (ih.i__law_body) (hr.mono (by omega)) (ia_cons (ie_var (pv 0)) (ia_cons (ie_var (pv 1)) (ia_cons (ie_op o_sub (ie_var (pv 2)) ie_int) (ia_cons (ie_var (pv 3)) (ia_cons ie_int ia_nil)))))) (ia_cons (ie_call (ih.i__law_body) (hr.mono (by omega)) (ia_cons (ie_var (pv 0)) (ia_cons (ie_var (pv 1)) (ia_cons (ie_op o_sub (ie_var (pv 2)) ie_int) (ia_cons (ie_var (pv 3)) (ia_cons ie_int ia_nil)))))) ia_nil))))))) iss_nil) (iss_cons (is_if (it_cmp (o_eq tb_nd) (ie_var (pv 7)) ie_int (nomark _)) (iss_cons (is_asg (ie_op o_sub (ie_ix (ie_var (pv 1)) ie_int) ie_int) (ig_sub (ie_var (pv 1)) ie_int)) (iss_cons (is_set (i := 8) sc__law_drawn.nd (ie_ixL (il_lst (ia_cons (ie_tup (ia_cons (ie_wd 8) (ia_cons (ie_call (df__law_taken Z) (hr.mono (by omega)) (ia_cons (ie_var (pv 0)) (ia_cons ie_int ia_nil))) ia_nil))) (ia_cons (ie_var (pv 5)) ia_nil))) (ie_callTy c_int Z.z_int (by decide +kernel) (ia_cons (ie_and (ie_cmp (o_eq tb_nd) (ie_ix (ie_var (pv 1)) ie_int) ie_int (nomark _)) (ie_one (ie_cmp (o_eq tb_nd) (ie_ix (ie_var (pv 1)) ie_int) ie_int (nomark _)))) ia_nil)))) (iss_one (is_ret (ie_tup (ia_cons (ie_wd 20) (ia_cons (ie_var (pv 8)) (ia_cons (ie_call (ih.i__law_body) (hr.mono (by omega)) (ia_cons (ie_var (pv 0)) (ia_cons (ie_var (pv 1)) (ia_cons (ie_op o_sub (ie_var (pv 2)) ie_int) (ia_cons ie_bl (ia_cons ie_int ia_nil)))))) ia_nil)))))))) iss_nil) (iss_one (is_ret (ie_call (ih.i__law_try) (hr.mono (by omega)) (ia_cons (ie_var (pv 0)) (ia_cons (ie_var (pv 1)) (ia_cons (ie_op o_sub (ie_var (pv 2)) ie_int) (ia_cons (ie_var (pv 3)) (ia_cons (ie_var (pv 6)) ia_nil))))))))))))))))))))
theorem ok__law_try (Z : Fx K mg base tt ad ac ae) {fd : FuncData} {n : Nat} {rec : Nat → List D → M → R D} (Fu : Fun K "_law_try" "_law_try" st__law_try (ad 19) fd) (ih : Ih_bd P w K mg base tt ad ac ae (10 + n) rec) : Fn P w K mg base (tb tt) (10 + n + 1) (ad 19) 5 (mkF 5 7 (b__law_try rec)) :=
  fn_mk (k := 10 + n) (g := b__law_try rec) Fu sc__law_try (Fu.binds fun _ _ _ _ _ _ us hl => match us, hl with | [_, _, _, _, _], _ => rfl) fun cdv A outer s H E hr =>
    (iss_cons (is_set (i := 5) sc__law_try.nd (ie_call (ih.i__law_body) (hr.mono (by omega)) (ia_cons (ie_var (pv 0)) (ia_cons (ie_var (pv 1)) (ia_cons (ie_var (pv 2)) (ia_cons (ie_var (pv 3)) (ia_cons ie_int ia_nil))))))) (iss_cons (is_set (i := 6) sc__law_try.nd ie_non) (iss_cons (is_if (it_cmp o_gt (ie_call (df__law_taken Z) (hr.mono (by omega)) (ia_cons (ie_var (pv 0)) (ia_cons ie_int ia_nil))) ie_int (nomark _)) (iss_one (is_set (i := 6) sc__law_try.nd (ie_tup (ia_cons (ie_var (pv 4)) (ia_cons (ie_call (ih.i__law_body) (hr.mono (by omega)) (ia_cons (ie_var (pv 0)) (ia_cons (ie_var (pv 1)) (ia_cons (ie_var (pv 2)) (ia_cons (ie_var (pv 3)) (ia_cons ie_int ia_nil)))))) ia_nil))))) iss_nil) (iss_one (is_ret (ie_tup (ia_cons (ie_wd 22) (ia_cons (ie_var (pv 5)) (ia_cons (ie_var (pv 6)) (ia_cons (ie_call (ih.i__law_body) (hr.mono (by omega)) (ia_cons (ie_var (pv 0)) (ia_cons (ie_var (pv 1)) (ia_cons (ie_var (pv 2)) (ia_cons (ie_var (pv 3)) (ia_cons ie_int ia_nil)))))) ia_nil))))))))))
theorem df_bd (Z : Fx K mg base tt ad ac ae) : ∀ n, Ih_bd P w K mg base tt ad ac ae (10 + n) (m_bd n)
  | 0 => by
    obtain ⟨fd__law_body, F__law_body⟩ := Z.f__law_body
    obtain ⟨fd__law_drawn, F__law_drawn⟩ := Z.f__law_drawn
    obtain ⟨fd__law_try, F__law_try⟩ := Z.f__law_try
    exact ⟨⟨ad 17, Z.g__law_body, F__law_body.kp, fn_bad (k := 9) F__law_body sc__law_body (F__law_body.binds fun _ _ _ _ _ _ us hl => match us, hl with | [_, _, _, _, _], _ => rfl)⟩, ⟨ad 18, Z.g__law_drawn, F__law_drawn.kp, fn_bad (k := 9) F__law_drawn sc__law_drawn (F__law_drawn.binds fun _ _ _ _ _ _ us hl => match us, hl with | [_, _, _, _], _ => rfl)⟩, ⟨ad 19, Z.g__law_try, F__law_try.kp, fn_bad (k := 9) F__law_try sc__law_try (F__law_try.binds fun _ _ _ _ _ _ us hl => match us, hl with | [_, _, _, _, _], _ => rfl)⟩⟩
  | n + 1 => by
    have ih := df_bd Z n
    obtain ⟨fd__law_body, F__law_body⟩ := Z.f__law_body
    obtain ⟨fd__law_drawn, F__law_drawn⟩ := Z.f__law_drawn
    obtain ⟨fd__law_try, F__law_try⟩ := Z.f__law_try
    exact ⟨⟨ad 17, Z.g__law_body, F__law_body.kp, ok__law_body Z F__law_body ih⟩, ⟨ad 18, Z.g__law_drawn, F__law_drawn.kp, ok__law_drawn Z F__law_drawn ih⟩, ⟨ad 19, Z.g__law_try, F__law_try.kp, ok__law_try Z F__law_try ih⟩⟩
theorem ok__law_tower (Z : Fx K mg base tt ad ac ae) {fd : FuncData} (Fu : Fun K "_law_tower" "_law_tower" st__law_tower (ad 20) fd) : Fn P w K mg base (tb tt) 2 (ad 20) 2 m__law_tower_v2 :=
  fn_mk (k := 1) (g := b__law_tower_v2) Fu sc__law_tower (Fu.binds fun _ _ _ _ _ _ us hl => match us, hl with | [_, _], _ => rfl) fun cdv A outer s H E hr =>
    (iss_cons (is_set (i := 2) sc__law_tower.nd (ie_tup (ia_cons (ie_wd 17) (ia_cons (ie_tup (ia_cons (ie_wd 9) (ia_cons ie_int ia_nil))) (ia_cons (ie_ixL (il_lst (ia_cons ie_non (ia_cons ie_int ia_nil))) (ie_call (df__law_taken Z) (hr.mono (by omega)) (ia_cons (ie_var (pv 0)) (ia_cons ie_int ia_nil)))) ia_nil))))) (iss_cons (is_set (i := 3) sc__law_tower.nd (ie_call (df__law_taken Z) (hr.mono (by omega)) (ia_cons (ie_var (pv 0)) (ia_cons ie_int ia_nil)))) (iss_cons (is_if (it_cmp (o_eq tb_nd) (ie_var (pv 3)) ie_int (nomark _)) (iss_cons (is_set (i := 2) sc__law_tower.nd (ie_ixL (il_lst (ia_cons (ie_var (pv 2)) (ia_cons (ie_tup (ia_cons (ie_wd 16) (ia_cons (ie_tup (ia_cons (ie_wd 8) (ia_cons ie_int ia_nil))) ia_nil))) (ia_cons (ie_tup (ia_cons (ie_wd 15) (ia_cons ie_int (ia_cons (ie_tup (ia_cons (ie_wd 10) (ia_cons (ie_tup (ia_cons (ie_wd 9) (ia_cons ie_int ia_nil))) (ia_cons (ie_tup (ia_cons (ie_wd 8) (ia_cons ie_int ia_nil))) ia_nil)))) ia_nil)))) ia_nil)))) (ie_call (df__law_taken Z) (hr.mono (by omega)) (ia_cons (ie_var (pv 0)) (ia_cons ie_int ia_nil))))) (iss_one (is_ret (ie_catT (ie_repT (ie_tup (ia_cons (ie_var (pv 2)) ia_nil)) (ie_call (df__law_taken Z) (hr.mono (by omega)) (ia_cons (ie_var (pv 0)) (ia_cons (ie_op o_sub (ie_var (pv 1)) ie_int) ia_nil)))) (ie_tup (ia_cons (ie_tup (ia_cons (ie_wd 16) (ia_cons (ie_tup (ia_cons (ie_wd 9) (ia_cons ie_int ia_nil))) ia_nil))) (ia_cons (ie_tup (ia_cons (ie_wd 5) (ia_cons (ie_tup (ia_cons (ie_wd 8) (ia_cons (ie_call (df__law_taken Z) (hr.mono (by omega)) (ia_cons (ie_var (pv 0)) (ia_cons ie_int ia_nil))) ia_nil))) ia_nil))) ia_nil))))))) iss_nil) (iss_cons (is_for (passes_of rfl) rfl (ii_range Z.z_range (ie_op o_add ie_int (ie_call (df__law_taken Z) (hr.mono (by omega)) (ia_cons (ie_var (pv 0)) (ia_cons ie_int ia_nil))))) (ig_name (i := 4) sc__law_tower.nd) (iss_cons (is_set (i := 5) sc__law_tower.nd (ie_tup (ia_cons (ie_wd 16) (ia_cons (ie_tup (ia_cons (ie_wd 8) (ia_cons (ie_op o_add ie_int (ie_var (pv 4))) ia_nil))) ia_nil)))) (iss_one (is_if (it_w (iw_or (it_cmp (o_eq tb_nd) (ie_var (pv 3)) ie_int (nomark _)) (iw_or1 (it_w (iw_and (it_cmp (o_eq tb_nd) (ie_var (pv 3)) ie_int (nomark _)) (iw_and1 (it_cmp (o_eq tb_nd) (ie_op o_mod (ie_var (pv 4)) ie_int) ie_int (nomark _)))))))) (iss_one (is_set (i := 2) sc__law_tower.nd (ie_tup (ia_cons (ie_wd 20) (ia_cons (ie_tup (ia_cons (ie_wd 8) (ia_cons (ie_op o_add ie_int (ie_call (df__law_taken Z) (hr.mono (by omega)) (ia_cons (ie_var (pv 0)) (ia_cons ie_int ia_nil)))) ia_nil))) (ia_cons (ie_tup (ia_cons (ie_var (pv 2)) (ia_cons (ie_var (pv 5)) ia_nil))) ia_nil)))))) (iss_cons (is_set (i := 6) sc__law_tower.nd (ie_ixL (il_lst (ia_cons ie_non (ia_cons (ie_tup (ia_cons ie_int (ia_cons (ie_tup (ia_cons (ie_var (pv 5)) ia_nil)) ia_nil))) ia_nil))) (ie_call (df__law_taken Z) (hr.mono (by omega)) (ia_cons (ie_var (pv 0)) (ia_cons ie_int ia_nil))))) (iss_cons (is_set (i := 2) sc__law_tower.nd (ie_tup (ia_cons (ie_wd 22) (ia_cons (ie_ixL (il_lst (ia_cons (ie_tup (ia_cons (ie_var (pv 2)) ia_nil)) (ia_cons (ie_tup (ia_cons (ie_var (pv 5)) ia_nil)) ia_nil))) (ie_call (df__law_taken Z) (hr.mono (by omega)) (ia_cons (ie_var (pv 0)) (ia_cons ie_int ia_nil)))) (ia_cons (ie_var (pv 6)) (ia_cons (ie_tup (ia_cons (ie_var (pv 5)) (ia_cons (ie_var (pv 2)) ia_nil))) ia_nil)))))) (iss_one (is_if (it_cmp (o_neD (hr.units)) (ie_ix (ie_var (pv 2)) ie_int) (ie_tup (ia_cons (ie_var (pv 5)) ia_nil)) (nomark _)) (iss_one (is_set (i := 2) sc__law_tower.nd (ie_catT (ie_cutT (ie_var (pv 2)) io_none (io_some ie_int)) (ie_tup (ia_cons (ie_tup (ia_cons (ie_var (pv 5)) ia_nil)) ia_nil))))) iss_nil)))))))) (iss_one (is_ret (ie_tup (ia_cons (ie_var (pv 2)) (ia_cons (ie_tup (ia_cons (ie_wd 16) (ia_cons (ie_tup (ia_cons (ie_wd 9) (ia_cons ie_int ia_nil))) ia_nil))) ia_nil)))))))))
theorem df__law_tower (Z : Fx K mg base tt ad ac ae) : Df P w K mg base (tb tt) "_law_tower" 2 2 m__law_tower_v2 := let ⟨_, Fu⟩ := Z.f__law_tower; ⟨ad 20, Z.g__law_tower, Fu.kp, ok__law_tower Z Fu⟩
theorem ok__law_program (Z : Fx K mg base tt ad ac ae) {fd : FuncData} (Fu : Fun K "_law_program" "_law_program" st__law_program (ad 21) fd) : Fn P w K mg base (tb tt) 41 (ad 21) 2 m__law_program :=
  fn_mk (k := 40) (g := b__law_program) Fu sc__law_program (Fu.binds fun _ _ _ _ _ _ us hl => match us, hl with | [_, _], _ => rfl) fun cdv A outer s H E hr =>
    (iss_cons (is_set (i := 2) sc__law_program.nd (ie_new (il_lst ia_nil))) (iss_cons (is_for (passes_of rfl) rfl (ii_range Z.z_range (ie_ixL (il_lst (ia_cons ie_int (ia_cons ie_int (ia_cons ie_int (ia_cons ie_int (ia_cons ie_int ia_nil)))))) (ie_call (df__law_taken Z) (hr.mono (by omega)) (ia_cons (ie_var (pv 0)) (ia_cons ie_int ia_nil))))) (ig_name (i := 3) sc__law_program.nd) (iss_cons (is_set (i := 4) sc__law_program.nd (ie_op o_add ie_int (ie_call (df__law_taken Z) (hr.mono (by omega)) (ia_cons (ie_var (pv 0)) (ia_cons ie_int ia_nil))))) (iss_one (is_expr (ie_app (ie_var (pv 2)) (ie_tup (ia_cons (ie_call (df__law_taken Z) (hr.mono (by omega)) (ia_cons (ie_var (pv 0)) (ia_cons (ie_callB (c_min rfl) Z.z_min (by decide +kernel) (ia_cons ie_int (ia_cons (ie_op o_add (ie_var (pv 4)) ie_int) ia_nil))) ia_nil))) (ia_cons (ie_var (pv 4)) ia_nil)))))))) (iss_cons (is_set (i := 5) sc__law_program.nd (ie_new (il_lst ia_nil))) (iss_cons (is_for (passes_of rfl) rfl (ii_range Z.z_range (ie_callB c_len Z.z_len PySem.boot_len (ia_cons (ie_var (pv 2)) ia_nil))) (ig_name (i := 6) sc__law_program.nd) (iss_cons (is_set (i := 7) sc__law_program.nd (ie_new (il_lst (ia_cons (ie_var (pv 6)) (ia_cons (ie_var (pv 2)) (ia_cons (ie_callB (c_min rfl) Z.z_min (by decide +kernel) (ia_cons (ie_var (pv 1)) (ia_cons (ie_ixL (il_lst (ia_cons ie_int (ia_cons ie_int (ia_cons ie_int (ia_cons ie_int ia_nil))))) (ie_call (df__law_taken Z) (hr.mono (by omega)) (ia_cons (ie_var (pv 0)) (ia_cons ie_int ia_nil)))) ia_nil))) (ia_cons ie_int (ia_cons ie_int ia_nil)))))))) (iss_cons (is_set (i := 8) sc__law_program.nd (ie_ixL (il_lst (ia_cons ie_int (ia_cons ie_int (ia_cons ie_int ia_nil)))) (ie_call (df__law_taken Z) (hr.mono (by omega)) (ia_cons (ie_var (pv 0)) (ia_cons ie_int ia_nil))))) (iss_cons (is_set (i := 9) sc__law_program.nd (ie_call (df_bd Z 30).i__law_body (hr.mono (by omega)) (ia_cons (ie_var (pv 0)) (ia_cons (ie_var (pv 7)) (ia_cons (ie_var (pv 8)) (ia_cons ie_bl (ia_cons ie_int ia_nil))))))) (iss_cons (is_if (it_w (iw_and (it_cmp o_gt (ie_var (pv 1)) ie_int (nomark _)) (iw_and1 (it_cmp (o_eq tb_nd) (ie_call (df__law_taken Z) (hr.mono (by omega)) (ia_cons (ie_var (pv 0)) (ia_cons ie_int ia_nil))) ie_int (nomark _))))) (iss_one (is_set (i := 9) sc__law_program.nd (ie_call (df__law_tower Z) (hr.mono (by omega)) (ia_cons (ie_var (pv 0)) (ia_cons ie_int ia_nil))))) iss_nil) (iss_one (is_expr (ie_app (ie_var (pv 5)) (ie_catT (ie_ix (ie_var (pv 2)) (ie_var (pv 6))) (ie_tup (ia_cons (ie_var (pv 9)) ia_nil))))))))))) (iss_one (is_ret (ie_var (pv 5))))))))
theorem df__law_program (Z : Fx K mg base tt ad ac ae) : Df P w K mg base (tb tt) "_law_program" 41 2 m__law_program := let ⟨_, Fu⟩ := Z.f__law_program; ⟨ad 21, Z.g__law_program, Fu.kp, ok__law_program Z Fu⟩
theorem ok_Asker___init__ (Z : Fx K mg base tt ad ac ae) {fd : FuncData} (Fu : Fun K "__init__" "Asker.__init__" st_Asker___init__ (ad 22) fd) : Fn P w K mg base (tb tt) 1 (ad 22) 2 m_Asker___init__ :=
  fn_mk (k := 0) (g := b_Asker___init__) Fu sc_Asker___init__ (Fu.binds fun _ _ _ _ _ _ us hl => match us, hl with | [_, _], _ => rfl) fun cdv A outer s H E hr =>
    (iss_cons (is_fld Z.d_Asker_deeds (ie_var (pv 0)) (ie_var (pv 1))) (iss_cons (is_fld Z.d_Asker_told (ie_var (pv 0)) (ie_new (il_lst ia_nil))) (iss_one (is_fld Z.d_Asker_words (ie_var (pv 0)) (ie_new (il_lst ia_nil))))))
theorem df_Asker___init__ (Z : Fx K mg base tt ad ac ae) : Mr P w K mg base (tb tt) 0 1 2 m_Asker___init__ := let ⟨_, Fu⟩ := Z.f_Asker___init__; ⟨ac 0, ad 22, Z.gc_Asker, Z.mk_Asker, ok_Asker___init__ Z Fu⟩
theorem ok_Asker_begins (Z : Fx K mg base tt ad ac ae) {fd : FuncData} (Fu : Fun K "begins" "Asker.begins" st_Asker_begins (ad 23) fd) : Fn P w K mg base (tb tt) 1 (ad 23) 1 m_Asker_begins :=
  fn_mk (k := 0) (g := b_Asker_begins) Fu sc_Asker_begins (Fu.binds fun _ _ _ _ _ _ us hl => match us, hl with | [_], _ => rfl) fun cdv A outer s H E hr =>
    (iss_one (is_ret (ie_and (ie_cmp o_gt (ie_callB c_len Z.z_len PySem.boot_len (ia_cons (ie_fld Z.d_Asker_deeds (ie_var (pv 0))) ia_nil)) ie_int (nomark _)) (ie_one (ie_cmp (o_eq tb_nd) (ie_ix (ie_ix (ie_fld Z.d_Asker_deeds (ie_var (pv 0))) ie_int) ie_int) (ie_wd 0) (nomark _))))))
theorem df_Asker_begins (Z : Fx K mg base tt ad ac ae) : Md P w K mg base (tb tt) 0 "begins" 1 1 m_Asker_begins := let ⟨_, Fu⟩ := Z.f_Asker_begins; ⟨ac 0, ad 23, Z.gc_Asker, Z.cl_Asker, Z.me_Asker_begins, (by decide +kernel : ("begins" : Str) ∉ flds0 0), ok_Asker_begins Z Fu⟩
theorem ok_Asker_tell (Z : Fx K mg base tt ad ac ae) {fd : FuncData} (Fu : Fun K "tell" "Asker.tell" st_Asker_tell (ad 24) fd) : Fn P w K mg base (tb tt) 1 (ad 24) 2 m_Asker_tell :=
  fn_mk (k := 0) (g := b_Asker_tell) Fu sc_Asker_tell (Fu.binds fun _ _ _ _ _ _ us hl => match us, hl with | [_, _], _ => rfl) fun cdv A outer s H E hr =>
    (iss_cons (is_expr (ie_app (ie_fld Z.d_Asker_told (ie_var (pv 0))) (ie_tup (ia_cons (ie_callTy c_tuple Z.z_tuple (by decide +kernel) (ia_cons (ie_fld Z.d_Asker_words (ie_var (pv 0))) ia_nil)) (ia_cons (ie_var (pv 1)) ia_nil))))) (iss_one (is_fld Z.d_Asker_words (ie_var (pv 0)) (ie_new (il_lst ia_nil)))))
theorem df_Asker_tell (Z : Fx K mg base tt ad ac ae) : Md P w K mg base (tb tt) 0 "tell" 1 2 m_Asker_tell := let ⟨_, Fu⟩ := Z.f_Asker_tell; ⟨ac 0, ad 24, Z.gc_Asker, Z.cl_Asker, Z.me_Asker_tell, (by decide +kernel : ("tell" : Str) ∉ flds0 0), ok_Asker_tell Z Fu⟩
theorem ok_Asker_do_the_rest (Z : Fx K mg base tt ad ac ae) {fd : FuncData} (Fu : Fun K "do_the_rest" "Asker.do_the_rest" st_Asker_do_the_rest (ad 25) fd) : Fn P w K mg base (tb tt) 2 (ad 25) 1 m_Asker_do_the_rest :=
  fn_mk (k := 1) (g := b_Asker_do_the_rest) Fu sc_Asker_do_the_rest (Fu.binds fun _ _ _ _ _ _ us hl => match us, hl with | [_], _ => rfl) fun cdv A outer s H E hr =>
    (iss_cons (is_set (i := 1) sc_Asker_do_the_rest.nd (ie_callB c_len Z.z_len PySem.boot_len (ia_cons (ie_fld Z.d_Asker_told (ie_var (pv 0))) ia_nil))) (iss_one (is_for (passes_of rfl) rfl (ii_new (il_cut (ie_fld Z.d_Asker_deeds (ie_var (pv 0))) (io_some (ie_var (pv 1))) io_none)) (ig_name (i := 2) sc_Asker_do_the_rest.nd) (iss_one (is_if (it_cmp (o_eq tb_nd) (ie_ix (ie_var (pv 2)) ie_int) (ie_wd 0) (nomark _)) (iss_one (is_expr (ie_meth (ie_var (pv 0)) (df_Asker_tell Z) (hr.mono (by omega)) (ia_cons (ie_tup (ia_cons (ie_wd 6) ia_nil)) ia_nil)))) (iss_one (is_if (it_cmp (o_eq tb_nd) (ie_ix (ie_var (pv 2)) ie_int) (ie_wd 1) (nomark _)) (iss_one (is_expr (ie_meth (ie_var (pv 0)) (df_Asker_tell Z) (hr.mono (by omega)) (ia_cons (ie_tup (ia_cons (ie_wd 7) (ia_cons (ie_ix (ie_var (pv 2)) ie_int) ia_nil))) ia_nil)))) (iss_one (is_expr (ie_meth (ie_var (pv 0)) (df_Asker_tell Z) (hr.mono (by omega)) (ia_cons (ie_tup (ia_cons (ie_wd 2) ia_nil)) ia_nil)))))))))))
theorem df_Asker_do_the_rest (Z : Fx K mg base tt ad ac ae) : Md P w K mg base (tb tt) 0 "do_the_rest" 2 1 m_Asker_do_the_rest := let ⟨_, Fu⟩ := Z.f_Asker_do_the_rest; ⟨ac 0, ad 25, Z.gc_Asker, Z.cl_Asker, Z.me_Asker_do_the_rest, (by decide +kernel : ("do_the_rest" : Str) ∉ flds0 0), ok_Asker_do_the_rest Z Fu⟩
theorem ok_Asker_deed (Z : Fx K mg base tt ad ac ae) {fd : FuncData} (Fu : Fun K "deed" "Asker.deed" st_Asker_deed (ad 26) fd) : Fn P w K mg base (tb tt) 1 (ad 26) 1 m_Asker_deed :=
  fn_mk (k := 0) (g := b_Asker_deed) Fu sc_Asker_deed (Fu.binds fun _ _ _ _ _ _ us hl => match us, hl with | [_], _ => rfl) fun cdv A outer s H E hr =>
    (iss_one (is_ret (ie_ix (ie_fld Z.d_Asker_deeds (ie_var (pv 0))) (ie_callB c_len Z.z_len PySem.boot_len (ia_cons (ie_fld Z.d_Asker_told (ie_var (pv 0))) ia_nil)))))
theorem df_Asker_deed (Z : Fx K mg base tt ad ac ae) : Md P w K mg base (tb tt) 0 "deed" 1 1 m_Asker_deed := let ⟨_, Fu⟩ := Z.f_Asker_deed; ⟨ac 0, ad 26, Z.gc_Asker, Z.cl_Asker, Z.me_Asker_deed, (by decide +kernel : ("deed" : Str) ∉ flds0 0), ok_Asker_deed Z Fu⟩
theorem ok_Asker_see_out (Z : Fx K mg base tt ad ac ae) {fd : FuncData} (Fu : Fun K "see_out" "Asker.see_out" st_Asker_see_out (ad 27) fd) : Fn P w K mg base (tb tt) 2 (ad 27) 2 m_Asker_see_out :=
  fn_mk (k := 1) (g := b_Asker_see_out) Fu sc_Asker_see_out (Fu.binds fun _ _ _ _ _ _ us hl => match us, hl with | [_, _], _ => rfl) fun cdv A outer s H E hr =>
    (iss_one (is_if (it_w (iw_and (it_cmp (o_eq tb_nd) (ie_ix (ie_var (pv 1)) ie_int) (ie_wd 5) (nomark _)) (iw_and1 (it_cmp (o_eq tb_nd) (ie_ix (ie_meth0 (ie_var (pv 0)) (df_Asker_deed Z) (hr.mono (by omega))) ie_int) (ie_wd 2) (nomark _))))) (iss_one (is_expr (ie_meth (ie_var (pv 0)) (df_Asker_tell Z) (hr.mono (by omega)) (ia_cons (ie_tup (ia_cons (ie_wd 2) ia_nil)) ia_nil)))) (iss_one (is_expr (ie_meth (ie_var (pv 0)) (df_Asker_tell Z) (hr.mono (by omega)) (ia_cons (ie_var (pv 1)) ia_nil))))))
theorem df_Asker_see_out (Z : Fx K mg base tt ad ac ae) : Md P w K mg base (tb tt) 0 "see_out" 2 2 m_Asker_see_out := let ⟨_, Fu⟩ := Z.f_Asker_see_out; ⟨ac 0, ad 27, Z.gc_Asker, Z.cl_Asker, Z.me_Asker_see_out, (by decide +kernel : ("see_out" : Str) ∉ flds0 0), ok_Asker_see_out Z Fu⟩
theorem ok_Walk___init__ (Z : Fx K mg base tt ad ac ae) {fd : FuncData} (Fu : Fun K "__init__" "Walk.__init__" st_Walk___init__ (ad 28) fd) : Fn P w K mg base (tb tt) 1 (ad 28) 4 m_Walk___init__ :=
  fn_mk (k := 0) (g := b_Walk___init__) Fu sc_Walk___init__ (Fu.binds fun _ _ _ _ _ _ us hl => match us, hl with | [_, _, _, _], _ => rfl) fun cdv A outer s H E hr =>
    (iss_cons (is_fld Z.d_Walk_program (ie_var (pv 0)) (ie_var (pv 1))) (iss_cons (is_fld Z.d_Walk_slots (ie_var (pv 0)) (ie_var (pv 2))) (iss_one (is_fld Z.d_Walk_asker (ie_var (pv 0)) (ie_var (pv 3))))))
theorem df_Walk___init__ (Z : Fx K mg base tt ad ac ae) : Mr P w K mg base (tb tt) 1 1 4 m_Walk___init__ := let ⟨_, Fu⟩ := Z.f_Walk___init__; ⟨ac 1, ad 28, Z.gc_Walk, Z.mk_Walk, ok_Walk___init__ Z Fu⟩
theorem ok_Asker_say (Z : Fx K mg base tt ad ac ae) {fd : FuncData} (Fu : Fun K "say" "Asker.say" st_Asker_say (ad 29) fd) : Fn P w K mg base (tb tt) 1 (ad 29) 2 m_Asker_say :=
  fn_mk (k := 0) (g := b_Asker_say) Fu sc_Asker_say (Fu.binds fun _ _ _ _ _ _ us hl => match us, hl with | [_, _], _ => rfl) fun cdv A outer s H E hr =>
    (iss_one (is_expr (ie_app (ie_fld Z.d_Asker_words (ie_var (pv 0))) (ie_var (pv 1)))))
theorem df_Asker_say (Z : Fx K mg base tt ad ac ae) : Md P w K mg base (tb tt) 0 "say" 1 2 m_Asker_say := let ⟨_, Fu⟩ := Z.f_Asker_say; ⟨ac 0, ad 29, Z.gc_Asker, Z.cl_Asker, Z.me_Asker_say, (by decide +kernel : ("say" : Str) ∉ flds0 0), ok_Asker_say Z Fu⟩
theorem ok_Asker_take (Z : Fx K mg base tt ad ac ae) {fd : FuncData} (Fu : Fun K "take" "Asker.take" st_Asker_take (ad 30) fd) : Fn P w K mg base (tb tt) 2 (ad 30) 2 m_Asker_take :=
  fn_mk (k := 1) (g := b_Asker_take) Fu sc_Asker_take (Fu.binds fun _ _ _ _ _ _ us hl => match us, hl with | [_, _], _ => rfl) fun cdv A outer s H E hr =>
    (iss_cons (is_if (it_cmp (o_eq tb_nd) (ie_ix (ie_meth0 (ie_var (pv 0)) (df_Asker_deed Z) (hr.mono (by omega))) ie_int) (ie_wd 2) (nomark _)) (iss_cons (is_expr (ie_meth (ie_var (pv 0)) (df_Asker_tell Z) (hr.mono (by omega)) (ia_cons (ie_tup (ia_cons (ie_wd 3) ia_nil)) ia_nil))) (iss_one (is_raise0 PySem.F.excBase_Exception Z.x_Over rfl rfl))) iss_nil) (iss_cons (is_expr (ie_meth (ie_var (pv 0)) (df_Asker_tell Z) (hr.mono (by omega)) (ia_cons (ie_tup (ia_cons (ie_wd 4) (ia_cons (ie_var (pv 1)) ia_nil))) ia_nil))) (iss_cons (is_if (it_cmp (o_eq tb_nd) (ie_callB c_len Z.z_len PySem.boot_len (ia_cons (ie_fld Z.d_Asker_told (ie_var (pv 0))) ia_nil)) (ie_callB c_len Z.z_len PySem.boot_len (ia_cons (ie_fld Z.d_Asker_deeds (ie_var (pv 0))) ia_nil)) (nomark _)) (iss_one (is_raise0 PySem.F.excBase_Exception Z.x_Over rfl rfl)) iss_nil) (iss_one (is_ret (ie_meth0 (ie_var (pv 0)) (df_Asker_deed Z) (hr.mono (by omega))))))))
theorem df_Asker_take (Z : Fx K mg base tt ad ac ae) : Md P w K mg base (tb tt) 0 "take" 2 2 m_Asker_take := let ⟨_, Fu⟩ := Z.f_Asker_take; ⟨ac 0, ad 30, Z.gc_Asker, Z.cl_Asker, Z.me_Asker_take, (by decide +kernel : ("take" : Str) ∉ flds0 0), ok_Asker_take Z Fu⟩
theorem ok_Walk_keep (Z : Fx K mg base tt ad ac ae) {fd : FuncData} (Fu : Fun K "keep" "Walk.keep" st_Walk_keep (ad 31) fd) : Fn P w K mg base (tb tt) 1 (ad 31) 3 m_Walk_keep :=
  fn_mk (k := 0) (g := b_Walk_keep) Fu sc_Walk_keep (Fu.binds fun _ _ _ _ _ _ us hl => match us, hl with | [_, _, _], _ => rfl) fun cdv A outer s H E hr =>
    (iss_one (is_if (it_cmp o_isn (ie_var (pv 1)) ie_non (nomark _)) (iss_one (is_asg (ie_var (pv 2)) (ig_sub (ie_fld Z.d_Walk_slots (ie_var (pv 0))) (ie_var (pv 1))))) iss_nil))
theorem df_Walk_keep (Z : Fx K mg base tt ad ac ae) : Md P w K mg base (tb tt) 1 "keep" 1 3 m_Walk_keep := let ⟨_, Fu⟩ := Z.f_Walk_keep; ⟨ac 1, ad 31, Z.gc_Walk, Z.cl_Walk, Z.me_Walk_keep, (by decide +kernel : ("keep" : Str) ∉ flds0 1), ok_Walk_keep Z Fu⟩
theorem ok_Walk_give (Z : Fx K mg base tt ad ac ae) {fd : FuncData} (Fu : Fun K "give" "Walk.give" st_Walk_give (ad 32) fd) : Fn P w K mg base (tb tt) 3 (ad 32) 3 m_Walk_give :=
  fn_mk (k := 2) (g := b_Walk_give) Fu sc_Walk_give (Fu.binds fun _ _ _ _ _ _ us hl => match us, hl with | [_, _, _], _ => rfl) fun cdv A outer s H E hr =>
    (iss_cons (is_set (i := 3) sc_Walk_give.nd (ie_meth (ie_fld Z.d_Walk_asker (ie_var (pv 0))) (df_Asker_take Z) (hr.mono (by omega)) (ia_cons (ie_var (pv 1)) ia_nil))) (iss_cons (is_if (it_cmp (o_eq tb_nd) (ie_ix (ie_var (pv 3)) ie_int) (ie_wd 0) (nomark _)) (iss_cons (is_expr (ie_meth (ie_var (pv 0)) (df_Walk_keep Z) (hr.mono (by omega)) (ia_cons (ie_var (pv 2)) (ia_cons (ie_ix (ie_var (pv 3)) ie_int) ia_nil)))) (iss_one (is_ret ie_non))) iss_nil) (iss_one (is_ret (ie_if (it_cmp (o_eq tb_nd) (ie_ix (ie_var (pv 3)) ie_int) (ie_wd 1) (nomark _)) (ie_tup (ia_cons (ie_wd 7) (ia_cons (ie_ix (ie_var (pv 3)) ie_int) ia_nil))) (ie_tup (ia_cons (ie_wd 2) ia_nil)))))))
theorem df_Walk_give (Z : Fx K mg base tt ad ac ae) : Md P w K mg base (tb tt) 1 "give" 3 3 m_Walk_give := let ⟨_, Fu⟩ := Z.f_Walk_give; ⟨ac 1, ad 32, Z.gc_Walk, Z.cl_Walk, Z.me_Walk_give, (by decide +kernel : ("give" : Str) ∉ flds0 1), ok_Walk_give Z Fu⟩
theorem ok_reckoned_of_two (Z : Fx K mg base tt ad ac ae) {fd : FuncData} (Fu : Fun K "reckoned_of_two" "reckoned_of_two" st_reckoned_of_two (ad 33) fd) : Fn P w K mg base (tb tt) 1 (ad 33) 3 m_reckoned_of_two :=
  fn_mk (k := 0) (g := b_reckoned_of_two) Fu sc_reckoned_of_two (Fu.binds fun _ _ _ _ _ _ us hl => match us, hl with | [_, _, _], _ => rfl) fun cdv A outer s H E hr =>
    (iss_one (is_match (ie_var (pv 0)) (ics_cons sc_reckoned_of_two.nd (ip_wd tb_nd 10) (iss_one (is_ret (ie_op o_mod (ie_op o_add (ie_var (pv 1)) (ie_var (pv 2))) (ie_cint Z.c_WRAP)))) (ics_cons sc_reckoned_of_two.nd (ip_wd tb_nd 11) (iss_one (is_ret (ie_op o_mod (ie_op o_sub (ie_var (pv 1)) (ie_var (pv 2))) (ie_cint Z.c_WRAP)))) (ics_cons sc_reckoned_of_two.nd (ip_wd tb_nd 12) (iss_one (is_ret (ie_op o_mod (ie_op o_mul (ie_var (pv 1)) (ie_var (pv 2))) (ie_cint Z.c_WRAP)))) (ics_cons sc_reckoned_of_two.nd (ip_wd tb_nd 13) (iss_cons (is_if (it_cmp (o_eq tb_nd) (ie_var (pv 2)) ie_int (nomark _)) (iss_one (is_raise0 PySem.F.excBase_Exception Z.x_NoPart rfl rfl)) iss_nil) (iss_one (is_ret (ie_op o_div (ie_var (pv 1)) (ie_var (pv 2)))))) (ics_cons sc_reckoned_of_two.nd (ip_wd tb_nd 14) (iss_one (is_ret (ie_if (it_cmp o_lt (ie_var (pv 1)) (ie_var (pv 2)) (nomark _)) ie_int ie_int))) (ics_cons sc_reckoned_of_two.nd ip_wild (iss_one (is_ret (ie_if (it_cmp (o_eq tb_nd) (ie_var (pv 1)) (ie_var (pv 2)) (nomark _)) ie_int ie_int))) ics_nil))))))))
theorem df_reckoned_of_two (Z : Fx K mg base tt ad ac ae) : Df P w K mg base (tb tt) "reckoned_of_two" 1 3 m_reckoned_of_two := let ⟨_, Fu⟩ := Z.f_reckoned_of_two; ⟨ad 33, Z.g_reckoned_of_two, Fu.kp, ok_reckoned_of_two Z Fu⟩
structure Ih_rk (P : Program) (w : World) (K : PySem.W.Frag) (mg : Str → Option Value) (base : Heap) (tt : List (Addr × Str)) (ad ac ae : Nat → Addr) (l : Nat) (rec : Nat → List D → M → R D) : Prop where
  i_reckoned : Df P w K mg base (tb tt) "reckoned" l 2 (rec 0)
theorem ok_reckoned (Z : Fx K mg base tt ad ac ae) {fd : FuncData} {n : Nat} {rec : Nat → List D → M → R D} (Fu : Fun K "reckoned" "reckoned" st_reckoned (ad 34) fd) (ih : Ih_rk P w K mg base tt ad ac ae (2 + n) rec) : Fn P w K mg base (tb tt) (2 + n + 1) (ad 34) 2 (mkF 2 7 (b_reckoned rec)) :=
  fn_mk (k := 2 + n) (g := b_reckoned rec) Fu sc_reckoned (Fu.binds fun _ _ _ _ _ _ us hl => match us, hl with | [_, _], _ => rfl) fun cdv A outer s H E hr =>
    (iss_cons (is_if (it_cmp (o_eq tb_nd) (ie_ix (ie_var (pv 0)) ie_int) (ie_wd 8) (nomark _)) (iss_one (is_ret (ie_ix (ie_var (pv 0)) ie_int))) iss_nil) (iss_cons (is_if (it_cmp (o_eq tb_nd) (ie_ix (ie_var (pv 0)) ie_int) (ie_wd 9) (nomark _)) (iss_one (is_ret (ie_ix (ie_var (pv 1)) (ie_ix (ie_var (pv 0)) ie_int)))) iss_nil) (iss_cons (is_asg (ie_var (pv 0)) (ig_tup (is := [2, 3, 4]) rfl sc_reckoned.nd (.cons rfl (Or.inl rfl) (.inl rfl) (.cons rfl (Or.inl rfl) (.inl rfl) (.cons rfl (Or.inl rfl) (.inl rfl) .nil))))) (iss_cons (is_set (i := 5) sc_reckoned.nd (ie_call (ih.i_reckoned) (hr.mono (by omega)) (ia_cons (ie_var (pv 3)) (ia_cons (ie_var (pv 1)) ia_nil)))) (iss_cons (is_set (i := 6) sc_reckoned.nd (ie_call (ih.i_reckoned) (hr.mono (by omega)) (ia_cons (ie_var (pv 4)) (ia_cons (ie_var (pv 1)) ia_nil)))) (iss_one (is_ret (ie_call (df_reckoned_of_two Z) (hr.mono (by omega)) (ia_cons (ie_var (pv 2)) (ia_cons (ie_var (pv 5)) (ia_cons (ie_var (pv 6)) ia_nil)))))))))))
theorem df_rk (Z : Fx K mg base tt ad ac ae) : ∀ n, Ih_rk P w K mg base tt ad ac ae (2 + n) (m_rk n)
  | 0 => by
    obtain ⟨fd_reckoned, F_reckoned⟩ := Z.f_reckoned
    exact ⟨⟨ad 34, Z.g_reckoned, F_reckoned.kp, fn_bad (k := 1) F_reckoned sc_reckoned (F_reckoned.binds fun _ _ _ _ _ _ us hl => match us, hl with | [_, _], _ => rfl)⟩⟩
  | n + 1 => by
    have ih := df_rk Z n
    obtain ⟨fd_reckoned, F_reckoned⟩ := Z.f_reckoned
    exact ⟨⟨ad 34, Z.g_reckoned, F_reckoned.kp, ok_reckoned Z F_reckoned ih⟩⟩
theorem ok_Walk_reckon (Z : Fx K mg base tt ad ac ae) {fd : FuncData} (Fu : Fun K "reckon" "Walk.reckon" st_Walk_reckon (ad 35) fd) : Fn P w K mg base (tb tt) 9 (ad 35) 2 m_Walk_reckon :=
  fn_mk (k := 8) (g := b_Walk_reckon) Fu sc_Walk_reckon (Fu.binds fun _ _ _ _ _ _ us hl => match us, hl with | [_, _], _ => rfl) fun cdv A outer s H E hr =>
    (iss_one (is_ret (ie_call (df_rk Z 6).i_reckoned (hr.mono (by omega)) (ia_cons (ie_var (pv 1)) (ia_cons (ie_fld Z.d_Walk_slots (ie_var (pv 0))) ia_nil)))))
theorem df_Walk_reckon (Z : Fx K mg base tt ad ac ae) : Md P w K mg base (tb tt) 1 "reckon" 9 2 m_Walk_reckon := let ⟨_, Fu⟩ := Z.f_Walk_reckon; ⟨ac 1, ad 35, Z.gc_Walk, Z.cl_Walk, Z.me_Walk_reckon, (by decide +kernel : ("reckon" : Str) ∉ flds0 1), ok_Walk_reckon Z Fu⟩
structure Ih_wk (P : Program) (w : World) (K : PySem.W.Frag) (mg : Str → Option Value) (base : Heap) (tt : List (Addr × Str)) (ad ac ae : Nat → Addr) (l : Nat) (rec : Nat → List D → M → R D) : Prop where
  i_walked : Df P w K mg base (tb tt) "walked" l 4 (rec 0)
  i_Walk_body : Md P w K mg base (tb tt) 1 "body" l 2 (rec 1)
  i_Walk_outcome : Md P w K mg base (tb tt) 1 "outcome" l 2 (rec 2)
  i_Walk_step : Md P w K mg base (tb tt) 1 "step" l 2 (rec 3)
  i_Walk_hand : Md P w K mg base (tb tt) 1 "hand" l 4 (rec 4)
  i_Walk_go_round : Md P w K mg base (tb tt) 1 "go_round" l 3 (rec 5)
  i_Walk_attempt : Md P w K mg base (tb tt) 1 "attempt" l 4 (rec 6)
theorem ok_walked (Z : Fx K mg base tt ad ac ae) {fd : FuncData} {n : Nat} {rec : Nat → List D → M → R D} (Fu : Fun K "walked" "walked" st_walked (ad 36) fd) (ih : Ih_wk P w K mg base tt ad ac ae (10 + n) rec) : Fn P w K mg base (tb tt) (10 + n + 1) (ad 36) 4 (mkF 4 9 (b_walked rec)) :=
  fn_mk (k := 10 + n) (g := b_walked rec) Fu sc_walked (Fu.binds fun _ _ _ _ _ _ us hl => match us, hl with | [_, _, _, _], _ => rfl) fun cdv A outer s H E hr =>
    (iss_cons (is_asg (ie_ix (ie_var (pv 0)) (ie_var (pv 1))) (ig_tup (is := [4, 5, 6]) rfl sc_walked.nd (.cons rfl (Or.inl rfl) (.inl rfl) (.cons rfl (Or.inl rfl) (.inl rfl) (.cons rfl (Or.inl rfl) (.inl rfl) .nil))))) (iss_cons (is_set (i := 7) sc_walked.nd (ie_make (c := 1) (df_Walk___init__ Z) (hr.mono (by omega)) (ia_cons (ie_var (pv 0)) (ia_cons (ie_new (il_cat (il_list Z.z_list (ie_var (pv 2))) (il_rep (il_lst (ia_cons ie_int ia_nil)) (ie_op o_sub (ie_var (pv 5)) (ie_var (pv 4)))))) (ia_cons (ie_var (pv 3)) ia_nil))) rfl)) (iss_cons (is_set (i := 8) sc_walked.nd (ie_meth (ie_var (pv 7)) (ih.i_Walk_body) (hr.mono (by omega)) (ia_cons (ie_var (pv 6)) ia_nil))) (iss_one (is_ret (ie_if (it_cmp o_is (ie_var (pv 8)) ie_non (nomark _)) (ie_tup (ia_cons (ie_wd 5) (ia_cons ie_int ia_nil))) (ie_var (pv 8))))))))
theorem ok_Walk_body (Z : Fx K mg base tt ad ac ae) {fd : FuncData} {n : Nat} {rec : Nat → List D → M → R D} (Fu : Fun K "body" "Walk.body" st_Walk_body (ad 37) fd) (ih : Ih_wk P w K mg base tt ad ac ae (10 + n) rec) : Fn P w K mg base (tb tt) (10 + n + 1) (ad 37) 2 (mkF 2 4 (b_Walk_body rec)) :=
  fn_mk (k := 10 + n) (g := b_Walk_body rec) Fu sc_Walk_body (Fu.binds fun _ _ _ _ _ _ us hl => match us, hl with | [_, _], _ => rfl) fun cdv A outer s H E hr =>
    (iss_cons (is_for (passes_of rfl) rfl (ii_tup (ie_var (pv 1))) (ig_name (i := 2) sc_Walk_body.nd) (iss_cons (is_set (i := 3) sc_Walk_body.nd (ie_meth (ie_var (pv 0)) (ih.i_Walk_outcome) (hr.mono (by omega)) (ia_cons (ie_var (pv 2)) ia_nil))) (iss_one (is_if (it_cmp o_isn (ie_var (pv 3)) ie_non (nomark _)) (iss_one (is_ret (ie_var (pv 3)))) iss_nil)))) (iss_one (is_ret ie_non)))
theorem ok_Walk_outcome (Z : Fx K mg base tt ad ac ae) {fd : FuncData} {n : Nat} {rec : Nat → List D → M → R D} (Fu : Fun K "outcome" "Walk.outcome" st_Walk_outcome (ad 38) fd) (ih : Ih_wk P w K mg base tt ad ac ae (10 + n) rec) : Fn P w K mg base (tb tt) (10 + n + 1) (ad 38) 2 (mkF 2 2 (b_Walk_outcome rec)) :=
  fn_mk (k := 10 + n) (g := b_Walk_outcome rec) Fu sc_Walk_outcome (Fu.binds fun _ _ _ _ _ _ us hl => match us, hl with | [_, _], _ => rfl) fun cdv A outer s H E hr =>
    (iss_one (is_try rfl rfl ⟨rfl, by decide, .inl Z.ge_NoPart⟩ Z.h_NoPart (fun pn xe po => (iss_one (is_ret (ie_meth (ie_var (pv 0)) (ih.i_Walk_step) (hr.mono (by omega)) (ia_cons (ie_var (pv 1)) ia_nil))))) (fun a oe pn => (iss_one (is_ret (ie_tup (ia_cons (ie_wd 7) (ia_cons ie_int ia_nil))))))))
theorem ok_Walk_step (Z : Fx K mg base tt ad ac ae) {fd : FuncData} {n : Nat} {rec : Nat → List D → M → R D} (Fu : Fun K "step" "Walk.step" st_Walk_step (ad 39) fd) (ih : Ih_wk P w K mg base tt ad ac ae (10 + n) rec) : Fn P w K mg base (tb tt) (10 + n + 1) (ad 39) 2 (mkF 2 12 (b_Walk_step rec)) :=
  fn_mk (k := 10 + n) (g := b_Walk_step rec) Fu sc_Walk_step (Fu.binds fun _ _ _ _ _ _ us hl => match us, hl with | [_, _], _ => rfl) fun cdv A outer s H E hr =>
    (iss_cons (is_match (ie_var (pv 1)) (ics_cons sc_Walk_step.nd (ip_seq rfl (ips_cons (ip_wd tb_nd 15) (ips_cons (ip_cap 2) (ips_cons (ip_cap 3) ips_nil)))) (iss_one (is_expr (ie_meth (ie_var (pv 0)) (df_Walk_keep Z) (hr.mono (by omega)) (ia_cons (ie_var (pv 2)) (ia_cons (ie_meth (ie_var (pv 0)) (df_Walk_reckon Z) (hr.mono (by omega)) (ia_cons (ie_var (pv 3)) ia_nil)) ia_nil))))) (ics_cons sc_Walk_step.nd (ip_seq rfl (ips_cons (ip_wd tb_nd 16) (ips_cons (ip_cap 3) ips_nil))) (iss_one (is_expr (ie_meth (ie_fld Z.d_Walk_asker (ie_var (pv 0))) (df_Asker_say Z) (hr.mono (by omega)) (ia_cons (ie_meth (ie_var (pv 0)) (df_Walk_reckon Z) (hr.mono (by omega)) (ia_cons (ie_var (pv 3)) ia_nil)) ia_nil)))) (ics_cons sc_Walk_step.nd (ip_seq rfl (ips_cons (ip_wd tb_nd 17) (ips_cons (ip_cap 3) (ips_cons (ip_cap 2) ips_nil)))) (iss_one (is_ret (ie_meth (ie_var (pv 0)) (df_Walk_give Z) (hr.mono (by omega)) (ia_cons (ie_meth (ie_var (pv 0)) (df_Walk_reckon Z) (hr.mono (by omega)) (ia_cons (ie_var (pv 3)) ia_nil)) (ia_cons (ie_var (pv 2)) ia_nil))))) (ics_cons sc_Walk_step.nd (ip_seq rfl (ips_cons (ip_wd tb_nd 18) (ips_cons (ip_cap 4) (ips_cons (ip_cap 5) (ips_cons (ip_cap 2) ips_nil))))) (iss_one (is_ret (ie_meth (ie_var (pv 0)) (ih.i_Walk_hand) (hr.mono (by omega)) (ia_cons (ie_var (pv 4)) (ia_cons (ie_new (il_lcE (i := 11) rfl sc_Walk_step.nd (ii_tup (ie_var (pv 5))) (blkOk_by (N := ["self", "given", "k", "e", "w", "args", "first", "second", "body", "caught", "last", "arg"]) (sc := defScope st_Walk_step) (by decide +kernel)) (fun _ _ _ _ _ => pg_name (i := 11) sc_Walk_step.nd rfl (Or.inl rfl)) (fun _ _ _ _ _ _ => (ie_meth (ie_var (pv 0)) (df_Walk_reckon Z) (hr.mono (by omega)) (ia_cons (ie_var (pv 11)) ia_nil))))) (ia_cons (ie_var (pv 2)) ia_nil)))))) (ics_cons sc_Walk_step.nd (ip_seq rfl (ips_cons (ip_wd tb_nd 19) (ips_cons (ip_cap 3) (ips_cons (ip_cap 6) (ips_cons (ip_cap 7) ips_nil))))) (iss_one (is_ret (ie_meth (ie_var (pv 0)) (ih.i_Walk_body) (hr.mono (by omega)) (ia_cons (ie_if (it_cmp (o_ne tb_nd) (ie_meth (ie_var (pv 0)) (df_Walk_reckon Z) (hr.mono (by omega)) (ia_cons (ie_var (pv 3)) ia_nil)) ie_int (nomark _)) (ie_var (pv 6)) (ie_var (pv 7))) ia_nil)))) (ics_cons sc_Walk_step.nd (ip_seq rfl (ips_cons (ip_wd tb_nd 20) (ips_cons (ip_cap 3) (ips_cons (ip_cap 8) ips_nil)))) (iss_one (is_ret (ie_meth (ie_var (pv 0)) (ih.i_Walk_go_round) (hr.mono (by omega)) (ia_cons (ie_op o_mod (ie_meth (ie_var (pv 0)) (df_Walk_reckon Z) (hr.mono (by omega)) (ia_cons (ie_var (pv 3)) ia_nil)) ie_int) (ia_cons (ie_var (pv 8)) ia_nil))))) (ics_cons sc_Walk_step.nd (ip_seq rfl (ips_cons (ip_wd tb_nd 21) ips_nil)) (iss_one (is_ret (ie_tup (ia_cons (ie_wd 21) ia_nil)))) (ics_cons sc_Walk_step.nd (ip_seq rfl (ips_cons (ip_wd tb_nd 7) (ips_cons (ip_cap 3) ips_nil))) (iss_one (is_ret (ie_tup (ia_cons (ie_wd 7) (ia_cons (ie_meth (ie_var (pv 0)) (df_Walk_reckon Z) (hr.mono (by omega)) (ia_cons (ie_var (pv 3)) ia_nil)) ia_nil))))) (ics_cons sc_Walk_step.nd (ip_seq rfl (ips_cons (ip_wd tb_nd 5) (ips_cons (ip_cap 3) ips_nil))) (iss_one (is_ret (ie_tup (ia_cons (ie_wd 5) (ia_cons (ie_meth (ie_var (pv 0)) (df_Walk_reckon Z) (hr.mono (by omega)) (ia_cons (ie_var (pv 3)) ia_nil)) ia_nil))))) (ics_cons sc_Walk_step.nd (ip_seq rfl (ips_cons (ip_wd tb_nd 22) (ips_cons (ip_cap 6) (ips_cons (ip_cap 9) (ips_cons (ip_cap 10) ips_nil))))) (iss_one (is_ret (ie_meth (ie_var (pv 0)) (ih.i_Walk_attempt) (hr.mono (by omega)) (ia_cons (ie_var (pv 6)) (ia_cons (ie_var (pv 9)) (ia_cons (ie_var (pv 10)) ia_nil)))))) ics_nil))))))))))) (iss_one (is_ret ie_non)))
theorem ok_Walk_hand (Z : Fx K mg base tt ad ac ae) {fd : FuncData} {n : Nat} {rec : Nat → List D → M → R D} (Fu : Fun K "hand" "Walk.hand" st_Walk_hand (ad 40) fd) (ih : Ih_wk P w K mg base tt ad ac ae (10 + n) rec) : Fn P w K mg base (tb tt) (10 + n + 1) (ad 40) 4 (mkF 4 5 (b_Walk_hand rec)) :=
  fn_mk (k := 10 + n) (g := b_Walk_hand rec) Fu sc_Walk_hand (Fu.binds fun _ _ _ _ _ _ us hl => match us, hl with | [_, _, _, _], _ => rfl) fun cdv A outer s H E hr =>
    (iss_cons (is_set (i := 4) sc_Walk_hand.nd (ie_call (ih.i_walked) (hr.mono (by omega)) (ia_cons (ie_fld Z.d_Walk_program (ie_var (pv 0))) (ia_cons (ie_var (pv 1)) (ia_cons (ie_var (pv 2)) (ia_cons (ie_fld Z.d_Walk_asker (ie_var (pv 0))) ia_nil)))))) (iss_cons (is_if (it_cmp (o_ne tb_nd) (ie_ix (ie_var (pv 4)) ie_int) (ie_wd 5) (nomark _)) (iss_one (is_ret (ie_var (pv 4)))) iss_nil) (iss_cons (is_expr (ie_meth (ie_var (pv 0)) (df_Walk_keep Z) (hr.mono (by omega)) (ia_cons (ie_var (pv 3)) (ia_cons (ie_ix (ie_var (pv 4)) ie_int) ia_nil)))) (iss_one (is_ret ie_non)))))
theorem ok_Walk_go_round (Z : Fx K mg base tt ad ac ae) {fd : FuncData} {n : Nat} {rec : Nat → List D → M → R D} (Fu : Fun K "go_round" "Walk.go_round" st_Walk_go_round (ad 41) fd) (ih : Ih_wk P w K mg base tt ad ac ae (10 + n) rec) : Fn P w K mg base (tb tt) (10 + n + 1) (ad 41) 3 (mkF 3 5 (b_Walk_go_round rec)) :=
  fn_mk (k := 10 + n) (g := b_Walk_go_round rec) Fu sc_Walk_go_round (Fu.binds fun _ _ _ _ _ _ us hl => match us, hl with | [_, _, _], _ => rfl) fun cdv A outer s H E hr =>
    (iss_cons (is_for (passes_of rfl) rfl (ii_range Z.z_range (ie_var (pv 1))) (ig_name (i := 3) sc_Walk_go_round.nd) (iss_cons (is_set (i := 4) sc_Walk_go_round.nd (ie_meth (ie_var (pv 0)) (ih.i_Walk_body) (hr.mono (by omega)) (ia_cons (ie_var (pv 2)) ia_nil))) (iss_cons (is_if (it_cmp (o_eqD (hr.units)) (ie_var (pv 4)) (ie_tup (ia_cons (ie_wd 21) ia_nil)) (nomark _)) (iss_one (is_ret ie_non)) iss_nil) (iss_one (is_if (it_cmp o_isn (ie_var (pv 4)) ie_non (nomark _)) (iss_one (is_ret (ie_var (pv 4)))) iss_nil))))) (iss_one (is_ret ie_non)))
theorem ok_Walk_attempt (Z : Fx K mg base tt ad ac ae) {fd : FuncData} {n : Nat} {rec : Nat → List D → M → R D} (Fu : Fun K "attempt" "Walk.attempt" st_Walk_attempt (ad 42) fd) (ih : Ih_wk P w K mg base tt ad ac ae (10 + n) rec) : Fn P w K mg base (tb tt) (10 + n + 1) (ad 42) 4 (mkF 4 8 (b_Walk_attempt rec)) :=
  fn_mk (k := 10 + n) (g := b_Walk_attempt rec) Fu sc_Walk_attempt (Fu.binds fun _ _ _ _ _ _ us hl => match us, hl with | [_, _, _, _], _ => rfl) fun cdv A outer s H E hr =>
    (iss_cons (is_set (i := 4) sc_Walk_attempt.nd (ie_meth (ie_var (pv 0)) (ih.i_Walk_body) (hr.mono (by omega)) (ia_cons (ie_var (pv 1)) ia_nil))) (iss_cons (is_if (it_w (iw_and (it_cmp o_isn (ie_var (pv 2)) ie_non (nomark _)) (iw_and (it_cmp o_isn (ie_var (pv 4)) ie_non (nomark _)) (iw_and1 (it_cmp (o_eq tb_nd) (ie_ix (ie_var (pv 4)) ie_int) (ie_wd 7) (nomark _)))))) (iss_cons (is_asg (ie_var (pv 2)) (ig_tup (is := [5, 6]) rfl sc_Walk_attempt.nd (.cons rfl (Or.inl rfl) (.inl rfl) (.cons rfl (Or.inl rfl) (.inl rfl) .nil)))) (iss_cons (is_expr (ie_meth (ie_var (pv 0)) (df_Walk_keep Z) (hr.mono (by omega)) (ia_cons (ie_var (pv 5)) (ia_cons (ie_ix (ie_var (pv 4)) ie_int) ia_nil)))) (iss_one (is_set (i := 4) sc_Walk_attempt.nd (ie_meth (ie_var (pv 0)) (ih.i_Walk_body) (hr.mono (by omega)) (ia_cons (ie_var (pv 6)) ia_nil)))))) iss_nil) (iss_cons (is_set (i := 7) sc_Walk_attempt.nd (ie_meth (ie_var (pv 0)) (ih.i_Walk_body) (hr.mono (by omega)) (ia_cons (ie_var (pv 3)) ia_nil))) (iss_one (is_ret (ie_if (it_cmp o_is (ie_var (pv 7)) ie_non (nomark _)) (ie_var (pv 4)) (ie_var (pv 7))))))))
theorem df_wk (Z : Fx K mg base tt ad ac ae) : ∀ n, Ih_wk P w K mg base tt ad ac ae (10 + n) (m_wk n)
  | 0 => by
    obtain ⟨fd_walked, F_walked⟩ := Z.f_walked
    obtain ⟨fd_Walk_body, F_Walk_body⟩ := Z.f_Walk_body
    obtain ⟨fd_Walk_outcome, F_Walk_outcome⟩ := Z.f_Walk_outcome
    obtain ⟨fd_Walk_step, F_Walk_step⟩ := Z.f_Walk_step
    obtain ⟨fd_Walk_hand, F_Walk_hand⟩ := Z.f_Walk_hand
    obtain ⟨fd_Walk_go_round, F_Walk_go_round⟩ := Z.f_Walk_go_round
    obtain ⟨fd_Walk_attempt, F_Walk_attempt⟩ := Z.f_Walk_attempt
    exact ⟨⟨ad 36, Z.g_walked, F_walked.kp, fn_bad (k := 9) F_walked sc_walked (F_walked.binds fun _ _ _ _ _ _ us hl => match us, hl with | [_, _, _, _], _ => rfl)⟩, ⟨ac 1, ad 37, Z.gc_Walk, Z.cl_Walk, Z.me_Walk_body, (by decide +kernel : ("body" : Str) ∉ flds0 1), fn_bad (k := 9) F_Walk_body sc_Walk_body (F_Walk_body.binds fun _ _ _ _ _ _ us hl => match us, hl with | [_, _], _ => rfl)⟩, ⟨ac 1, ad 38, Z.gc_Walk, Z.cl_Walk, Z.me_Walk_outcome, (by decide +kernel : ("outcome" : Str) ∉ flds0 1), fn_bad (k := 9) F_Walk_outcome sc_Walk_outcome (F_Walk_outcome.binds fun _ _ _ _ _ _ us hl => match us, hl with | [_, _], _ => rfl)⟩, ⟨ac 1, ad 39, Z.gc_Walk, Z.cl_Walk, Z.me_Walk_step, (by decide +kernel : ("step" : Str) ∉ flds0 1), fn_bad (k := 9) F_Walk_step sc_Walk_step (F_Walk_step.binds fun _ _ _ _ _ _ us hl => match us, hl with | [_, _], _ => rfl)⟩, ⟨ac 1, ad 40, Z.gc_Walk, Z.cl_Walk, Z.me_Walk_hand, (by decide +kernel : ("hand" : Str) ∉ flds0 1), fn_bad (k := 9) F_Walk_hand sc_Walk_hand (F_Walk_hand.binds fun _ _ _ _ _ _ us hl => match us, hl with | [_, _, _, _], _ => rfl)⟩, ⟨ac 1, ad 41, Z.gc_Walk, Z.cl_Walk, Z.me_Walk_go_round, (by decide +kernel : ("go_round" : Str) ∉ flds0 1), fn_bad (k := 9) F_Walk_go_round sc_Walk_go_round (F_Walk_go_round.binds fun _ _ _ _ _ _ us hl => match us, hl with | [_, _, _], _ => rfl)⟩, ⟨ac 1, ad 42, Z.gc_Walk, Z.cl_Walk, Z.me_Walk_attempt, (by decide +kernel : ("attempt" : Str) ∉ flds0 1), fn_bad (k := 9) F_Walk_attempt sc_Walk_attempt (F_Walk_attempt.binds fun _ _ _ _ _ _ us hl => match us, hl with | [_, _, _, _], _ => rfl)⟩⟩
  | n + 1 => by
    have ih := df_wk Z n
    obtain ⟨fd_walked, F_walked⟩ := Z.f_walked
    obtain ⟨fd_Walk_body, F_Walk_body⟩ := Z.f_Walk_body
    obtain ⟨fd_Walk_outcome, F_Walk_outcome⟩ := Z.f_Walk_outcome
    obtain ⟨fd_Walk_step, F_Walk_step⟩ := Z.f_Walk_step
    obtain ⟨fd_Walk_hand, F_Walk_hand⟩ := Z.f_Walk_hand
    obtain ⟨fd_Walk_go_round, F_Walk_go_round⟩ := Z.f_Walk_go_round
    obtain ⟨fd_Walk_attempt, F_Walk_attempt⟩ := Z.f_Walk_attempt
    exact ⟨⟨ad 36, Z.g_walked, F_walked.kp, ok_walked Z F_walked ih⟩, ⟨ac 1, ad 37, Z.gc_Walk, Z.cl_Walk, Z.me_Walk_body, (by decide +kernel : ("body" : Str) ∉ flds0 1), ok_Walk_body Z F_Walk_body ih⟩, ⟨ac 1, ad 38, Z.gc_Walk, Z.cl_Walk, Z.me_Walk_outcome, (by decide +kernel : ("outcome" : Str) ∉ flds0 1), ok_Walk_outcome Z F_Walk_outcome ih⟩, ⟨ac 1, ad 39, Z.gc_Walk, Z.cl_Walk, Z.me_Walk_step, (by decide +kernel : ("step" : Str) ∉ flds0 1), ok_Walk_step Z F_Walk_step ih⟩, ⟨ac 1, ad 40, Z.gc_Walk, Z.cl_Walk, Z.me_Walk_hand, (by decide +kernel : ("hand" : Str) ∉ flds0 1), ok_Walk_hand Z F_Walk_hand ih⟩, ⟨ac 1, ad 41, Z.gc_Walk, Z.cl_Walk, Z.me_Walk_go_round, (by decide +kernel : ("go_round" : Str) ∉ flds0 1), ok_Walk_go_round Z F_Walk_go_round ih⟩, ⟨ac 1, ad 42, Z.gc_Walk, Z.cl_Walk, Z.me_Walk_attempt, (by decide +kernel : ("attempt" : Str) ∉ flds0 1), ok_Walk_attempt Z F_Walk_attempt ih⟩⟩
theorem ok_asked (Z : Fx K mg base tt ad ac ae) {fd : FuncData} (Fu : Fun K "asked" "asked" st_asked (ad 43) fd) : FnL P w K mg base (tb tt) 152 151 1 (ad 43) m_asked :=
  fnl_mk (k := 151) (j := 151) (g := b_asked) Fu sc_asked (Fu.binds fun _ _ _ _ _ _ us hl => match us, hl with | [_, _], _ => rfl) fun cdv A outer s H E p L params lb fr ws G hr hi LA lo =>
    (iss_cons (is_set (i := 2) sc_asked.nd (ie_make (c := 0) ((df_Asker___init__ Z)).pin (hr.mono (by omega)) (ia_cons (ie_var (pv 0)) ia_nil) rfl)) (iss_cons (is_if (it_val (ie_meth0 (ie_var (pv 2)) ((df_Asker_begins Z)).pin (hr.mono (by omega)))) (iss_one (is_try rfl rfl ⟨rfl, by decide, .inl Z.ge_Over⟩ (Z.h_Over).pin (fun pn xe po => (iss_one (is_expr (ie_meth (ie_var (pv 2)) ((df_Asker_see_out Z)).pin (hr.mono (by omega)) (ia_cons (ie_lamuse LA lo (hr.mono (by omega)) (ia_cons (ie_var (pv 2)) ia_nil) hi) ia_nil))))) (fun a oe pn => (iss_one is_pass)))) iss_nil) (iss_cons (is_expr (ie_meth0 (ie_var (pv 2)) ((df_Asker_do_the_rest Z)).pin (hr.mono (by omega)))) (iss_one (is_ret (ie_fld (Z.d_Asker_told).pin (ie_var (pv 2))))))))
theorem df_asked (Z : Fx K mg base tt ad ac ae) : DfL P w K mg base (tb tt) "asked" 152 151 1 m_asked := let ⟨_, Fu⟩ := Z.f_asked; ⟨ad 43, Z.g_asked, Fu.kp, ok_asked Z Fu⟩
theorem ok_is_whole (Z : Fx K mg base tt ad ac ae) {fd : FuncData} (Fu : Fun K "is_whole" "is_whole" st_is_whole (ad 44) fd) : Fn P w K mg base (tb tt) 1 (ad 44) 3 m_is_whole :=
  fn_mk (k := 0) (g := b_is_whole) Fu sc_is_whole (Fu.binds fun _ _ _ _ _ _ us hl => match us, hl with | [_, _, _], _ => rfl) fun cdv A outer s H E hr =>
    (iss_one (is_ret (ie_and (ie_callB c_isi Z.z_isinstance (by decide +kernel) (ia_cons (ie_var (pv 0)) (ia_cons (ie_ty (t := .int) Z.z_int (by decide +kernel)) ia_nil))) (ie_and (ie_not (ie_callB c_isi Z.z_isinstance (by decide +kernel) (ia_cons (ie_var (pv 0)) (ia_cons (ie_ty (t := .bool) Z.z_bool (by decide +kernel)) ia_nil)))) (ie_one (ie_chain o_le o_le (ie_var (pv 1)) (ie_var (pv 0)) (ie_var (pv 2))))))))
theorem df_is_whole (Z : Fx K mg base tt ad ac ae) : Df P w K mg base (tb tt) "is_whole" 1 3 m_is_whole := let ⟨_, Fu⟩ := Z.f_is_whole; ⟨ad 44, Z.g_is_whole, Fu.kp, ok_is_whole Z Fu⟩
theorem ok_is_deed (Z : Fx K mg base tt ad ac ae) {fd : FuncData} (Fu : Fun K "is_deed" "is_deed" st_is_deed (ad 45) fd) : Fn P w K mg base (tb tt) 2 (ad 45) 1 m_is_deed :=
  fn_mk (k := 1) (g := b_is_deed) Fu sc_is_deed (Fu.binds fun _ _ _ _ _ _ us hl => match us, hl with | [_], _ => rfl) fun cdv A outer s H E hr =>
    (iss_one (is_match (ie_var (pv 0)) (ics_cons sc_is_deed.nd (ip_seq rfl (ips_cons (ip_or (ipo_cons (ip_wd tb_nd 0) (ipo_cons (ip_wd tb_nd 1) ipo_nil))) (ips_cons (ip_cap 1) ips_nil))) (iss_one (is_ret (ie_call (df_is_whole Z) (hr.mono (by omega)) (ia_cons (ie_var (pv 1)) (ia_cons ie_int (ia_cons (ie_cint Z.c_MOST) ia_nil)))))) (ics_cons sc_is_deed.nd (ip_seq rfl (ips_cons (ip_wd tb_nd 2) ips_nil)) (iss_one (is_ret ie_bl)) (ics_cons sc_is_deed.nd ip_wild (iss_one (is_ret ie_bl)) ics_nil)))))
theorem df_is_deed (Z : Fx K mg base tt ad ac ae) : Df P w K mg base (tb tt) "is_deed" 2 1 m_is_deed := let ⟨_, Fu⟩ := Z.f_is_deed; ⟨ad 45, Z.g_is_deed, Fu.kp, ok_is_deed Z Fu⟩
theorem ok_need_work (Z : Fx K mg base tt ad ac ae) {fd : FuncData} (Fu : Fun K "need_work" "need_work" st_need_work (ad 46) fd) : Fn P w K mg base (tb tt) 2 (ad 46) 2 m_need_work :=
  fn_mk (k := 1) (g := b_need_work) Fu sc_need_work (Fu.binds fun _ _ _ _ _ _ us hl => match us, hl with | [_, _], _ => rfl) fun cdv A outer s H E hr =>
    (iss_one (is_if (it_not (it_val (ie_call (df_is_whole Z) (hr.mono (by omega)) (ia_cons (ie_var (pv 1)) (ia_cons ie_int (ia_cons (ie_op o_sub (ie_callB c_len Z.z_len PySem.boot_len (ia_cons (ie_var (pv 0)) ia_nil)) ie_int) ia_nil)))))) (iss_one is_bad) iss_nil))
theorem df_need_work (Z : Fx K mg base tt ad ac ae) : Df P w K mg base (tb tt) "need_work" 2 2 m_need_work := let ⟨_, Fu⟩ := Z.f_need_work; ⟨ad 46, Z.g_need_work, Fu.kp, ok_need_work Z Fu⟩
theorem ok_need_ask (Z : Fx K mg base tt ad ac ae) {fd : FuncData} (Fu : Fun K "need_ask" "need_ask" st_need_ask (ad 47) fd) : Fn P w K mg base (tb tt) 3 (ad 47) 4 m_need_ask :=
  fn_mk (k := 2) (g := b_need_ask) Fu sc_need_ask (Fu.binds fun _ _ _ _ _ _ us hl => match us, hl with | [_, _, _, _], _ => rfl) fun cdv A outer s H E hr =>
    (iss_cons (is_expr (ie_call (df_need_work Z) (hr.mono (by omega)) (ia_cons (ie_var (pv 0)) (ia_cons (ie_var (pv 1)) ia_nil)))) (iss_cons (is_set (i := 4) sc_need_ask.nd (ie_ix (ie_ix (ie_var (pv 0)) (ie_var (pv 1))) ie_int)) (iss_cons (is_if (it_cmp (o_ne tb_nd) (ie_callB c_len Z.z_len PySem.boot_len (ia_cons (ie_var (pv 2)) ia_nil)) (ie_var (pv 4)) (nomark _)) (iss_one is_bad) iss_nil) (iss_cons (is_for (passes_of rfl) rfl (ii_tup (ie_var (pv 2))) (ig_name (i := 5) sc_need_ask.nd) (iss_one (is_if (it_not (it_val (ie_call (df_is_whole Z) (hr.mono (by omega)) (ia_cons (ie_var (pv 5)) (ia_cons ie_int (ia_cons (ie_cint Z.c_MOST) ia_nil)))))) (iss_one is_bad) iss_nil))) (iss_one (is_for (passes_of rfl) rfl (ii_obj (ie_var (pv 3))) (ig_name (i := 6) sc_need_ask.nd) (iss_one (is_if (it_not (it_val (ie_call (df_is_deed Z) (hr.mono (by omega)) (ia_cons (ie_var (pv 6)) ia_nil)))) (iss_one is_bad) iss_nil))))))))
theorem df_need_ask (Z : Fx K mg base tt ad ac ae) : Df P w K mg base (tb tt) "need_ask" 3 4 m_need_ask := let ⟨_, Fu⟩ := Z.f_need_ask; ⟨ad 47, Z.g_need_ask, Fu.kp, ok_need_ask Z Fu⟩
theorem ok_Look___init__ (Z : Fx K mg base tt ad ac ae) {fd : FuncData} (Fu : Fun K "__init__" "Look.__init__" st_Look___init__ (ad 48) fd) : Fn P w K mg base (tb tt) 1 (ad 48) 3 m_Look___init__ :=
  fn_mk (k := 0) (g := b_Look___init__) Fu sc_Look___init__ (Fu.binds fun _ _ _ _ _ _ us hl => match us, hl with | [_, _, _], _ => rfl) fun cdv A outer s H E hr =>
    (iss_cons (is_fld Z.d_Look_program (ie_var (pv 0)) (ie_var (pv 1))) (iss_cons (is_fld Z.d_Look_number (ie_var (pv 0)) (ie_var (pv 2))) (iss_cons (is_fld Z.d_Look_slots (ie_var (pv 0)) (ie_ix (ie_ix (ie_var (pv 1)) (ie_var (pv 2))) ie_int)) (iss_one (is_fld Z.d_Look_many (ie_var (pv 0)) ie_int)))))
theorem df_Look___init__ (Z : Fx K mg base tt ad ac ae) : Mr P w K mg base (tb tt) 2 1 3 m_Look___init__ := let ⟨_, Fu⟩ := Z.f_Look___init__; ⟨ac 2, ad 48, Z.gc_Look, Z.mk_Look, ok_Look___init__ Z Fu⟩
theorem ok_Look_need (Z : Fx K mg base tt ad ac ae) {fd : FuncData} (Fu : Fun K "need" "Look.need" st_Look_need (ad 49) fd) : Fn P w K mg base (tb tt) 1 (ad 49) 2 m_Look_need :=
  fn_mk (k := 0) (g := b_Look_need) Fu sc_Look_need (Fu.binds fun _ _ _ _ _ _ us hl => match us, hl with | [_, _], _ => rfl) fun cdv A outer s H E hr =>
    (iss_one (is_if (it_not (it_val (ie_var (pv 1)))) (iss_one is_bad) iss_nil))
theorem df_Look_need (Z : Fx K mg base tt ad ac ae) : Md P w K mg base (tb tt) 2 "need" 1 2 m_Look_need := let ⟨_, Fu⟩ := Z.f_Look_need; ⟨ac 2, ad 49, Z.gc_Look, Z.cl_Look, Z.me_Look_need, (by decide +kernel : ("need" : Str) ∉ flds0 2), ok_Look_need Z Fu⟩
structure Ih_lr (P : Program) (w : World) (K : PySem.W.Frag) (mg : Str → Option Value) (base : Heap) (tt : List (Addr × Str)) (ad ac ae : Nat → Addr) (l : Nat) (rec : Nat → List D → M → R D) : Prop where
  i_Look_reckoning : Md P w K mg base (tb tt) 2 "reckoning" l 3 (rec 0)
theorem ok_Look_reckoning (Z : Fx K mg base tt ad ac ae) {fd : FuncData} {n : Nat} {rec : Nat → List D → M → R D} (Fu : Fun K "reckoning" "Look.reckoning" st_Look_reckoning (ad 50) fd) (ih : Ih_lr P w K mg base tt ad ac ae (2 + n) rec) : Fn P w K mg base (tb tt) (2 + n + 1) (ad 50) 3 (mkF 3 7 (b_Look_reckoning rec)) :=
  fn_mk (k := 2 + n) (g := b_Look_reckoning rec) Fu sc_Look_reckoning (Fu.binds fun _ _ _ _ _ _ us hl => match us, hl with | [_, _, _], _ => rfl) fun cdv A outer s H E hr =>
    (iss_cons (is_expr (ie_meth (ie_var (pv 0)) (df_Look_need Z) (hr.mono (by omega)) (ia_cons (ie_cmp o_le (ie_var (pv 2)) (ie_cint Z.c_MOST_AROUND_RECKONING) (nomark _)) ia_nil))) (iss_one (is_match (ie_var (pv 1)) (ics_cons sc_Look_reckoning.nd (ip_seq rfl (ips_cons (ip_wd tb_nd 8) (ips_cons (ip_cap 3) ips_nil))) (iss_one (is_expr (ie_meth (ie_var (pv 0)) (df_Look_need Z) (hr.mono (by omega)) (ia_cons (ie_call (df_is_whole Z) (hr.mono (by omega)) (ia_cons (ie_var (pv 3)) (ia_cons ie_int (ia_cons (ie_cint Z.c_MOST) ia_nil)))) ia_nil)))) (ics_cons sc_Look_reckoning.nd (ip_seq rfl (ips_cons (ip_wd tb_nd 9) (ips_cons (ip_cap 4) ips_nil))) (iss_one (is_expr (ie_meth (ie_var (pv 0)) (df_Look_need Z) (hr.mono (by omega)) (ia_cons (ie_call (df_is_whole Z) (hr.mono (by omega)) (ia_cons (ie_var (pv 4)) (ia_cons ie_int (ia_cons (ie_op o_sub (ie_fld Z.d_Look_slots (ie_var (pv 0))) ie_int) ia_nil)))) ia_nil)))) (ics_cons sc_Look_reckoning.nd (ip_seq rfl (ips_cons (ip_or (ipo_cons (ip_wd tb_nd 10) (ipo_cons (ip_wd tb_nd 11) (ipo_cons (ip_wd tb_nd 12) (ipo_cons (ip_wd tb_nd 13) (ipo_cons (ip_wd tb_nd 14) (ipo_cons (ip_wd tb_nd 23) ipo_nil))))))) (ips_cons (ip_cap 5) (ips_cons (ip_cap 6) ips_nil)))) (iss_cons (is_expr (ie_meth (ie_var (pv 0)) (ih.i_Look_reckoning) (hr.mono (by omega)) (ia_cons (ie_var (pv 5)) (ia_cons (ie_op o_add (ie_var (pv 2)) ie_int) ia_nil)))) (iss_one (is_expr (ie_meth (ie_var (pv 0)) (ih.i_Look_reckoning) (hr.mono (by omega)) (ia_cons (ie_var (pv 6)) (ia_cons (ie_op o_add (ie_var (pv 2)) ie_int) ia_nil)))))) (ics_cons sc_Look_reckoning.nd ip_wild (iss_one is_bad) ics_nil)))))))
theorem df_lr (Z : Fx K mg base tt ad ac ae) : ∀ n, Ih_lr P w K mg base tt ad ac ae (2 + n) (m_lr n)
  | 0 => by
    obtain ⟨fd_Look_reckoning, F_Look_reckoning⟩ := Z.f_Look_reckoning
    exact ⟨⟨ac 2, ad 50, Z.gc_Look, Z.cl_Look, Z.me_Look_reckoning, (by decide +kernel : ("reckoning" : Str) ∉ flds0 2), fn_bad (k := 1) F_Look_reckoning sc_Look_reckoning (F_Look_reckoning.binds fun _ _ _ _ _ _ us hl => match us, hl with | [_, _, _], _ => rfl)⟩⟩
  | n + 1 => by
    have ih := df_lr Z n
    obtain ⟨fd_Look_reckoning, F_Look_reckoning⟩ := Z.f_Look_reckoning
    exact ⟨⟨ac 2, ad 50, Z.gc_Look, Z.cl_Look, Z.me_Look_reckoning, (by decide +kernel : ("reckoning" : Str) ∉ flds0 2), ok_Look_reckoning Z F_Look_reckoning ih⟩⟩
theorem ok_Look_handing (Z : Fx K mg base tt ad ac ae) {fd : FuncData} (Fu : Fun K "handing" "Look.handing" st_Look_handing (ad 51) fd) : Fn P w K mg base (tb tt) 9 (ad 51) 3 m_Look_handing :=
  fn_mk (k := 8) (g := b_Look_handing) Fu sc_Look_handing (Fu.binds fun _ _ _ _ _ _ us hl => match us, hl with | [_, _, _], _ => rfl) fun cdv A outer s H E hr =>
    (iss_cons (is_expr (ie_meth (ie_var (pv 0)) (df_Look_need Z) (hr.mono (by omega)) (ia_cons (ie_call (df_is_whole Z) (hr.mono (by omega)) (ia_cons (ie_var (pv 1)) (ia_cons (ie_op o_add (ie_fld Z.d_Look_number (ie_var (pv 0))) ie_int) (ia_cons (ie_op o_sub (ie_callB c_len Z.z_len PySem.boot_len (ia_cons (ie_fld Z.d_Look_program (ie_var (pv 0))) ia_nil)) ie_int) ia_nil)))) ia_nil))) (iss_cons (is_expr (ie_meth (ie_var (pv 0)) (df_Look_need Z) (hr.mono (by omega)) (ia_cons (ie_and (ie_callB c_isi Z.z_isinstance (by decide +kernel) (ia_cons (ie_var (pv 2)) (ia_cons (ie_ty (t := .tuple) Z.z_tuple (by decide +kernel)) ia_nil))) (ie_one (ie_cmp (o_eq tb_nd) (ie_callB c_len Z.z_len PySem.boot_len (ia_cons (ie_var (pv 2)) ia_nil)) (ie_ix (ie_ix (ie_fld Z.d_Look_program (ie_var (pv 0))) (ie_var (pv 1))) ie_int) (nomark _)))) ia_nil))) (iss_one (is_for (passes_of rfl) rfl (ii_tup (ie_var (pv 2))) (ig_name (i := 3) sc_Look_handing.nd) (iss_one (is_expr (ie_meth (ie_var (pv 0)) (df_lr Z 6).i_Look_reckoning (hr.mono (by omega)) (ia_cons (ie_var (pv 3)) (ia_cons ie_int ia_nil)))))))))
theorem df_Look_handing (Z : Fx K mg base tt ad ac ae) : Md P w K mg base (tb tt) 2 "handing" 9 3 m_Look_handing := let ⟨_, Fu⟩ := Z.f_Look_handing; ⟨ac 2, ad 51, Z.gc_Look, Z.cl_Look, Z.me_Look_handing, (by decide +kernel : ("handing" : Str) ∉ flds0 2), ok_Look_handing Z Fu⟩
theorem ok_Look_kept (Z : Fx K mg base tt ad ac ae) {fd : FuncData} (Fu : Fun K "kept" "Look.kept" st_Look_kept (ad 52) fd) : Fn P w K mg base (tb tt) 2 (ad 52) 2 m_Look_kept :=
  fn_mk (k := 1) (g := b_Look_kept) Fu sc_Look_kept (Fu.binds fun _ _ _ _ _ _ us hl => match us, hl with | [_, _], _ => rfl) fun cdv A outer s H E hr =>
    (iss_one (is_expr (ie_meth (ie_var (pv 0)) (df_Look_need Z) (hr.mono (by omega)) (ia_cons (ie_or (ie_cmp o_is (ie_var (pv 1)) ie_non (nomark _)) (ie_one (ie_call (df_is_whole Z) (hr.mono (by omega)) (ia_cons (ie_var (pv 1)) (ia_cons ie_int (ia_cons (ie_op o_sub (ie_fld Z.d_Look_slots (ie_var (pv 0))) ie_int) ia_nil)))))) ia_nil))))
theorem df_Look_kept (Z : Fx K mg base tt ad ac ae) : Md P w K mg base (tb tt) 2 "kept" 2 2 m_Look_kept := let ⟨_, Fu⟩ := Z.f_Look_kept; ⟨ac 2, ad 52, Z.gc_Look, Z.cl_Look, Z.me_Look_kept, (by decide +kernel : ("kept" : Str) ∉ flds0 2), ok_Look_kept Z Fu⟩
structure Ih_lk (P : Program) (w : World) (K : PySem.W.Frag) (mg : Str → Option Value) (base : Heap) (tt : List (Addr × Str)) (ad ac ae : Nat → Addr) (l : Nat) (rec : Nat → List D → M → R D) : Prop where
  i_Look_body : Md P w K mg base (tb tt) 2 "body" l 4 (rec 0)
  i_Look_step : Md P w K mg base (tb tt) 2 "step" l 4 (rec 1)
  i_Look_caught : Md P w K mg base (tb tt) 2 "caught" l 4 (rec 2)
theorem ok_Look_body (Z : Fx K mg base tt ad ac ae) {fd : FuncData} {n : Nat} {rec : Nat → List D → M → R D} (Fu : Fun K "body" "Look.body" st_Look_body (ad 53) fd) (ih : Ih_lk P w K mg base tt ad ac ae (10 + n) rec) : Fn P w K mg base (tb tt) (10 + n + 1) (ad 53) 4 (mkF 4 5 (b_Look_body rec)) :=
  fn_mk (k := 10 + n) (g := b_Look_body rec) Fu sc_Look_body (Fu.binds fun _ _ _ _ _ _ us hl => match us, hl with | [_, _, _, _], _ => rfl) fun cdv A outer s H E hr =>
    (iss_cons (is_expr (ie_meth (ie_var (pv 0)) (df_Look_need Z) (hr.mono (by omega)) (ia_cons (ie_callB c_isi Z.z_isinstance (by decide +kernel) (ia_cons (ie_var (pv 1)) (ia_cons (ie_ty (t := .tuple) Z.z_tuple (by decide +kernel)) ia_nil))) ia_nil))) (iss_one (is_for (passes_of rfl) rfl (ii_tup (ie_var (pv 1))) (ig_name (i := 4) sc_Look_body.nd) (iss_one (is_expr (ie_meth (ie_var (pv 0)) (ih.i_Look_step) (hr.mono (by omega)) (ia_cons (ie_var (pv 4)) (ia_cons (ie_var (pv 2)) (ia_cons (ie_var (pv 3)) ia_nil)))))))))
theorem ok_Look_step (Z : Fx K mg base tt ad ac ae) {fd : FuncData} {n : Nat} {rec : Nat → List D → M → R D} (Fu : Fun K "step" "Look.step" st_Look_step (ad 54) fd) (ih : Ih_lk P w K mg base tt ad ac ae (10 + n) rec) : Fn P w K mg base (tb tt) (10 + n + 1) (ad 54) 4 (mkF 4 13 (b_Look_step rec)) :=
  fn_mk (k := 10 + n) (g := b_Look_step rec) Fu sc_Look_step (Fu.binds fun _ _ _ _ _ _ us hl => match us, hl with | [_, _, _, _], _ => rfl) fun cdv A outer s H E hr =>
    (iss_cons (is_fldA Z.d_Look_many (ie_var (pv 0)) ie_int o_iadd) (iss_cons (is_expr (ie_meth (ie_var (pv 0)) (df_Look_need Z) (hr.mono (by omega)) (ia_cons (ie_and (ie_cmp o_le (ie_fld Z.d_Look_many (ie_var (pv 0))) (ie_cint Z.c_MOST_STEPS) (nomark _)) (ie_one (ie_cmp o_le (ie_var (pv 2)) (ie_cint Z.c_MOST_AROUND_STEP) (nomark _)))) ia_nil))) (iss_one (is_match (ie_var (pv 1)) (ics_cons sc_Look_step.nd (ip_seq rfl (ips_cons (ip_wd tb_nd 15) (ips_cons (ip_cap 4) (ips_cons (ip_cap 5) ips_nil)))) (iss_cons (is_expr (ie_meth (ie_var (pv 0)) (df_Look_need Z) (hr.mono (by omega)) (ia_cons (ie_cmp o_isn (ie_var (pv 4)) ie_non (nomark _)) ia_nil))) (iss_cons (is_expr (ie_meth (ie_var (pv 0)) (df_Look_kept Z) (hr.mono (by omega)) (ia_cons (ie_var (pv 4)) ia_nil))) (iss_one (is_expr (ie_meth (ie_var (pv 0)) (df_lr Z 6).i_Look_reckoning (hr.mono (by omega)) (ia_cons (ie_var (pv 5)) (ia_cons ie_int ia_nil))))))) (ics_cons sc_Look_step.nd (ip_seq rfl (ips_cons (ip_or (ipo_cons (ip_wd tb_nd 16) (ipo_cons (ip_wd tb_nd 7) (ipo_cons (ip_wd tb_nd 5) ipo_nil)))) (ips_cons (ip_cap 5) ips_nil))) (iss_one (is_expr (ie_meth (ie_var (pv 0)) (df_lr Z 6).i_Look_reckoning (hr.mono (by omega)) (ia_cons (ie_var (pv 5)) (ia_cons ie_int ia_nil))))) (ics_cons sc_Look_step.nd (ip_seq rfl (ips_cons (ip_wd tb_nd 17) (ips_cons (ip_cap 5) (ips_cons (ip_cap 4) ips_nil)))) (iss_cons (is_expr (ie_meth (ie_var (pv 0)) (df_lr Z 6).i_Look_reckoning (hr.mono (by omega)) (ia_cons (ie_var (pv 5)) (ia_cons ie_int ia_nil)))) (iss_one (is_expr (ie_meth (ie_var (pv 0)) (df_Look_kept Z) (hr.mono (by omega)) (ia_cons (ie_var (pv 4)) ia_nil))))) (ics_cons sc_Look_step.nd (ip_seq rfl (ips_cons (ip_wd tb_nd 18) (ips_cons (ip_cap 6) (ips_cons (ip_cap 7) (ips_cons (ip_cap 4) ips_nil))))) (iss_cons (is_expr (ie_meth (ie_var (pv 0)) (df_Look_handing Z) (hr.mono (by omega)) (ia_cons (ie_var (pv 6)) (ia_cons (ie_var (pv 7)) ia_nil)))) (iss_one (is_expr (ie_meth (ie_var (pv 0)) (df_Look_kept Z) (hr.mono (by omega)) (ia_cons (ie_var (pv 4)) ia_nil))))) (ics_cons sc_Look_step.nd (ip_seq rfl (ips_cons (ip_wd tb_nd 19) (ips_cons (ip_cap 5) (ips_cons (ip_cap 8) (ips_cons (ip_cap 9) ips_nil))))) (iss_cons (is_expr (ie_meth (ie_var (pv 0)) (df_lr Z 6).i_Look_reckoning (hr.mono (by omega)) (ia_cons (ie_var (pv 5)) (ia_cons ie_int ia_nil)))) (iss_cons (is_expr (ie_meth (ie_var (pv 0)) (ih.i_Look_body) (hr.mono (by omega)) (ia_cons (ie_var (pv 8)) (ia_cons (ie_op o_add (ie_var (pv 2)) ie_int) (ia_cons (ie_var (pv 3)) ia_nil))))) (iss_one (is_expr (ie_meth (ie_var (pv 0)) (ih.i_Look_body) (hr.mono (by omega)) (ia_cons (ie_var (pv 9)) (ia_cons (ie_op o_add (ie_var (pv 2)) ie_int) (ia_cons (ie_var (pv 3)) ia_nil)))))))) (ics_cons sc_Look_step.nd (ip_seq rfl (ips_cons (ip_wd tb_nd 20) (ips_cons (ip_cap 5) (ips_cons (ip_cap 10) ips_nil)))) (iss_cons (is_expr (ie_meth (ie_var (pv 0)) (df_lr Z 6).i_Look_reckoning (hr.mono (by omega)) (ia_cons (ie_var (pv 5)) (ia_cons ie_int ia_nil)))) (iss_one (is_expr (ie_meth (ie_var (pv 0)) (ih.i_Look_body) (hr.mono (by omega)) (ia_cons (ie_var (pv 10)) (ia_cons (ie_op o_add (ie_var (pv 2)) ie_int) (ia_cons ie_bl ia_nil))))))) (ics_cons sc_Look_step.nd (ip_seq rfl (ips_cons (ip_wd tb_nd 21) ips_nil)) (iss_one (is_expr (ie_meth (ie_var (pv 0)) (df_Look_need Z) (hr.mono (by omega)) (ia_cons (ie_var (pv 3)) ia_nil)))) (ics_cons sc_Look_step.nd (ip_seq rfl (ips_cons (ip_wd tb_nd 22) (ips_cons (ip_cap 8) (ips_cons (ip_cap 11) (ips_cons (ip_cap 12) ips_nil))))) (iss_cons (is_expr (ie_meth (ie_var (pv 0)) (ih.i_Look_body) (hr.mono (by omega)) (ia_cons (ie_var (pv 8)) (ia_cons (ie_op o_add (ie_var (pv 2)) ie_int) (ia_cons (ie_var (pv 3)) ia_nil))))) (iss_cons (is_expr (ie_meth (ie_var (pv 0)) (ih.i_Look_caught) (hr.mono (by omega)) (ia_cons (ie_var (pv 11)) (ia_cons (ie_op o_add (ie_var (pv 2)) ie_int) (ia_cons (ie_var (pv 3)) ia_nil))))) (iss_one (is_expr (ie_meth (ie_var (pv 0)) (ih.i_Look_body) (hr.mono (by omega)) (ia_cons (ie_var (pv 12)) (ia_cons (ie_op o_add (ie_var (pv 2)) ie_int) (ia_cons (ie_var (pv 3)) ia_nil)))))))) (ics_cons sc_Look_step.nd ip_wild (iss_one is_bad) ics_nil)))))))))))))
theorem ok_Look_caught (Z : Fx K mg base tt ad ac ae) {fd : FuncData} {n : Nat} {rec : Nat → List D → M → R D} (Fu : Fun K "caught" "Look.caught" st_Look_caught (ad 55) fd) (ih : Ih_lk P w K mg base tt ad ac ae (10 + n) rec) : Fn P w K mg base (tb tt) (10 + n + 1) (ad 55) 4 (mkF 4 6 (b_Look_caught rec)) :=
  fn_mk (k := 10 + n) (g := b_Look_caught rec) Fu sc_Look_caught (Fu.binds fun _ _ _ _ _ _ us hl => match us, hl with | [_, _, _, _], _ => rfl) fun cdv A outer s H E hr =>
    (iss_one (is_match (ie_var (pv 1)) (ics_cons sc_Look_caught.nd ip_non (iss_one is_pass) (ics_cons sc_Look_caught.nd (ip_seq rfl (ips_cons (ip_cap 4) (ips_cons (ip_cap 5) ips_nil))) (iss_cons (is_expr (ie_meth (ie_var (pv 0)) (df_Look_kept Z) (hr.mono (by omega)) (ia_cons (ie_var (pv 4)) ia_nil))) (iss_one (is_expr (ie_meth (ie_var (pv 0)) (ih.i_Look_body) (hr.mono (by omega)) (ia_cons (ie_var (pv 5)) (ia_cons (ie_var (pv 2)) (ia_cons (ie_var (pv 3)) ia_nil))))))) (ics_cons sc_Look_caught.nd ip_wild (iss_one is_bad) ics_nil)))))
theorem df_lk (Z : Fx K mg base tt ad ac ae) : ∀ n, Ih_lk P w K mg base tt ad ac ae (10 + n) (m_lk n)
  | 0 => by
    obtain ⟨fd_Look_body, F_Look_body⟩ := Z.f_Look_body
    obtain ⟨fd_Look_step, F_Look_step⟩ := Z.f_Look_step
    obtain ⟨fd_Look_caught, F_Look_caught⟩ := Z.f_Look_caught
    exact ⟨⟨ac 2, ad 53, Z.gc_Look, Z.cl_Look, Z.me_Look_body, (by decide +kernel : ("body" : Str) ∉ flds0 2), fn_bad (k := 9) F_Look_body sc_Look_body (F_Look_body.binds fun _ _ _ _ _ _ us hl => match us, hl with | [_, _, _, _], _ => rfl)⟩, ⟨ac 2, ad 54, Z.gc_Look, Z.cl_Look, Z.me_Look_step, (by decide +kernel : ("step" : Str) ∉ flds0 2), fn_bad (k := 9) F_Look_step sc_Look_step (F_Look_step.binds fun _ _ _ _ _ _ us hl => match us, hl with | [_, _, _, _], _ => rfl)⟩, ⟨ac 2, ad 55, Z.gc_Look, Z.cl_Look, Z.me_Look_caught, (by decide +kernel : ("caught" : Str) ∉ flds0 2), fn_bad (k := 9) F_Look_caught sc_Look_caught (F_Look_caught.binds fun _ _ _ _ _ _ us hl => match us, hl with | [_, _, _, _], _ => rfl)⟩⟩
  | n + 1 => by
    have ih := df_lk Z n
    obtain ⟨fd_Look_body, F_Look_body⟩ := Z.f_Look_body
    obtain ⟨fd_Look_step, F_Look_step⟩ := Z.f_Look_step
    obtain ⟨fd_Look_caught, F_Look_caught⟩ := Z.f_Look_caught
    exact ⟨⟨ac 2, ad 53, Z.gc_Look, Z.cl_Look, Z.me_Look_body, (by decide +kernel : ("body" : Str) ∉ flds0 2), ok_Look_body Z F_Look_body ih⟩, ⟨ac 2, ad 54, Z.gc_Look, Z.cl_Look, Z.me_Look_step, (by decide +kernel : ("step" : Str) ∉ flds0 2), ok_Look_step Z F_Look_step ih⟩, ⟨ac 2, ad 55, Z.gc_Look, Z.cl_Look, Z.me_Look_caught, (by decide +kernel : ("caught" : Str) ∉ flds0 2), ok_Look_caught Z F_Look_caught ih⟩⟩
theorem ok_Look_whole_work (Z : Fx K mg base tt ad ac ae) {fd : FuncData} (Fu : Fun K "whole_work" "Look.whole_work" st_Look_whole_work (ad 56) fd) : Fn P w K mg base (tb tt) 41 (ad 56) 1 m_Look_whole_work :=
  fn_mk (k := 40) (g := b_Look_whole_work) Fu sc_Look_whole_work (Fu.binds fun _ _ _ _ _ _ us hl => match us, hl with | [_], _ => rfl) fun cdv A outer s H E hr =>
    (iss_cons (is_asg (ie_ix (ie_fld Z.d_Look_program (ie_var (pv 0))) (ie_fld Z.d_Look_number (ie_var (pv 0)))) (ig_tup (is := [1, 2, 3]) rfl sc_Look_whole_work.nd (.cons rfl (Or.inl rfl) (.inl rfl) (.cons rfl (Or.inl rfl) (.inl rfl) (.cons rfl (Or.inl rfl) (.inl rfl) .nil))))) (iss_cons (is_expr (ie_meth (ie_var (pv 0)) (df_Look_need Z) (hr.mono (by omega)) (ia_cons (ie_call (df_is_whole Z) (hr.mono (by omega)) (ia_cons (ie_var (pv 2)) (ia_cons ie_int (ia_cons (ie_cint Z.c_MOST_SLOTS) ia_nil)))) ia_nil))) (iss_cons (is_expr (ie_meth (ie_var (pv 0)) (df_Look_need Z) (hr.mono (by omega)) (ia_cons (ie_call (df_is_whole Z) (hr.mono (by omega)) (ia_cons (ie_var (pv 1)) (ia_cons ie_int (ia_cons (ie_callB (c_min rfl) Z.z_min (by decide +kernel) (ia_cons (ie_cint Z.c_MOST_PARAMS) (ia_cons (ie_var (pv 2)) ia_nil))) ia_nil)))) ia_nil))) (iss_one (is_expr (ie_meth (ie_var (pv 0)) (df_lk Z 30).i_Look_body (hr.mono (by omega)) (ia_cons (ie_var (pv 3)) (ia_cons ie_int (ia_cons ie_bl ia_nil)))))))))
theorem df_Look_whole_work (Z : Fx K mg base tt ad ac ae) : Md P w K mg base (tb tt) 2 "whole_work" 41 1 m_Look_whole_work := let ⟨_, Fu⟩ := Z.f_Look_whole_work; ⟨ac 2, ad 56, Z.gc_Look, Z.cl_Look, Z.me_Look_whole_work, (by decide +kernel : ("whole_work" : Str) ∉ flds0 2), ok_Look_whole_work Z Fu⟩
theorem ok_need_program (Z : Fx K mg base tt ad ac ae) {fd : FuncData} (Fu : Fun K "need_program" "need_program" st_need_program (ad 57) fd) : Fn P w K mg base (tb tt) 42 (ad 57) 1 m_need_program :=
  fn_mk (k := 41) (g := b_need_program) Fu sc_need_program (Fu.binds fun _ _ _ _ _ _ us hl => match us, hl with | [_], _ => rfl) fun cdv A outer s H E hr =>
    (iss_cons (is_if (it_not (it_chain o_le o_le ie_int (ie_callB c_len Z.z_len PySem.boot_len (ia_cons (ie_var (pv 0)) ia_nil)) (ie_cint Z.c_MOST_WORKS))) (iss_one is_bad) iss_nil) (iss_one (is_for (passes_of rfl) rfl (ii_range Z.z_range (ie_callB c_len Z.z_len PySem.boot_len (ia_cons (ie_var (pv 0)) ia_nil))) (ig_name (i := 1) sc_need_program.nd) (iss_one (is_expr (ie_meth0 (ie_make (c := 2) (df_Look___init__ Z) (hr.mono (by omega)) (ia_cons (ie_var (pv 0)) (ia_cons (ie_var (pv 1)) ia_nil)) rfl) (df_Look_whole_work Z) (hr.mono (by omega))))))))
theorem df_need_program (Z : Fx K mg base tt ad ac ae) : Df P w K mg base (tb tt) "need_program" 42 1 m_need_program := let ⟨_, Fu⟩ := Z.f_need_program; ⟨ad 57, Z.g_need_program, Fu.kp, ok_need_program Z Fu⟩
theorem ok_played (Z : Fx K mg base tt ad ac ae) {fd : FuncData} (Fu : Fun K "played" "played" st_played (ad 58) fd) : Fn P w K mg base (tb tt) 153 (ad 58) 4 m_played :=
  fn_mkT (k := 152) (g := b_played) Fu sc_played (Fu.binds fun _ _ _ _ _ _ us hl => match us, hl with | [_, _, _, _], _ => rfl) Z.t_played fun cdv A outer s H E tbh hr =>
    (iss_cons (is_expr (ie_call (df_need_program Z) (hr.mono (by omega)) (ia_cons (ie_var (pv 0)) ia_nil))) (iss_cons (is_expr (ie_call (df_need_ask Z) (hr.mono (by omega)) (ia_cons (ie_var (pv 0)) (ia_cons (ie_var (pv 1)) (ia_cons (ie_var (pv 2)) (ia_cons (ie_var (pv 3)) ia_nil)))))) (iss_one (is_ret (ie_lamcall (sc := defScope st_played) (j := 150) (js := [0, 1, 2]) (N := ["asker", "program", "work", "numbers"]) (ps := ["asker"]) (fr := ["program", "work", "numbers"]) (df_asked Z) (hr.mono (by omega)) (ie_var (pv 3)) tbh (NdefX.nscope_by (by decide +kernel)) (by decide +kernel) (fun _ _ _ _ _ us hl => match us, hl with | [_], _ => rfl) rfl (fun _ _ _ _ _ _ _ _ _ hr => (ie_call (df_wk Z 140).i_walked (hr.mono (by omega)) (ia_cons (ie_var (pv 1)) (ia_cons (ie_var (pv 2)) (ia_cons (ie_var (pv 3)) (ia_cons (ie_var (pv 0)) ia_nil)))))))))))
theorem df_played (Z : Fx K mg base tt ad ac ae) : Df P w K mg base (tb tt) "played" 153 4 m_played := let ⟨_, Fu⟩ := Z.f_played; ⟨ad 58, Z.g_played, Fu.kp, ok_played Z Fu⟩
end
end K04

set_option Elab.async false
set_option linter.all false
set_option autoImplicit false
set_option maxRecDepth 100000
set_option maxHeartbeats 8000000
namespace K04
open PySem PySem.Spec PyProof.Rows L2 Sh Mi
section
variable {P : Program} {w : World} {K : PySem.W.Frag} {mg : Str → Option Value} {base : Heap} {tt : List (Addr × Str)} {ad ac ae : Nat → Addr}
theorem okl_law (Z : Fx K mg base tt ad ac ae) {fd : FuncData} (Fu : Fun K "law" "law" st_law (ad 59) fd) : FnOk P w K mg base (L2.CX P w) 154 (ad 59) fd ["_law_script"] (spI K mg (tb tt) 1 m_law_k04) :=
  fnok_mk (k := 153) (g := b_law_k04) Fu sc_law (Fu.binds fun _ _ _ _ _ _ us hl => match us, hl with | [_], _ => rfl) fun cdv A outer s H E hr =>
    (iss_cons (is_set (i := 1) sc_law.nd (ie_new (il_lst (ia_cons (ie_var (pv 0)) (ia_cons ie_int (ia_cons ie_int (ia_cons ie_int ia_nil))))))) (iss_cons (is_set (i := 2) sc_law.nd (ie_call (df__law_program Z) (hr.mono (by omega)) (ia_cons (ie_var (pv 1)) (ia_cons ie_int ia_nil)))) (iss_cons (is_for (passes_of rfl) rfl (ii_range Z.z_range ie_int) (ig_name (i := 3) sc_law.nd) (iss_cons (is_set (i := 4) sc_law.nd (ie_call (df__law_taken Z) (hr.mono (by omega)) (ia_cons (ie_var (pv 1)) (ia_cons (ie_callB c_len Z.z_len PySem.boot_len (ia_cons (ie_var (pv 2)) ia_nil)) ia_nil)))) (iss_cons (is_set (i := 5) sc_law.nd (ie_call (df__law_numbers Z) (hr.mono (by omega)) (ia_cons (ie_var (pv 1)) (ia_cons (ie_ix (ie_ix (ie_var (pv 2)) (ie_var (pv 4))) ie_int) ia_nil)))) (iss_cons (is_set (i := 6) sc_law.nd (ie_call (df__law_deeds Z) (hr.mono (by omega)) (ia_cons (ie_var (pv 1)) (ia_cons (ie_ixL (il_lst (ia_cons ie_int (ia_cons ie_int ia_nil))) (ie_op o_div (ie_call (df__law_taken Z) (hr.mono (by omega)) (ia_cons (ie_var (pv 1)) (ia_cons ie_int ia_nil))) ie_int)) ia_nil)))) (iss_cons (is_set (i := 7) sc_law.nd (ie_call (df__law_due Z) (hr.mono (by omega)) (ia_cons (ie_var (pv 2)) (ia_cons (ie_var (pv 4)) (ia_cons (ie_var (pv 5)) (ia_cons (ie_var (pv 6)) ia_nil)))))) (iss_cons (is_set (i := 8) sc_law.nd (ie_new (il_lst (ia_cons (ie_new (il_list Z.z_list (ie_var (pv 2)))) (ia_cons (ie_new (il_list Z.z_list (ie_var (pv 6)))) ia_nil))))) (iss_cons (is_set (i := 9) sc_law.nd (ie_call (df_played Z) (hr.mono (by omega)) (ia_cons (ie_ix (ie_var (pv 8)) ie_int) (ia_cons (ie_var (pv 4)) (ia_cons (ie_var (pv 5)) (ia_cons (ie_ix (ie_var (pv 8)) ie_int) ia_nil)))))) (iss_cons (is_if (it_w (iw_or (it_not (it_val (ie_call (df_ga2 Z 8).i__law_alike (hr.mono (by omega)) (ia_cons (ie_var (pv 9)) (ia_cons (ie_var (pv 7)) ia_nil))))) (iw_or1 (it_cmp (o_neD (hr.units)) (ie_var (pv 8)) (ie_new (il_lst (ia_cons (ie_var (pv 2)) (ia_cons (ie_var (pv 6)) ia_nil)))) (nomark _))))) (iss_one (is_ret ie_bl)) iss_nil) (iss_cons (is_expr (ie_clear (ie_var (pv 9)))) (iss_one (is_if (it_not (it_val (ie_call (df_ga2 Z 8).i__law_alike (hr.mono (by omega)) (ia_cons (ie_call (df_played Z) (hr.mono (by omega)) (ia_cons (ie_ix (ie_var (pv 8)) ie_int) (ia_cons (ie_var (pv 4)) (ia_cons (ie_var (pv 5)) (ia_cons (ie_ix (ie_var (pv 8)) ie_int) ia_nil))))) (ia_cons (ie_var (pv 7)) ia_nil))))) (iss_one (is_ret ie_bl)) iss_nil))))))))))) (iss_one (is_ret ie_bl)))))
end
end K04

set_option linter.all false
set_option autoImplicit false
set_option maxRecDepth 10000
set_option maxHeartbeats 1000000
/-! Hb: the law's script, reckonings, numbers and deeds that are drawn of it; stores that are the same but here and there. -/
namespace Hb
open PySem L2 Sh Mi Tw
/-- the law's row of numbers stands at r -/
def Row (xs : List Int) (r : Nat) (m : M) : Prop := ∃ a b c : Int, 0 ≤ a ∧ m[r]? = some (.lst [.frl (xs.map .int), .int a, .int b, .int c])
/-- .. and nothing else was changed -/
def Rw (xs : List Int) (r : Nat) (m m' : M) : Prop := Row xs r m' ∧ m.length ≤ m'.length ∧ ∀ k, k < m.length → k ≠ r → m'[k]? = m[k]?
theorem Row.lt {xs : List Int} {r : Nat} {m : M} (h : Row xs r m) : r < m.length := by
  obtain ⟨a, b, c, _, h⟩ := h
  exact (List.getElem?_eq_some_iff.mp h).1
theorem Row.set {xs : List Int} {r k : Nat} {m : M} (h : Row xs r m) (o : O) (hk : k ≠ r) : Row xs r (m.set k o) := by
  obtain ⟨a, b, c, h0, h⟩ := h
  exact ⟨a, b, c, h0, by rw [List.getElem?_set_ne hk]; exact h⟩
theorem Row.add {xs : List Int} {r : Nat} {m : M} (h : Row xs r m) (g : M) : Row xs r (m ++ g) := by
  have := h.lt
  obtain ⟨a, b, c, h0, h⟩ := h
  exact ⟨a, b, c, h0, by rw [List.getElem?_append_left this]; exact h⟩
theorem Rw.row {xs : List Int} {r : Nat} {m m' : M} (h : Rw xs r m m') : Row xs r m' := h.1
theorem Rw.len {xs : List Int} {r : Nat} {m m' : M} (h : Rw xs r m m') : m.length ≤ m'.length := h.2.1
theorem Rw.other {xs : List Int} {r k : Nat} {m m' : M} (h : Rw xs r m m') (hk : k ≠ r) (hl : k < m.length) : m'[k]? = m[k]? := h.2.2 k hl hk
theorem Rw.keeps {xs : List Int} {r k : Nat} {m m' : M} {o : O} (h : Rw xs r m m') (hk : k ≠ r) (e : m[k]? = some o) : m'[k]? = some o := by
  rw [h.other hk (List.getElem?_eq_some_iff.mp e).1]; exact e
theorem Rw.refl {xs : List Int} {r : Nat} {m : M} (h : Row xs r m) : Rw xs r m m := ⟨h, Nat.le_refl _, fun _ _ _ => rfl⟩
theorem Rw.trans {xs : List Int} {r : Nat} {m m' m'' : M} (h : Rw xs r m m') (h' : Rw xs r m' m'') : Rw xs r m m'' :=
  ⟨h'.1, Nat.le_trans h.2.1 h'.2.1, fun k hk n => by rw [h'.2.2 k (Nat.lt_of_lt_of_le hk h.2.1) n, h.2.2 k hk n]⟩
theorem Rw.add {xs : List Int} {r : Nat} {m m' : M} (h : Rw xs r m m') (g : M) : Rw xs r m (m' ++ g) :=
  ⟨h.1.add g, by rw [List.length_append]; have := h.len; omega, fun k hk n => by rw [List.getElem?_append_left (by have := h.len; omega)]; exact h.other n hk⟩
theorem Rw.set {xs : List Int} {r k : Nat} {m m' : M} (h : Rw xs r m m') (o : O) (hk : m.length ≤ k) (hr : k ≠ r) : Rw xs r m (m'.set k o) :=
  ⟨h.1.set o hr, by rw [List.length_set]; exact h.len, fun j hj n => by rw [List.getElem?_set_ne (by omega)]; exact h.other n hj⟩
theorem Rw.at {xs : List Int} {r : Nat} {m : M} {a b c : Int} (hr : r < m.length) (h0 : 0 ≤ a) : Rw xs r m (m.set r (.lst [.frl (xs.map .int), .int a, .int b, .int c])) :=
  ⟨⟨a, b, c, h0, List.getElem?_set_self hr⟩, by simp, fun k hk n => List.getElem?_set_ne (Ne.symm n)⟩
theorem seq_nx {f g : Sl → M → S} {τ τ1 : Sl} {m m1 : M} {s : S} (h : f τ m = .nx τ1 m1) (h2 : g τ1 m1 = s) : sSeq f g τ m = s := by rw [sSeq_eq, h]; exact h2
theorem seq_rt {f g : Sl → M → S} {τ : Sl} {m m1 : M} {d : D} (h : f τ m = .rt d m1) : sSeq f g τ m = .rt d m1 := by rw [sSeq_eq, h]
theorem taken_ok {xs : List Int} {r : Nat} {m : M} {many : Int} (h : Row xs r m) (h0 : 0 < many) (h1 : many < 1073741824) :
    ∃ v m', m__law_taken [.obj r, .int many] m = .ok (.int v) m' ∧ 0 ≤ v ∧ v < many ∧ Rw xs r m m' ∧ m'.length = m.length := by
  obtain ⟨a, b, c, ha, h⟩ := h
  have hr := (List.getElem?_eq_some_iff.mp h).1
  have hs : ∀ o : O, (m.set r o)[r]? = some o := fun o => List.getElem?_set_self hr
  have hm : ∀ x : Int, 0 ≤ x % many ∧ x % many < many := fun x => ⟨Int.emod_nonneg _ (by omega), Int.emod_lt_of_pos _ h0⟩
  by_cases hc : 0 < c
  · refine ⟨c % many, m.set r (.lst [.frl (xs.map .int), .int a, .int b, .int (c / many)]), ?_, (hm c).1, (hm c).2, Rw.at hr ha, by simp⟩
    simp [m__law_taken, mkF, b__law_taken, h, hs, hc, h0, h1, L2.ixN]
  · by_cases hl : (xs.length : Int) < a + 1
    · refine ⟨((b * 48271 + 11) % 2147483647) / 7 % many, m.set r (.lst [.frl (xs.map .int), .int (a + 1), .int ((b * 48271 + 11) % 2147483647), .int c]), ?_, (hm _).1, (hm _).2, Rw.at hr (by omega), by simp⟩
      simp [m__law_taken, mkF, b__law_taken, h, hs, hc, h0, h1, L2.ixN, hl]
    · have hn : a.toNat < xs.length := by omega
      have hx : L2.atI (xs.map D.int) (a + 1 - 1) = some (.int xs[a.toNat]) := by
        have e : a + 1 - 1 = (a.toNat : Int) := by omega
        rw [e]
        exact atI_nat (by simp [hn])
      have hx' : L2.atI (xs.map D.int) a = some (.int xs[a.toNat]) := by
        rw [← hx]; congr 1; omega
      by_cases hz : (10 : Int) ^ 18 ≤ xs[a.toNat]
      · refine ⟨xs[a.toNat] % many, m.set r (.lst [.frl (xs.map .int), .int (a + 1), .int ((b * 48271 + xs[a.toNat] + 11) % 2147483647), .int (xs[a.toNat] / many)]), ?_, (hm _).1, (hm _).2, Rw.at hr (by omega), by simp⟩
        have hz' : 1000000000000000000 ≤ xs[a.toNat] := hz
        simp [m__law_taken, mkF, b__law_taken, h, hs, hc, h0, h1, L2.ixN, hl, hx', hz']
      · refine ⟨xs[a.toNat] % many, m.set r (.lst [.frl (xs.map .int), .int (a + 1), .int ((b * 48271 + xs[a.toNat] + 11) % 2147483647), .int c]), ?_, (hm _).1, (hm _).2, Rw.at hr (by omega), by simp⟩
        have hz' : ¬ 1000000000000000000 ≤ xs[a.toNat] := hz
        simp [m__law_taken, mkF, b__law_taken, h, hs, hc, h0, h1, L2.ixN, hl, hx', hz']
theorem six {v : Int} (h : 0 ≤ v) (h' : v < 6) : ∃ w : Op, L2.atI [D.wd 10, .wd 11, .wd 12, .wd 13, .wd 14, .wd 23] v = some (.wd w.wd) := by
  have : v = 0 ∨ v = 1 ∨ v = 2 ∨ v = 3 ∨ v = 4 ∨ v = 5 := by omega
  obtain rfl | rfl | rfl | rfl | rfl | rfl := this
  · exact ⟨.plus, rfl⟩
  · exact ⟨.less, rfl⟩
  · exact ⟨.times, rfl⟩
  · exact ⟨.part, rfl⟩
  · exact ⟨.below, rfl⟩
  · exact ⟨.same, rfl⟩
theorem three {v : Int} (h : 0 ≤ v) (h' : v < 3) : ∃ z : Int, 0 < z ∧ z ≤ 1000 ∧ L2.atI [D.int 3, .int 12, .int 1000] v = some (.int z) := by
  have : v = 0 ∨ v = 1 ∨ v = 2 := by omega
  obtain rfl | rfl | rfl := this <;> exact ⟨_, by decide, by decide, rfl⟩
theorem Rk.ok_mono {n : Nat} : ∀ {d : Nat} {e : Rk}, e.ok n d → ∀ {j : Nat}, d ≤ j → e.ok n j
  | d, .num i, h, j, _ => by cases d <;> cases j <;> exact h
  | d, .slot k, h, j, _ => by cases d <;> cases j <;> exact h
  | 0, .op _ _ _, h, j, _ => h.elim
  | d + 1, .op w a b, h, 0, hj => by omega
  | d + 1, .op w a b, h, j + 1, hj => ⟨Rk.ok_mono h.1 (by omega), Rk.ok_mono h.2 (by omega)⟩
theorem reckoning_ok {xs : List Int} {r : Nat} {n : Nat} (hn : 0 < n) (hn' : n < 1073741824) : ∀ (d f : Nat) (m : M), d < f → Row xs r m →
    ∃ (e : Rk) (m' : M), m_gr f 0 [.obj r, .int n, .int d] m = .ok e.enc m' ∧ e.ok n d ∧ Rw xs r m m' ∧ m'.length = m.length := by
  intro d
  induction d with
  | zero =>
    intro f m hf h
    obtain ⟨f, rfl⟩ : ∃ g, f = g + 1 := ⟨f - 1, by omega⟩
    obtain ⟨v, m1, e1, l1, u1, R1, k1⟩ := taken_ok h (many := 8) (by decide) (by decide)
    by_cases h3 : v < 3
    · obtain ⟨z, z0, z1, ez⟩ := three l1 h3
      obtain ⟨y, m2, e2, l2, u2, R2, k2⟩ := taken_ok R1.row z0 (by omega)
      exact ⟨.num y, m2, by simp [m_gr, mkF, b__law_reckoning, e1, h3, ez, e2, Rk.enc], ⟨l2, by omega⟩, R1.trans R2, by omega⟩
    · obtain ⟨y, m2, e2, l2, u2, R2, k2⟩ := taken_ok (many := (n : Int)) R1.row (by omega) (by omega)
      obtain ⟨y, rfl⟩ : ∃ k : Nat, y = (k : Int) := ⟨y.toNat, by omega⟩
      exact ⟨.slot y, m2, by simp [m_gr, mkF, b__law_reckoning, e1, h3, e2, Rk.enc], by show y < n; omega, R1.trans R2, by omega⟩
  | succ d ih =>
    intro f m hf h
    obtain ⟨f, rfl⟩ : ∃ g, f = g + 1 := ⟨f - 1, by omega⟩
    obtain ⟨v, m1, e1, l1, u1, R1, k1⟩ := taken_ok h (many := 8) (by decide) (by decide)
    by_cases h4 : 4 < v
    · obtain ⟨y, m2, e2, l2, u2, R2, k2⟩ := taken_ok R1.row (many := 6) (by decide) (by decide)
      obtain ⟨w, ew⟩ := six l2 u2
      obtain ⟨a, m3, e3, q3, R3, k3⟩ := ih f m2 (by omega) R2.row
      obtain ⟨b, m4, e4, q4, R4, k4⟩ := ih f m3 (by omega) R3.row
      have hd : (0 : Int) < (d : Int) + 1 := by omega
      have hd' : (d : Int) + 1 - 1 = (d : Int) := by omega
      exact ⟨.op w a b, m4, by simp [m_gr, mkF, b__law_reckoning, e1, h4, hd, hd', e2, ew, e3, e4, Rk.enc], ⟨q3, q4⟩, ((R1.trans R2).trans R3).trans R4, by omega⟩
    · by_cases h3 : v < 3
      · obtain ⟨z, z0, z1, ez⟩ := three l1 h3
        obtain ⟨y, m2, e2, l2, u2, R2, k2⟩ := taken_ok R1.row z0 (by omega)
        exact ⟨.num y, m2, by simp [m_gr, mkF, b__law_reckoning, e1, h4, h3, ez, e2, Rk.enc], ⟨l2, by omega⟩, R1.trans R2, by omega⟩
      · obtain ⟨y, m2, e2, l2, u2, R2, k2⟩ := taken_ok (many := (n : Int)) R1.row (by omega) (by omega)
        obtain ⟨y, rfl⟩ : ∃ k : Nat, y = (k : Int) := ⟨y.toNat, by omega⟩
        exact ⟨.slot y, m2, by simp [m_gr, mkF, b__law_reckoning, e1, h4, h3, e2, Rk.enc], by show y < n; omega, R1.trans R2, by omega⟩
theorem compG_nil {ok : M → Prop} {i : Nat} {tt : Sl → M → R Bool} {te : Sl → M → R D} {τ : Sl} {acc : List D} {m : M} (h : ok m) : compG ok i tt te τ [] acc m = .ok acc m := by rw [compG, if_pos h]
theorem compG_cons {ok : M → Prop} {i : Nat} {tt : Sl → M → R Bool} {te : Sl → M → R D} {τ : Sl} {acc : List D} {m : M} {x : D} {r : List D} (h : ok m) : compG ok i tt te τ (x :: r) acc m = (noExR (tt (τ.set i (some x)) m)).bind fun b m1 => if b = true then
      (noExR (te (τ.set i (some x)) m1)).bind fun d m2 => if acc.length < 16777216 then compG ok i tt te τ r (acc ++ [d]) m2 else .bad
    else compG ok i tt te τ r acc m1 := by rw [compG, if_pos h]
@[simp] theorem noExR_okk {α : Type} {a : α} {m : M} : noExR (R.ok a m) = .ok a m := rfl
theorem okS_none {ys : List D} {m : M} : okS (ys, none) m := trivial
@[simp] theorem tYs_eq {τ : Sl} {m : M} : tYs τ m = .ok true m := rfl
theorem iR_nat {f : Sl → M → R D} {τ : Sl} {m m1 : M} {n : Nat} (h : f τ m = .ok (.int n) m1) (hn : n < 1000000) : iR f τ m = .ok (rangeFrom 0 n, none) m1 := by
  have hd : decide (-(2 ^ 62) ≤ (n : Int) ∧ (n : Int) < 2 ^ 62) = true := by
    rw [decide_eq_true_iff]; omega
  rw [iR_eq, h, bind_ok]
  split
  · rename_i n' e
    cases e
    rw [if_pos hd, Int.toNat_natCast]
  · rename_i hx
    exact absurd rfl (hx _)
theorem two {v : Int} (h : 0 ≤ v) (h' : v < 2) : ∃ z : Int, 0 < z ∧ z ≤ 1000 ∧ L2.atI [D.int 4, .int 1000] v = some (.int z) := by
  have : v = 0 ∨ v = 1 := by omega
  obtain rfl | rfl := this <;> exact ⟨_, by decide, by decide, rfl⟩
theorem numbersL {xs : List Int} {r : Nat} {a : Option D} (p : List D) : ∀ (ys acc : List D) (m : M), acc.length + ys.length < 100 → Row xs r m →
    ∃ (ns : List Int) (m' : M), compG (okS (p, none)) 2 tYs (eCall 2 m__law_taken (lCons (eVar 0) (lCons (eIxL (lLst (lCons (eC (.int 4)) (lCons (eC (.int 1000)) lNil))) (eCall 2 m__law_taken (lCons (eVar 0) (lCons (eC (.int 2)) lNil)))) lNil))) [some (.obj r), a, none] ys acc m = .ok (acc ++ ns.map .int) m' ∧ ns.length = ys.length ∧ (∀ x ∈ ns, Num x) ∧ Rw xs r m m' := by
  intro ys
  induction ys with
  | nil => intro acc m hl h; exact ⟨[], m, by rw [compG_nil okS_none]; simp, rfl, by simp, .refl h⟩
  | cons y ys ih =>
    intro acc m hl h
    simp only [List.length_cons] at hl
    obtain ⟨v, m1, e1, l1, u1, R1, k1⟩ := taken_ok h (many := 2) (by decide) (by decide)
    obtain ⟨z, z0, z1, ez⟩ := two l1 u1
    obtain ⟨x, m2, e2, l2, u2, R2, k2⟩ := taken_ok R1.row z0 (by omega)
    obtain ⟨ns, m3, e3, l3, q3, R3⟩ := ih (acc ++ [.int x]) m2 (by simp; omega) R2.row
    refine ⟨x :: ns, m3, ?_, by simp [l3], fun y hy => ?_, (R1.trans R2).trans R3⟩
    · have hh : acc.length < 16777216 := by omega
      rw [compG_cons okS_none]
      simp [e1, ez, e2, hh]
      simpa using e3
    · rcases List.mem_cons.mp hy with rfl | hy
      · exact ⟨l2, by omega⟩
      · exact q3 y hy
theorem numbers_ok {xs : List Int} {r : Nat} {m : M} {n : Nat} (hn : n ≤ 10) (h : Row xs r m) :
    ∃ (ns : List Int) (m' : M), m__law_numbers [.obj r, .int n] m = .ok (.tup (ns.map .int)) m' ∧ ns.length = n ∧ (∀ x ∈ ns, Num x) ∧ Rw xs r m m' := by
  obtain ⟨ns, m', e, l, q, R⟩ := numbersL (xs := xs) (r := r) (a := some (.int n)) (rangeFrom 0 n) (rangeFrom 0 n) [] m (by simp [rangeFrom_len]; omega) h
  refine ⟨ns, m', ?_, by simpa [rangeFrom_len] using l, q, R⟩
  have hR : iR (eVar 1) [some (.obj r), some (.int n), none] m = .ok (rangeFrom 0 n, none) m := iR_nat rfl (by omega)
  rw [List.nil_append] at e
  simp [m__law_numbers, mkF, b__law_numbers, -iR_eq, hR, e]
theorem way3 {w a : Int} (h : 0 ≤ w) (h' : w < 3) (ha : Num a) : ∃ d : Deed, d.ok ∧ L2.atI [D.tup [.wd 0, .int a], .tup [.wd 1, .int a], .tup [.wd 2]] w = some d.enc := by
  have : w = 0 ∨ w = 1 ∨ w = 2 := by omega
  obtain rfl | rfl | rfl := this
  · exact ⟨.ask a, ha, rfl⟩
  · exact ⟨.throw a, ha, rfl⟩
  · exact ⟨.shut, True.intro, rfl⟩
/-- all but what stands at S is as it was -/
def Fr (S : List Nat) (m m' : M) : Prop := m.length ≤ m'.length ∧ ∀ k, k < m.length → k ∉ S → m'[k]? = m[k]?
theorem Fr.refl {S : List Nat} {m : M} : Fr S m m := ⟨Nat.le_refl _, fun _ _ _ => rfl⟩
theorem Fr.trans {S : List Nat} {m m' m'' : M} (h : Fr S m m') (h' : Fr S m' m'') : Fr S m m'' := ⟨Nat.le_trans h.1 h'.1, fun k hk n => by rw [h'.2 k (Nat.lt_of_lt_of_le hk h.1) n, h.2 k hk n]⟩
theorem Fr.mono {S S' : List Nat} {m m' : M} (h : Fr S m m') (hs : ∀ k, k < m.length → k ∈ S → k ∈ S') : Fr S' m m' := ⟨h.1, fun k hk n => h.2 k hk fun z => n (hs k hk z)⟩
theorem Fr.keeps {S : List Nat} {m m' : M} {k : Nat} {o : O} (h : Fr S m m') (hk : k ∉ S) (e : m[k]? = some o) : m'[k]? = some o := by
  rw [h.2 k (List.getElem?_eq_some_iff.mp e).1 hk]; exact e
theorem Fr.set {S : List Nat} {m m' : M} {k : Nat} (h : Fr S m m') (o : O) (hk : k < m.length → k ∈ S) : Fr S m (m'.set k o) :=
  ⟨by rw [List.length_set]; exact h.1, fun j hj n => by
    have hne : k ≠ j := fun z => by subst z; exact n (hk hj)
    rw [List.getElem?_set_ne hne]; exact h.2 j hj n⟩
theorem Fr.add {S : List Nat} {m m' : M} (h : Fr S m m') (g : M) : Fr S m (m' ++ g) :=
  ⟨by rw [List.length_append]; have := h.1; omega, fun k hk n => by rw [List.getElem?_append_left (by have := h.1; omega)]; exact h.2 k hk n⟩
theorem Rw.fr {xs : List Int} {r : Nat} {m m' : M} (h : Rw xs r m m') : Fr [r] m m' := ⟨h.2.1, fun k hk n => h.2.2 k hk (by simpa using n)⟩
theorem Fr.rw' {xs : List Int} {r : Nat} {m m' : M} (h : Fr [r] m m') (R : Row xs r m') : Rw xs r m m' := ⟨R, h.1, fun k hk n => h.2 k hk (by simpa using n)⟩
theorem Rw.frq {xs : List Int} {r : Nat} {S : List Nat} {m m' : M} (h : Rw xs r m m') (hr : r ∈ S) : Fr S m m' := h.fr.mono fun k _ z => by
  rw [List.mem_singleton] at z; subst z; exact hr
theorem get_set {m : M} {k : Nat} {o o' : O} (h : m[k]? = some o) : (m.set k o')[k]? = some o' := List.getElem?_set_self (List.getElem?_eq_some_iff.mp h).1
theorem get_add {m g : M} {k : Nat} {o : O} (h : m[k]? = some o) : (m ++ g)[k]? = some o := by
  rw [List.getElem?_append_left (List.getElem?_eq_some_iff.mp h).1]; exact h
theorem get_new {m : M} {o : O} : (m ++ [o])[m.length]? = some o := by simp
theorem get_lt {m : M} {k : Nat} {o : O} (h : m[k]? = some o) : k < m.length := (List.getElem?_eq_some_iff.mp h).1
theorem two01 {v : Int} (h : 0 ≤ v) (h' : v < 2) {x y : D} : L2.atI [x, y] v = some (if v = 0 then x else y) := by
  have : v = 0 ∨ v = 1 := by omega
  obtain rfl | rfl := this <;> rfl
theorem idx3 {w : Int} (h : 0 ≤ w) (h' : w < 24) : ∃ z : Int, z = (if 5 < w then 1 else 0) * (if w < 9 then 1 else 0) * (1 + w / 8) ∧ 0 ≤ z ∧ z < 3 := by
  refine ⟨_, rfl, ?_⟩
  by_cases a : 5 < w <;> by_cases b : w < 9 <;> simp [a, b] <;> omega
theorem tw {v : Int} (h : 0 ≤ v) (h' : v < 2) : ∃ z : Int, 0 < z ∧ z ≤ 24 ∧ L2.atI [D.int 24, .int 9] v = some (.int z) := by
  have : v = 0 ∨ v = 1 := by omega
  obtain rfl | rfl := this <;> exact ⟨_, by decide, by decide, rfl⟩
theorem deed_ok {xs : List Int} {r q : Nat} {t : Int} {m : M} {acc : List D} {A1 x4 x5 : Option D} (hq : q ≠ r) (h : Row xs r m) (ha : m[q]? = some (.lst acc)) (hl : acc.length < 100) :
    ∃ (d : Deed) (m' : M) (y4 y5 : Option D), lb__law_deeds_0 [some (.obj r), A1, some (.obj q), some (.int t), x4, x5] m = .nx [some (.obj r), A1, some (.obj q), some (.int t), y4, y5] m' ∧ d.ok ∧ m'[q]? = some (.lst (acc ++ [d.enc])) ∧ Row xs r m' ∧ Fr [r, q] m m' := by
  have hl' : acc.length < 16777216 := by omega
  obtain ⟨v, m1, e1, l1, u1, R1, k1⟩ := taken_ok h (many := 2) (by decide) (by decide)
  obtain ⟨z, z0, z1, ez⟩ := two l1 u1
  obtain ⟨a, m2, e2, l2, u2, R2, k2⟩ := taken_ok R1.row z0 (by omega)
  obtain ⟨b, hb⟩ : ∃ b : Int, b = if 0 < t then 1 else 0 := ⟨_, rfl⟩
  obtain ⟨y, y0, y1, ey⟩ := tw (v := b) (by rw [hb]; split <;> decide) (by rw [hb]; split <;> decide)
  rw [hb] at ey
  obtain ⟨w, m3, e3, l3, u3, R3, k3⟩ := taken_ok R2.row y0 (by omega)
  have R13 := (R1.trans R2).trans R3
  have a3 := R13.keeps hq ha
  obtain ⟨i, hi, i0, i1⟩ := idx3 (w := w) l3 (by omega)
  obtain ⟨d, hd, ed⟩ := way3 (a := a) i0 i1 ⟨l2, by omega⟩
  have c1 : (-18446744073709551616 : Int) < (if 5 < w then 1 else 0) := by split <;> decide
  have c2 : (if 5 < w then 1 else 0) < (18446744073709551616 : Int) := by split <;> decide
  have c3 : (-18446744073709551616 : Int) < 1 + w / 8 := by omega
  have c4 : 1 + w / 8 < (18446744073709551616 : Int) := by omega
  rw [hi] at ed
  refine ⟨d, m3.set q (.lst (acc ++ [d.enc])), some (.int a), some (.int w), ?_, hd, get_set a3, R3.row.set _ hq, (R13.frq (by simp)).set _ fun _ => by simp⟩
  simp [lb__law_deeds_0, e1, ez, e2, ey, e3, a3, hl', c1, c2, c3, c4, ed]
theorem deedsL {xs : List Int} {r q : Nat} {A1 : Option D} (hq : q ≠ r) : ∀ (ys acc : List D) (m : M) (x3 x4 x5 : Option D), (∀ y ∈ ys, ∃ i, y = .int i) → acc.length + ys.length < 100 → Row xs r m → m[q]? = some (.lst acc) →
    ∃ (ds : List Deed) (m' : M) (y3 y4 y5 : Option D), loop (gN 3) lb__law_deeds_0 ys [some (.obj r), A1, some (.obj q), x3, x4, x5] m = .nx [some (.obj r), A1, some (.obj q), y3, y4, y5] m' ∧ ds.length = ys.length ∧ (∀ d ∈ ds, d.ok) ∧ m'[q]? = some (.lst (acc ++ ds.map Deed.enc)) ∧ Row xs r m' ∧ Fr [r, q] m m' := by
  intro ys
  induction ys with
  | nil => intro acc m x3 x4 x5 _ _ h ha; exact ⟨[], m, x3, x4, x5, rfl, rfl, by simp, by simpa using ha, h, .refl⟩
  | cons y ys ih =>
    intro acc m x3 x4 x5 hy hl h ha
    simp only [List.length_cons] at hl
    obtain ⟨t, rfl⟩ := hy y List.mem_cons_self
    obtain ⟨d, m1, z4, z5, e1, s1, a1, R1, f1⟩ := deed_ok (t := t) (A1 := A1) (x4 := x4) (x5 := x5) hq h ha (by omega)
    obtain ⟨ds, m2, y3, y4, y5, e2, l2, s2, a2, R2, f2⟩ := ih (acc ++ [d.enc]) m1 (some (.int t)) z4 z5 (fun z hz => hy z (List.mem_cons_of_mem _ hz)) (by simp; omega) R1 a1
    refine ⟨d :: ds, m2, y3, y4, y5, ?_, by simp [l2], fun s hs => ?_, by simpa using a2, R2, f1.trans f2⟩
    · simp [loop, e1, e2]
    · rcases List.mem_cons.mp hs with rfl | hs
      · exact s1
      · exact s2 s hs
theorem mem_range0 {n : Nat} {y : D} (h : y ∈ rangeFrom 0 n) : ∃ i : Int, y = .int i := by
  obtain ⟨j, hj, e⟩ := List.getElem_of_mem h
  exact ⟨_, rangeFrom_get (List.getElem?_eq_some_iff.mpr ⟨hj, e⟩)⟩
theorem deeds_ok {xs : List Int} {r : Nat} {n : Int} {m : M} (hn : 0 ≤ n) (hn' : n < 90) (h : Row xs r m) :
    ∃ (ds : List Deed) (m' : M) (q : Nat), m__law_deeds [.obj r, .int n] m = .ok (.obj q) m' ∧ m'[q]? = some (.lst (ds.map Deed.enc)) ∧ (ds.length : Int) ≤ n ∧ (∀ d ∈ ds, d.ok) ∧ m.length ≤ q ∧ Rw xs r m m' := by
  have hr := h.lt
  obtain ⟨v, m1, e1, l1, u1, R1, k1⟩ := taken_ok (h.add [.lst []]) (many := n + 1) (by omega) (by omega)
  obtain ⟨k, rfl⟩ : ∃ k : Nat, v = (k : Int) := ⟨v.toNat, by omega⟩
  have a1 : m1[m.length]? = some (.lst []) := R1.keeps (by omega) get_new
  obtain ⟨ds, m2, y3, y4, y5, e2, l2, s2, a2, R2, f2⟩ := deedsL (r := r) (q := m.length) (A1 := some (.int n)) (by omega) (rangeFrom 0 k) [] m1 none none none (fun y hy => mem_range0 hy) (by simp [rangeFrom_len]; omega) R1.row a1
  rw [rangeFrom_len] at l2
  refine ⟨ds, m2, m.length, ?_, by simpa using a2, by omega, s2, Nat.le_refl _, ?_⟩
  · have hR : iR (eCall 2 m__law_taken (lCons (eVar 0) (lCons (eOp gAdd (eVar 1) (eC (.int 1))) lNil))) [some (.obj r), some (.int n), some (.obj m.length), none, none, none] (m ++ [.lst []]) = .ok (rangeFrom 0 k, none) m1 := iR_nat (by simp [e1]) (by omega)
    simp [m__law_deeds, mkF, b__law_deeds, -iR_eq, hR, e2]
  · have hl : m.length + 1 ≤ m1.length := by have := R1.len; simpa using this
    refine ⟨R2, by have := f2.1; omega, fun j hj n => ?_⟩
    rw [f2.2 j (by omega) (by simp; omega), R1.other n (by simp; omega), List.getElem?_append_left hj]
end Hb

set_option linter.all false
set_option autoImplicit false
set_option maxRecDepth 10000
set_option maxHeartbeats 1000000
/-! Hv: what a reckoning comes to, by the program and by the law. -/
namespace Hb
open PySem L2 Sh Mi Tw
def oD : Option Int → D
  | none => .non
  | some i => .int i
def oR (o : Option Int) (m : M) : R D := match o with
  | none => .ex 0 [] m
  | some i => .ok (.int i) m
@[simp] theorem oD_some {i : Int} : oD (some i) = .int i := rfl
@[simp] theorem oD_none : oD none = .non := rfl
@[simp] theorem oR_some {i : Int} {m : M} : oR (some i) m = .ok (.int i) m := rfl
@[simp] theorem oR_none {m : M} : oR none m = .ex 0 [] m := rfl
@[simp] theorem isWd_wd {i : Nat} : isWd (.wd i) = true := rfl
theorem at_int {vs : List Int} {k : Nat} (h : k < vs.length) : ∃ v, vs[k]? = some v ∧ L2.atI (vs.map D.int) (k : Int) = some (.int v) := ⟨vs[k], by simp [h], atI_nat (by simp [h])⟩
theorem rk_prog {n : Nat} {vs : List Int} (hl : vs.length = n) (hv : ∀ v ∈ vs, Num v) : ∀ (d : Nat) (e : Rk), e.ok n d → ∀ (f : Nat) (m : M) (s : Nat), d < f → m[s]? = some (.lst (vs.map .int)) → m_rk f 0 [e.enc, .obj s] m = oR (e.ev vs) m
  | d, .num i, h, f, m, s, hf, hs => by
    obtain ⟨f, rfl⟩ : ∃ g, f = g + 1 := ⟨f - 1, by omega⟩
    simp [m_rk, mkF, b_reckoned, Rk.enc, Rk.ev]
  | d, .slot k, h, f, m, s, hf, hs => by
    obtain ⟨f, rfl⟩ : ∃ g, f = g + 1 := ⟨f - 1, by omega⟩
    have hk : k < vs.length := by cases d <;> (rw [hl]; exact h)
    obtain ⟨v, e1, e2⟩ := at_int hk
    simp [m_rk, mkF, b_reckoned, Rk.enc, Rk.ev, hs, e1, e2]
  | 0, .op _ _ _, h, f, m, s, hf, hs => h.elim
  | d + 1, .op w a b, h, f, m, s, hf, hs => by
    obtain ⟨f, rfl⟩ : ∃ g, f = g + 1 := ⟨f - 1, by omega⟩
    have A := rk_prog hl hv d a h.1 f m s (by omega) hs
    have B := rk_prog hl hv d b h.2 f m s (by omega) hs
    cases ea : a.ev vs with
    | none =>
      rw [ea] at A
      simp at A
      cases w <;> simp [m_rk, mkF, b_reckoned, Rk.enc, Rk.ev, Op.wd, ea, A]
    | some i =>
      rw [ea] at A
      simp at A
      cases eb : b.ev vs with
      | none =>
        rw [eb] at B
        simp at B
        cases w <;> simp [m_rk, mkF, b_reckoned, Rk.enc, Rk.ev, Op.wd, ea, eb, A, B]
      | some j =>
        rw [eb] at B
        simp at B
        obtain ⟨i0, i1⟩ := Rk.ev_ok hl hv a h.1 ea
        obtain ⟨j0, j1⟩ := Rk.ev_ok hl hv b h.2 eb
        have ci : (-18446744073709551616 : Int) < i := by omega
        have ci' : i < (18446744073709551616 : Int) := by omega
        cases w with
        | plus => simp [m_rk, mkF, b_reckoned, m_reckoned_of_two, b_reckoned_of_two, Rk.enc, Rk.ev, Op.wd, Op.ap, ea, eb, A, B]
        | less => simp [m_rk, mkF, b_reckoned, m_reckoned_of_two, b_reckoned_of_two, Rk.enc, Rk.ev, Op.wd, Op.ap, ea, eb, A, B]
        | times => simp [m_rk, mkF, b_reckoned, m_reckoned_of_two, b_reckoned_of_two, Rk.enc, Rk.ev, Op.wd, Op.ap, ea, eb, A, B, ci, ci']
        | part =>
          by_cases hj : j = 0
          · subst hj; simp [m_rk, mkF, b_reckoned, m_reckoned_of_two, b_reckoned_of_two, Rk.enc, Rk.ev, Op.wd, Op.ap, ea, eb, A, B]
          · have hp : 0 < j := by omega
            have hq : j < 1073741824 := by omega
            simp [m_rk, mkF, b_reckoned, m_reckoned_of_two, b_reckoned_of_two, Rk.enc, Rk.ev, Op.wd, Op.ap, ea, eb, A, B, hj, hp, hq]
        | below => by_cases hc : i < j <;> simp [m_rk, mkF, b_reckoned, m_reckoned_of_two, b_reckoned_of_two, Rk.enc, Rk.ev, Op.wd, Op.ap, ea, eb, A, B, hc]
        | same => by_cases hc : i = j <;> simp [m_rk, mkF, b_reckoned, m_reckoned_of_two, b_reckoned_of_two, Rk.enc, Rk.ev, Op.wd, Op.ap, ea, eb, A, B, hc]
theorem gk_law {n : Nat} {vs : List Int} (hl : vs.length = n) (hv : ∀ v ∈ vs, Num v) : ∀ (d : Nat) (e : Rk), e.ok n d → ∀ (f : Nat) (m : M) (s : Nat), d < f → m[s]? = some (.lst (vs.map .int)) → m_gk f 0 [e.enc, .obj s] m = .ok (oD (e.ev vs)) m
  | d, .num i, h, f, m, s, hf, hs => by
    obtain ⟨f, rfl⟩ : ∃ g, f = g + 1 := ⟨f - 1, by omega⟩
    simp [m_gk, mkF, b__law_reckoned, Rk.enc, Rk.ev]
  | d, .slot k, h, f, m, s, hf, hs => by
    obtain ⟨f, rfl⟩ : ∃ g, f = g + 1 := ⟨f - 1, by omega⟩
    have hk : k < vs.length := by cases d <;> (rw [hl]; exact h)
    obtain ⟨v, e1, e2⟩ := at_int hk
    simp [m_gk, mkF, b__law_reckoned, Rk.enc, Rk.ev, hs, e1, e2]
  | 0, .op _ _ _, h, f, m, s, hf, hs => h.elim
  | d + 1, .op w a b, h, f, m, s, hf, hs => by
    obtain ⟨f, rfl⟩ : ∃ g, f = g + 1 := ⟨f - 1, by omega⟩
    have A := gk_law hl hv d a h.1 f m s (by omega) hs
    have B := gk_law hl hv d b h.2 f m s (by omega) hs
    cases ea : a.ev vs with
    | none =>
      rw [ea] at A
      simp at A
      cases eb : b.ev vs <;> rw [eb] at B <;> simp at B <;> cases w <;> simp [m_gk, mkF, b__law_reckoned, Rk.enc, Rk.ev, Op.wd, ea, eb, A, B]
    | some i =>
      rw [ea] at A
      simp at A
      cases eb : b.ev vs with
      | none =>
        rw [eb] at B
        simp at B
        cases w <;> simp [m_gk, mkF, b__law_reckoned, Rk.enc, Rk.ev, Op.wd, ea, eb, A, B]
      | some j =>
        rw [eb] at B
        simp at B
        obtain ⟨i0, i1⟩ := Rk.ev_ok hl hv a h.1 ea
        obtain ⟨j0, j1⟩ := Rk.ev_ok hl hv b h.2 eb
        have ci : (-18446744073709551616 : Int) < i := by omega
        have ci' : i < (18446744073709551616 : Int) := by omega
        have hsub : (1000 + i - j) % 1000 = (i - j) % 1000 := by omega
        cases w with
        | part =>
          by_cases hj : j = 0
          · subst hj; simp [m_gk, mkF, b__law_reckoned, Rk.enc, Rk.ev, Op.wd, Op.ap, ea, eb, A, B, gInW]
          · have hp : 0 < j := by omega
            have hq : j < 1073741824 := by omega
            simp [m_gk, mkF, b__law_reckoned, Rk.enc, Rk.ev, Op.wd, Op.ap, ea, eb, A, B, gInW, hj, hp, hq]
        | plus => simp [m_gk, mkF, b__law_reckoned, Rk.enc, Rk.ev, Op.wd, Op.ap, ea, eb, A, B, gInW, ci, ci']
        | less => simp [m_gk, mkF, b__law_reckoned, Rk.enc, Rk.ev, Op.wd, Op.ap, ea, eb, A, B, gInW, hsub, ci, ci']
        | times => simp [m_gk, mkF, b__law_reckoned, Rk.enc, Rk.ev, Op.wd, Op.ap, ea, eb, A, B, gInW, ci, ci']
        | below => simp [m_gk, mkF, b__law_reckoned, Rk.enc, Rk.ev, Op.wd, Op.ap, ea, eb, A, B, gInW]
        | same => simp [m_gk, mkF, b__law_reckoned, Rk.enc, Rk.ev, Op.wd, Op.ap, ea, eb, A, B, gInW]
end Hb

set_option linter.all false
set_option autoImplicit false
set_option maxRecDepth 10000
set_option maxHeartbeats 1000000
/-! Ha: the asker. -/
namespace Hb
open PySem L2 Sh Mi Tw
theorem ne_il {m : M} {a b c : Nat} {fs : List (Option D)} {xs : List D} (h : m[a]? = some (.ins c fs)) (h' : m[b]? = some (.lst xs)) : a ≠ b := fun e => by subst e; rw [h] at h'; cases h'
theorem Fr.up {S S' : List Nat} {m m1 m' : M} (f : Fr S m m1) (g : Fr S' m1 m') (h : ∀ k ∈ S', k < m.length → k ∈ S) : Fr S m m' :=
  ⟨Nat.le_trans f.1 g.1, fun k hk n => by rw [g.2 k (Nat.lt_of_lt_of_le hk f.1) fun z => n (h k z hk), f.2 k hk n]⟩
theorem set_new {m : M} {o o' : O} : (m ++ [o]).set m.length o' = m ++ [o'] := by simp
structure Ast (ds : List Deed) (m : M) (ai dd ti qi : Nat) (t : Tk) : Prop where
  ins : m[ai]? = some (.ins 0 [some (.obj dd), some (.obj ti), some (.obj qi)])
  hd : m[dd]? = some (.lst (ds.map Deed.enc))
  ht : m[ti]? = some (.lst (t.told.map woD))
  hq : m[qi]? = some (.lst (t.words.map .int))
  tq : ti ≠ qi
  td : ti ≠ dd
  qd : qi ≠ dd
section
variable {ds : List Deed} {m m' : M} {ai dd ti qi : Nat} {t : Tk}
theorem Ast.fr {S : List Nat} (h : Ast ds m ai dd ti qi t) (f : Fr S m m') (h1 : ai ∉ S) (h2 : dd ∉ S) (h3 : ti ∉ S) (h4 : qi ∉ S) : Ast ds m' ai dd ti qi t :=
  ⟨f.keeps h1 h.ins, f.keeps h2 h.hd, f.keeps h3 h.ht, f.keeps h4 h.hq, h.tq, h.td, h.qd⟩
theorem say_ok (h : Ast ds m ai dd ti qi t) {n : Int} (hw : t.words.length < 16777216) :
    ∃ m', m_Asker_say [.obj ai, .int n] m = .ok .non m' ∧ Ast ds m' ai dd ti qi (t.say n) ∧ Fr [qi] m m' := by
  have hi := h.ins
  have hq := h.hq
  have na := ne_il hi hq
  refine ⟨m.set qi (.lst ((t.words ++ [n]).map .int)), by simp [m_Asker_say, mkF, b_Asker_say, hi, hq, hw], ⟨?_, ?_, ?_, get_set hq, h.tq, h.td, h.qd⟩, Fr.refl.set _ fun _ => by simp⟩
  · rw [List.getElem?_set_ne (Ne.symm na)]; exact hi
  · rw [List.getElem?_set_ne h.qd]; exact h.hd
  · rw [List.getElem?_set_ne (Ne.symm h.tq)]; exact h.ht
theorem tell_ok (h : Ast ds m ai dd ti qi t) (o : Oc) (hl : t.told.length < 16777216) :
    ∃ m' q', m_Asker_tell [.obj ai, o.enc] m = .ok .non m' ∧ Ast ds m' ai dd ti q' (t.tell o) ∧ m.length ≤ q' ∧ Fr [ai, ti] m m' := by
  have hi := h.ins
  have ht := h.ht
  have hq := h.hq
  have l1 := get_lt hi
  have l2 := get_lt ht
  have l3 := get_lt h.hd
  have nt := ne_il hi ht
  have nd := ne_il hi h.hd
  have e1 : (t.tell o).told.map woD = t.told.map woD ++ [D.tup [.tup (t.words.map .int), o.enc]] := by simp [Tk.tell, woD]
  have hi' : (m.set ti (O.lst (t.told.map woD ++ [D.tup [.tup (t.words.map .int), o.enc]])))[ai]? = some (.ins 0 [some (.obj dd), some (.obj ti), some (.obj qi)]) := by rw [List.getElem?_set_ne (Ne.symm nt)]; exact hi
  have hi2 : (m.set ti (O.lst (t.told.map woD ++ [D.tup [.tup (t.words.map .int), o.enc]])) ++ [O.lst []])[ai]? = some (.ins 0 [some (.obj dd), some (.obj ti), some (.obj qi)]) := get_add hi'
  refine ⟨(m.set ti (O.lst (t.told.map woD ++ [D.tup [.tup (t.words.map .int), o.enc]])) ++ [O.lst []]).set ai (.ins 0 [some (.obj dd), some (.obj ti), some (.obj m.length)]), m.length, ?_, ⟨get_set hi2, ?_, ?_, ?_, by omega, h.td, by omega⟩, Nat.le_refl _, ?_⟩
  · simp [m_Asker_tell, mkF, b_Asker_tell, hi, ht, hq, hl, hi2]
  · rw [List.getElem?_set_ne nd]; exact get_add (by rw [List.getElem?_set_ne h.td]; exact h.hd)
  · rw [List.getElem?_set_ne nt, e1]; exact get_add (get_set ht)
  · rw [List.getElem?_set_ne (by omega)]; simp [Tk.tell]
  · exact ((Fr.refl.set _ fun _ => by simp).add _).set _ fun _ => by simp
theorem deed_at (h : Ast ds m ai dd ti qi t) {d : Deed} (e : ds[t.told.length]? = some d) : m_Asker_deed [.obj ai] m = .ok d.enc m := by
  have hi := h.ins
  have e' : L2.atI (ds.map Deed.enc) (t.told.length : Int) = some d.enc := atI_nat (by simp [e])
  simp [m_Asker_deed, mkF, b_Asker_deed, hi, h.ht, h.hd, e']
@[simp] theorem enc_ask {n : Int} : (Deed.ask n).enc = .tup [.wd 0, .int n] := rfl
@[simp] theorem enc_throw {n : Int} : (Deed.throw n).enc = .tup [.wd 1, .int n] := rfl
@[simp] theorem enc_shut : Deed.shut.enc = .tup [.wd 2] := rfl
theorem take_ok (h : Ast ds m ai dd ti qi t) (n : Int) (hl : t.told.length < ds.length) (hd : ds.length < 1000000) :
    ∃ m' q', Ast ds m' ai dd ti q' (gift ds n t).2 ∧ m.length ≤ q' ∧ Fr [ai, ti] m m' ∧ m_Asker_take [.obj ai, .int n] m = (match (gift ds n t).1 with
      | none => .ex 1 [] m'
      | some d => .ok d.enc m') := by
  have hi := h.ins
  obtain ⟨d0, e0⟩ : ∃ d, ds[t.told.length]? = some d := ⟨ds[t.told.length], by simp [hl]⟩
  have ed := deed_at h e0
  have two : ∀ {d : Deed}, d ≠ .shut → ds[t.told.length]? = some d → ∃ m' q', Ast ds m' ai dd ti q' (t.tell (.gift n)) ∧ m.length ≤ q' ∧ Fr [ai, ti] m m' ∧ m_Asker_take [.obj ai, .int n] m = (match ds[t.told.length + 1]? with
      | none => .ex 1 [] m'
      | some d => .ok d.enc m') := by
    intro d hs e
    have ed := deed_at h e
    obtain ⟨m1, q1, e1, a1, l1, f1⟩ := tell_ok h (.gift n) (by omega)
    have e1' : m_Asker_tell [.obj ai, .tup [.wd 4, .int n]] m = .ok .non m1 := e1
    have hi1 := a1.ins
    have ht1 := a1.ht
    have hd1 := a1.hd
    have tl : (t.tell (.gift n)).told.length = t.told.length + 1 := by simp [Tk.tell]
    refine ⟨m1, q1, a1, l1, f1, ?_⟩
    cases e2 : ds[t.told.length + 1]? with
    | none =>
      have hn : ds.length ≤ t.told.length + 1 := by rw [List.getElem?_eq_none_iff] at e2; exact e2
      have hc : ((t.tell (.gift n)).told.length : Int) = (ds.length : Int) := by rw [tl]; omega
      cases d with
      | shut => exact absurd rfl hs
      | ask a => simp [m_Asker_take, mkF, b_Asker_take, hi, ed, e1', hi1, ht1, hd1, hc]
      | throw a => simp [m_Asker_take, mkF, b_Asker_take, hi, ed, e1', hi1, ht1, hd1, hc]
    | some d' =>
      have hn : t.told.length + 1 < ds.length := (List.getElem?_eq_some_iff.mp e2).1
      have hc : ¬ ((t.tell (.gift n)).told.length : Int) = (ds.length : Int) := by rw [tl]; omega
      have ed2 := deed_at a1 (d := d') (by rw [tl]; exact e2)
      cases d with
      | shut => exact absurd rfl hs
      | ask a => simp [m_Asker_take, mkF, b_Asker_take, hi, ed, e1', hi1, ht1, hd1, hc, ed2]
      | throw a => simp [m_Asker_take, mkF, b_Asker_take, hi, ed, e1', hi1, ht1, hd1, hc, ed2]
  unfold gift
  rw [e0]
  cases d0 with
  | shut =>
    obtain ⟨m1, q1, e1, a1, l1, f1⟩ := tell_ok h .stub (by omega)
    have e1' : m_Asker_tell [.obj ai, .tup [.wd 3]] m = .ok .non m1 := e1
    refine ⟨m1, q1, a1, l1, f1, ?_⟩
    simp [m_Asker_take, mkF, b_Asker_take, hi, ed, e1']
  | ask a => exact two (by simp) e0
  | throw a => exact two (by simp) e0
end
end Hb

set_option linter.all false
set_option autoImplicit false
set_option maxRecDepth 10000
set_option maxHeartbeats 2000000
/-! Hp: the program's walk does what the work does. -/
namespace Hb
open PySem L2 Sh Mi Tw
structure Pst (P : Prog) (ds : List Deed) (m : M) (wi ai si dd ti qi pi : Nat) (vs : List Int) (t : Tk) : Prop where
  ast : Ast ds m ai dd ti qi t
  walk : m[wi]? = some (.ins 1 [some (.obj pi), some (.obj si), some (.obj ai)])
  sl : m[si]? = some (.lst (vs.map .int))
  pr : m[pi]? = some (.lst (P.map Work.enc))
  sd : si ≠ dd
  st : si ≠ ti
  sq : si ≠ qi
  sp : si ≠ pi
  pt : pi ≠ ti
  pq : pi ≠ qi
def wayR : Way → M → R D
  | .go, m => .ok .non m
  | .fault n, m => .ok (.tup [.wd 7, .int n]) m
  | .fin n, m => .ok (.tup [.wd 5, .int n]) m
  | .leave, m => .ok (.tup [.wd 21]) m
  | .shut, m => .ok (.tup [.wd 2]) m
  | .stop, m => .ex 1 [] m
section
variable {m : M} {n : Int}
@[simp] theorem wayR_go : wayR .go m = .ok .non m := rfl
@[simp] theorem wayR_fault : wayR (.fault n) m = .ok (.tup [.wd 7, .int n]) m := rfl
@[simp] theorem wayR_fin : wayR (.fin n) m = .ok (.tup [.wd 5, .int n]) m := rfl
@[simp] theorem wayR_leave : wayR .leave m = .ok (.tup [.wd 21]) m := rfl
@[simp] theorem wayR_shut : wayR .shut m = .ok (.tup [.wd 2]) m := rfl
@[simp] theorem wayR_stop : wayR .stop m = .ex 1 [] m := rfl
@[simp] theorem kD_none : kD none = .non := rfl
@[simp] theorem kD_some {k : Nat} : kD (some k) = .int k := rfl
end
/-- the walk's end -/
def Out (P : Prog) (ds : List Deed) (m : M) (wi ai si dd ti qi pi : Nat) (r : R D) (S : Rs) : Prop :=
  ∃ m' q', r = wayR S.1 m' ∧ Pst P ds m' wi ai si dd ti q' pi S.2.1 S.2.2 ∧ Fr [si, ai, ti, qi] m m' ∧ (q' = qi ∨ m.length ≤ q')
def CalR (P : Prog) (ds : List Deed) (i : Nat) (c : Nat → Nat) (cal : Nat → List Int → Tk → Way × Tk) (F : Nat) : Prop :=
  ∀ (w : Nat) (ns : List Int) (t : Tk) (f : Nat) (m : M) (ai dd ti qi pi : Nat) (N : D), i < w → P.ps[w]? = some ns.length → (∀ v ∈ ns, Num v) → t.told.length < ds.length → t.words.length + c w < 16777216 → F ≤ f → Ast ds m ai dd ti qi t → m[pi]? = some (.lst (P.map Work.enc)) → pi ≠ ti → pi ≠ qi →
    itemsOf m N = some (ns.map .int) → ∃ m' q', m_wk f 0 [.obj pi, .int w, N, .obj ai] m = wayR (cal w ns t).1 m' ∧ Ast ds m' ai dd ti q' (cal w ns t).2 ∧ Fr [ai, ti, qi] m m' ∧ (q' = qi ∨ m.length ≤ q')
section
variable {P : Prog} {ds : List Deed} {m m' : M} {wi ai si dd ti qi pi : Nat} {vs : List Int} {t : Tk} {n : Nat}
theorem Pst.nsi (h : Pst P ds m wi ai si dd ti qi pi vs t) : wi ≠ si ∧ ai ≠ si ∧ wi ≠ ti ∧ wi ≠ qi ∧ wi ≠ ai ∧ pi ≠ ai := by
  refine ⟨ne_il h.walk h.sl, ne_il h.ast.ins h.sl, ne_il h.walk h.ast.ht, ne_il h.walk h.ast.hq, fun e => ?_, Ne.symm (ne_il h.ast.ins h.pr)⟩
  have := h.walk
  rw [e, h.ast.ins] at this
  cases this
theorem reckon_ok (h : Pst P ds m wi ai si dd ti qi pi vs t) (hl : vs.length = n) (hv : ∀ v ∈ vs, Num v) {e : Rk} (he : e.ok n 3) : m_Walk_reckon [.obj wi, e.enc] m = oR (e.ev vs) m := by
  have e1 := rk_prog hl hv 3 e he 6 m si (by omega) h.sl
  have hw := h.walk
  cases o : e.ev vs with
  | none => rw [o] at e1; simp at e1; simp [m_Walk_reckon, mkF, b_Walk_reckon, hw, e1]
  | some i => rw [o] at e1; simp at e1; simp [m_Walk_reckon, mkF, b_Walk_reckon, hw, e1]
theorem ixN_k {n k : Nat} (h : k < n) : L2.ixN n (k : Int) = some k := by simp [L2.ixN, h]
theorem keep_ok (h : Pst P ds m wi ai si dd ti qi pi vs t) (hl : vs.length = n) {k : Option Nat} (hk : kOk n k) {i : Int} :
    ∃ m', m_Walk_keep [.obj wi, kD k, .int i] m = .ok .non m' ∧ Pst P ds m' wi ai si dd ti qi pi (put k i vs) t ∧ Fr [si] m m' := by
  have hw := h.walk
  have hs := h.sl
  obtain ⟨n1, n2, n3, n4, n5, n6⟩ := h.nsi
  cases k with
  | none => exact ⟨m, by simp [m_Walk_keep, mkF, b_Walk_keep], h, .refl⟩
  | some k =>
    have hkn : k < vs.length := by rw [hl]; exact hk k rfl
    have hix := ixN_k hkn
    have f : Fr [si] m (m.set si (.lst ((vs.set k i).map .int))) := Fr.refl.set _ fun _ => by simp
    refine ⟨m.set si (.lst ((vs.set k i).map .int)), by simp [m_Walk_keep, mkF, b_Walk_keep, hw, hs, hix, List.map_set], ⟨h.ast.fr f (by simpa using n2) (by simpa using Ne.symm h.sd) (by simpa using Ne.symm h.st) (by simpa using Ne.symm h.sq), f.keeps (by simpa using n1) hw, get_set hs, f.keeps (by simpa using Ne.symm h.sp) h.pr, h.sd, h.st, h.sq, h.sp, h.pt, h.pq⟩, f⟩
/-- the asker was at work -/
theorem Pst.asked (h : Pst P ds m wi ai si dd ti qi pi vs t) {t' : Tk} {q' : Nat} (a : Ast ds m' ai dd ti q' t') (f : Fr [ai, ti, qi] m m') (hq : q' = qi ∨ m.length ≤ q') : Pst P ds m' wi ai si dd ti q' pi vs t' := by
  obtain ⟨n1, n2, n3, n4, n5, n6⟩ := h.nsi
  have l1 := get_lt h.sl
  have l2 := get_lt h.pr
  refine ⟨a, f.keeps (by simp; omega) h.walk, f.keeps (by simp; exact ⟨Ne.symm n2, h.st, h.sq⟩) h.sl, f.keeps (by simp; exact ⟨n6, h.pt, h.pq⟩) h.pr, h.sd, h.st, ?_, h.sp, h.pt, ?_⟩
  · rcases hq with rfl | hq
    · exact h.sq
    · omega
  · rcases hq with rfl | hq
    · exact h.pq
    · omega
theorem Fr.q {S : List Nat} {m m1 m' : M} {si ai ti qi q' : Nat} (f : Fr [si, ai, ti, qi] m m1) (g : Fr [si, ai, ti, q'] m1 m') (hq : q' = qi ∨ m.length ≤ q') : Fr [si, ai, ti, qi] m m' := f.up g fun k hk hl => by
  simp at hk ⊢
  rcases hk with rfl | rfl | rfl | rfl
  · exact .inl rfl
  · exact .inr (.inl rfl)
  · exact .inr (.inr (.inl rfl))
  · rcases hq with rfl | hq
    · exact .inr (.inr (.inr rfl))
    · omega
theorem or_q {q q' q'' : Nat} {m m1 : M} (h : q' = q ∨ m.length ≤ q') (h' : q'' = q' ∨ m1.length ≤ q'') (hl : m.length ≤ m1.length) : q'' = q ∨ m.length ≤ q'' := by
  rcases h' with rfl | h'
  · exact h
  · exact .inr (by omega)
theorem Fr.sub {S S' : List Nat} {m m' : M} (f : Fr S m m') (h : ∀ k ∈ S, k ∈ S') : Fr S' m m' := f.mono fun k _ hk => h k hk
/-- one walk behind another -/
theorem Out.next {S S' : Rs} {r : R D} {q1 : Nat} {m1 : M} (f1 : Fr [si, ai, ti, qi] m m1) (h1 : q1 = qi ∨ m.length ≤ q1) (o : Out P ds m1 wi ai si dd ti q1 pi r S) : Out P ds m wi ai si dd ti qi pi r S := by
  obtain ⟨m', q', e, p, f, hq⟩ := o
  exact ⟨m', q', e, p, Fr.q (S := []) f1 f h1, or_q h1 hq f1.1⟩
theorem Pst.out (h : Pst P ds m wi ai si dd ti qi pi vs t) {r : R D} {y : Way} (e : r = wayR y m) : Out P ds m wi ai si dd ti qi pi r (y, vs, t) := ⟨m, qi, e, h, .refl, .inl rfl⟩
end
@[simp] theorem sub_NoPart_0 : sub_NoPart 0 = true := rfl
@[simp] theorem sub_NoPart_1 : sub_NoPart 1 = false := rfl
@[simp] theorem sub_Over_1 : sub_Over 1 = true := rfl
/-- an exception of a reckoning becomes the fault 0 -/
theorem outcome_of {f : Nat} {m m' : M} {wi : Nat} {c : Nat} {fs : List (Option D)} {x : D} (hw : m[wi]? = some (.ins 1 fs)) {y : Way} (h : m_wk f 3 [.obj wi, x] m = wayR y m') : m_wk (f + 1) 2 [.obj wi, x] m = wayR y m' := by
  have w : m_wk (f + 1) 2 = mkF 2 2 (b_Walk_outcome (m_wk f)) := rfl
  cases y <;> simp at h <;> simp [w, mkF, b_Walk_outcome, hw, h]
theorem outcome_0 {f : Nat} {m m' : M} {wi : Nat} {fs : List (Option D)} {x : D} (hw : m[wi]? = some (.ins 1 fs)) (h : m_wk f 3 [.obj wi, x] m = .ex 0 [] m') : m_wk (f + 1) 2 [.obj wi, x] m = wayR (.fault 0) m' := by
  have w : m_wk (f + 1) 2 = mkF 2 2 (b_Walk_outcome (m_wk f)) := rfl
  simp [w, mkF, b_Walk_outcome, hw, h]
end Hb

set_option linter.all false
set_option autoImplicit false
set_option maxRecDepth 10000
set_option maxHeartbeats 4000000
namespace Hb
open PySem L2 Sh Mi Tw
/-! ### == with a word alone in a tuple -/
theorem wd_at : wds0[7]? = some (Str.ofString "fault") ∧ wds0[5]? = some (Str.ofString "end") ∧ wds0[2]? = some (Str.ofString "shut") ∧ wds0[21]? = some (Str.ofString "leave") ∧ wds0[27]? = some (Str.ofString "stop") ∧ wds0[0]? = some (Str.ofString "ask") ∧ wds0[1]? = some (Str.ofString "throw") := by
  refine ⟨rfl, rfl, rfl, rfl, rfl, rfl, rfl⟩
theorem canL {x : String} (h : PyData.canLay0 (.str (Str.ofString x)) = true) : PyData.canLay0 (.str (Str.ofString x)) = true := h
section
variable {m : M} {n : Int}
theorem c1 : PyData.canLay0 (.str (Str.ofString "fault")) = true ∧ PyData.canLay0 (.str (Str.ofString "end")) = true ∧ PyData.canLay0 (.str (Str.ofString "shut")) = true ∧ PyData.canLay0 (.str (Str.ofString "leave")) = true ∧ PyData.canLay0 (.str (Str.ofString "stop")) = true := by decide +kernel
theorem s1 : (Str.ofString "fault" == Str.ofString "leave") = false ∧ (Str.ofString "end" == Str.ofString "leave") = false ∧ (Str.ofString "shut" == Str.ofString "leave") = false ∧ (Str.ofString "leave" == Str.ofString "leave") = true := by decide +kernel
theorem s2 : (Str.ofString "fault" == Str.ofString "stop") = false ∧ (Str.ofString "end" == Str.ofString "stop") = false ∧ (Str.ofString "shut" == Str.ofString "stop") = false ∧ (Str.ofString "leave" == Str.ofString "stop") = false ∧ (Str.ofString "stop" == Str.ofString "stop") = true := by decide +kernel
theorem shp {p : PyData} (h : p.canLay0 = true) (h' : p.depth ≤ 64) : SeqAt.shaped p = true := by
  unfold SeqAt.shaped
  rw [h, Bool.true_and, decide_eq_true_iff]
  exact h'
theorem geq_of {x y : D} {p q : PyData} {b : Bool} (h1 : dat wds0 m x = some p) (h2 : dat wds0 m y = some q) (s1 : SeqAt.shaped p = true) (s2 : SeqAt.shaped q = true) (e : PyData.eqv p q = b) : gEqD wds0 m x y = some (.bl b) := by
  unfold gEqD
  rw [h1, h2]
  simp [s1, s2, e]
theorem d1 {w : Nat} {x : Str} (h : wds0[w]? = some x) : dat wds0 m (.tup [.wd w]) = some (.tuple [.str x]) := by simp [dat, datR, datAll, h]
theorem d2 {w : Nat} {x : Str} (h : wds0[w]? = some x) : dat wds0 m (.tup [.wd w, .int n]) = some (.tuple [.str x, .int n]) := by simp [dat, datR, datAll, h]
theorem d0 : dat wds0 m .non = some .none := by simp [dat, datR]
theorem sh1 {x : Str} (h : PyData.canLay0 (.str x) = true) : SeqAt.shaped (.tuple [.str x]) = true := shp (by simp [PyData.canLay0, PyData.canLayAll0] at h ⊢; exact h) (by simp [PyData.depth, PyData.depthAll])
theorem sh2 {x : Str} (h : PyData.canLay0 (.str x) = true) : SeqAt.shaped (.tuple [.str x, .int n]) = true := shp (by simp [PyData.canLay0, PyData.canLayAll0] at h ⊢; exact h) (by simp [PyData.depth, PyData.depthAll])
theorem sh0 : SeqAt.shaped .none = true := shp rfl (by simp [PyData.depth])
@[simp] theorem lv_non : gEqD wds0 m .non (.tup [.wd 21]) = some (.bl false) := geq_of d0 (d1 wd_at.2.2.2.1) sh0 (sh1 c1.2.2.2.1) (by simp [PyData.eqv])
@[simp] theorem lv_fault : gEqD wds0 m (.tup [.wd 7, .int n]) (.tup [.wd 21]) = some (.bl false) := geq_of (d2 wd_at.1) (d1 wd_at.2.2.2.1) (sh2 c1.1) (sh1 c1.2.2.2.1) (by simp [PyData.eqv, PyData.eqvAll])
@[simp] theorem lv_end : gEqD wds0 m (.tup [.wd 5, .int n]) (.tup [.wd 21]) = some (.bl false) := geq_of (d2 wd_at.2.1) (d1 wd_at.2.2.2.1) (sh2 c1.2.1) (sh1 c1.2.2.2.1) (by simp [PyData.eqv, PyData.eqvAll])
@[simp] theorem lv_shut : gEqD wds0 m (.tup [.wd 2]) (.tup [.wd 21]) = some (.bl false) := geq_of (d1 wd_at.2.2.1) (d1 wd_at.2.2.2.1) (sh1 c1.2.2.1) (sh1 c1.2.2.2.1) (by simp [PyData.eqv, PyData.eqvAll]; decide +kernel)
@[simp] theorem lv_leave : gEqD wds0 m (.tup [.wd 21]) (.tup [.wd 21]) = some (.bl true) := geq_of (d1 wd_at.2.2.2.1) (d1 wd_at.2.2.2.1) (sh1 c1.2.2.2.1) (sh1 c1.2.2.2.1) (by simp [PyData.eqv, PyData.eqvAll])
@[simp] theorem st_non : gEqD wds0 m .non (.tup [.wd 27]) = some (.bl false) := geq_of d0 (d1 wd_at.2.2.2.2.1) sh0 (sh1 c1.2.2.2.2) (by simp [PyData.eqv])
@[simp] theorem st_fault : gEqD wds0 m (.tup [.wd 7, .int n]) (.tup [.wd 27]) = some (.bl false) := geq_of (d2 wd_at.1) (d1 wd_at.2.2.2.2.1) (sh2 c1.1) (sh1 c1.2.2.2.2) (by simp [PyData.eqv, PyData.eqvAll])
@[simp] theorem st_end : gEqD wds0 m (.tup [.wd 5, .int n]) (.tup [.wd 27]) = some (.bl false) := geq_of (d2 wd_at.2.1) (d1 wd_at.2.2.2.2.1) (sh2 c1.2.1) (sh1 c1.2.2.2.2) (by simp [PyData.eqv, PyData.eqvAll])
@[simp] theorem st_shut : gEqD wds0 m (.tup [.wd 2]) (.tup [.wd 27]) = some (.bl false) := geq_of (d1 wd_at.2.2.1) (d1 wd_at.2.2.2.2.1) (sh1 c1.2.2.1) (sh1 c1.2.2.2.2) (by simp [PyData.eqv, PyData.eqvAll]; decide +kernel)
@[simp] theorem st_leave : gEqD wds0 m (.tup [.wd 21]) (.tup [.wd 27]) = some (.bl false) := geq_of (d1 wd_at.2.2.2.1) (d1 wd_at.2.2.2.2.1) (sh1 c1.2.2.2.1) (sh1 c1.2.2.2.2) (by simp [PyData.eqv, PyData.eqvAll]; decide +kernel)
@[simp] theorem st_stop : gEqD wds0 m (.tup [.wd 27]) (.tup [.wd 27]) = some (.bl true) := geq_of (d1 wd_at.2.2.2.2.1) (d1 wd_at.2.2.2.2.1) (sh1 c1.2.2.2.2) (sh1 c1.2.2.2.2) (by simp [PyData.eqv, PyData.eqvAll])
end
section
variable {P : Prog} {ds : List Deed} {wi ai si dd ti pi : Nat} {n : Nat}
/-- the args of a hand are reckoned -/
theorem compE_args {m : M} {qi : Nat} {vs : List Int} {t : Tk} (h : Pst P ds m wi ai si dd ti qi pi vs t) (hl : vs.length = n) (hv : ∀ v ∈ vs, Num v) {ys : List D} {τ : Sl} (h0 : τ[0]? = some (some (.obj wi))) (hτ : τ.length = 12) : ∀ (es : List Rk) (acc : List D), (∀ e ∈ es, e.ok n 3) → acc.length + es.length < 100 →
    compE (okS (ys, none)) 11 (eMeth 1 2 m_Walk_reckon (eVar 0) (lCons (eVar 11) lNil)) τ (es.map Rk.enc) acc m = (match evs vs es with
      | none => .ex 0 [] m
      | some ns => .ok (acc ++ ns.map .int) m)
  | [], acc, _, _ => by simp [compE, evs, okS_none]
  | e :: es, acc, he, hl' => by
    have e1 := reckon_ok h hl hv (he e List.mem_cons_self)
    have s0 : ∀ x : D, (τ.set 11 (some x))[0]? = some (some (.obj wi)) := fun x => by rw [List.getElem?_set_ne (by decide)]; exact h0
    have s1 : ∀ x : D, (τ.set 11 (some x))[11]? = some (some x) := fun x => List.getElem?_set_self (by omega)
    have hw := h.walk
    simp only [List.length_cons] at hl'
    have hacc : acc.length < 16777216 := by omega
    rw [List.map_cons, compE, if_pos okS_none]
    cases o : e.ev vs with
    | none =>
      rw [o] at e1
      simp only [oR_none] at e1
      simp [evs, o, s0, s1, hw, e1]
    | some i =>
      rw [o] at e1
      simp only [oR_some] at e1
      have ih := compE_args (ys := ys) h hl hv h0 hτ es (acc ++ [.int i]) (fun y hy => he y (List.mem_cons_of_mem _ hy)) (by simp; omega)
      simp [evs, o, s0, s1, hw, e1, hacc, ih]
      cases evs vs es <;> simp
end
/-- the end of a loop of bodies -/
def LR (S : S) (y : Way) (m' : M) : Prop := match y with
  | .go => (∃ τ, S = .nx τ m') ∨ S = .rt .non m'
  | .stop => ∃ τ, S = .ex 1 [] τ m'
  | .fault n => S = .rt (.tup [.wd 7, .int n]) m'
  | .fin n => S = .rt (.tup [.wd 5, .int n]) m'
  | .leave => S = .rt (.tup [.wd 21]) m'
  | .shut => S = .rt (.tup [.wd 2]) m'
theorem LR.toR {S0 : S} {y : Way} {m' : M} (h : LR S0 y m') {f : Sl → M → S} {τ : Sl} {m : M} (e : f τ m = S0) : toR (sSeq f (sRet (eC .non)) τ m) = wayR y m' := by
  cases y with
  | go =>
    rcases h with ⟨τ', h⟩ | h
    · simp [e, h]
    · simp [e, h]
  | stop => obtain ⟨τ', h⟩ := h; simp [e, h]
  | fault n => have h : S0 = _ := h; simp [e, h]
  | fin n => have h : S0 = _ := h; simp [e, h]
  | leave => have h : S0 = _ := h; simp [e, h]
  | shut => have h : S0 = _ := h; simp [e, h]
end Hb

set_option linter.all false
set_option autoImplicit false
set_option maxRecDepth 10000
set_option maxHeartbeats 4000000
namespace Hb
open PySem L2 Sh Mi Tw
section
variable {P : Prog} {ds : List Deed} {ps : List Nat} {i n F : Nat} {c : Nat → Nat} {cal : Nat → List Int → Tk → Way × Tk} {wi ai si dd ti pi : Nat}
/-- what a body's walk is to show -/
def BdP (P : Prog) (ds : List Deed) (n : Nat) (c : Nat → Nat) (cal : Nat → List Int → Tk → Way × Tk) (wi ai si dd ti pi : Nat) (b : Bd) (f : Nat) : Prop :=
  ∀ (m : M) (qi : Nat) (vs : List Int) (t : Tk), Good ds n vs t → t.words.length + b.cost c < 16777216 → Pst P ds m wi ai si dd ti qi pi vs t → Out P ds m wi ai si dd ti qi pi (m_wk f 1 [.obj wi, .tup b.encs] m) (b.run ds cal vs t)
theorem round_ok {f : Nat} {b : Bd} (inv : ∀ vs t, Good ds n vs t → After ds n (t.words.length + b.cost c) (b.run ds cal vs t)) (hb : BdP P ds n c cal wi ai si dd ti pi b f) :
    ∀ (ys : List D) (m : M) (qi : Nat) (vs : List Int) (t : Tk) (x1 x3 x4 : Option D), Good ds n vs t → t.words.length + ys.length * b.cost c < 16777216 → Pst P ds m wi ai si dd ti qi pi vs t →
      ∃ m' q', LR (loop (gN 3) (lb_Walk_go_round_0 (m_wk f)) ys [some (.obj wi), x1, some (.tup b.encs), x3, x4] m) (iter ys.length (b.run ds cal) vs t).1 m' ∧ Pst P ds m' wi ai si dd ti q' pi (iter ys.length (b.run ds cal) vs t).2.1 (iter ys.length (b.run ds cal) vs t).2.2 ∧ Fr [si, ai, ti, qi] m m' ∧ (q' = qi ∨ m.length ≤ q')
  | [], m, qi, vs, t, x1, x3, x4, g, hw, p => ⟨m, qi, .inl ⟨_, rfl⟩, p, .refl, .inl rfl⟩
  | y :: ys, m, qi, vs, t, x1, x3, x4, g, hw, p => by
    have hw' : t.words.length + (b.cost c + ys.length * b.cost c) < 16777216 := by
      rw [List.length_cons, Nat.add_mul, Nat.one_mul] at hw; omega
    obtain ⟨m1, q1, e1, p1, f1, h1⟩ := hb m qi vs t g (by omega) p
    have a1 := inv vs t g
    have hwk := p.walk
    rw [List.length_cons, iter]
    rcases er : b.run ds cal vs t with ⟨y1, vs1, t1⟩
    rw [er] at e1 p1 a1
    cases y1 with
    | go =>
      simp at e1
      obtain ⟨m2, q2, e2, p2, f2, h2⟩ := round_ok inv hb ys m1 q1 vs1 t1 x1 (some y) (some .non) (a1.good fun z => by cases z) (by have := a1.words; dsimp only at this; omega) p1
      refine ⟨m2, q2, ?_, p2, Fr.q (S := []) f1 f2 h1, or_q h1 h2 f1.1⟩
      have : loop (gN 3) (lb_Walk_go_round_0 (m_wk f)) (y :: ys) [some (.obj wi), x1, some (.tup b.encs), x3, x4] m = loop (gN 3) (lb_Walk_go_round_0 (m_wk f)) ys [some (.obj wi), x1, some (.tup b.encs), some y, some .non] m1 := by
        simp [loop, lb_Walk_go_round_0, hwk, e1]
      rw [this]
      exact e2
    | leave =>
      simp at e1
      exact ⟨m1, q1, .inr (by simp [loop, lb_Walk_go_round_0, hwk, e1]), p1, f1, h1⟩
    | fault j =>
      simp at e1
      exact ⟨m1, q1, (show _ = _ by simp [loop, lb_Walk_go_round_0, hwk, e1]), p1, f1, h1⟩
    | fin j =>
      simp at e1
      exact ⟨m1, q1, (show _ = _ by simp [loop, lb_Walk_go_round_0, hwk, e1]), p1, f1, h1⟩
    | shut =>
      simp at e1
      exact ⟨m1, q1, (show _ = _ by simp [loop, lb_Walk_go_round_0, hwk, e1]), p1, f1, h1⟩
    | stop =>
      simp at e1
      exact ⟨m1, q1, ⟨[some (.obj wi), x1, some (.tup b.encs), some y, x4], by simp [loop, lb_Walk_go_round_0, hwk, e1]⟩, p1, f1, h1⟩
theorem wk3 {f : Nat} : m_wk (f + 1) 3 = mkF 2 12 (b_Walk_step (m_wk f)) := rfl
theorem wk1 {f : Nat} : m_wk (f + 1) 1 = mkF 2 4 (b_Walk_body (m_wk f)) := rfl
theorem wk4 {f : Nat} : m_wk (f + 1) 4 = mkF 4 5 (b_Walk_hand (m_wk f)) := rfl
theorem wk5 {f : Nat} : m_wk (f + 1) 5 = mkF 3 5 (b_Walk_go_round (m_wk f)) := rfl
theorem wk6 {f : Nat} : m_wk (f + 1) 6 = mkF 4 8 (b_Walk_attempt (m_wk f)) := rfl
theorem Out.step {m : M} {qi f : Nat} {x : D} {S : Rs} {vs : List Int} {t : Tk} (p : Pst P ds m wi ai si dd ti qi pi vs t) (o : Out P ds m wi ai si dd ti qi pi (m_wk f 3 [.obj wi, x] m) S) : Out P ds m wi ai si dd ti qi pi (m_wk (f + 1) 2 [.obj wi, x] m) S := by
  obtain ⟨m', q', e, r⟩ := o
  exact ⟨m', q', outcome_of (c := 1) p.walk e, r⟩
theorem way_same {r : R D} {y : Way} {m : M} (h : r = wayR y m) (k : R D → R D) (hk : ∀ d m, k (.ok d m) = .ok d m) (hx : ∀ a b m, k (.ex a b m) = .ex a b m) : k r = wayR y m := by
  subst h
  cases y <;> simp [hk, hx]
/-- the walk of a body, its loop alone -/
def OutL (P : Prog) (ds : List Deed) (m : M) (wi ai si dd ti qi pi : Nat) (S0 : S) (R : Rs) : Prop :=
  ∃ m' q', LR S0 R.1 m' ∧ Pst P ds m' wi ai si dd ti q' pi R.2.1 R.2.2 ∧ Fr [si, ai, ti, qi] m m' ∧ (q' = qi ∨ m.length ≤ q')
theorem OutL.bd {m : M} {qi k B : Nat} {b : Bd} {R : Rs} (hk : B + 1 ≤ k) (h : ∀ f, B ≤ f → OutL P ds m wi ai si dd ti qi pi (loop (gN 2) (lb_Walk_body_0 (m_wk f)) b.encs [some (.obj wi), some (.tup b.encs), none, none] m) R) : Out P ds m wi ai si dd ti qi pi (m_wk k 1 [.obj wi, .tup b.encs] m) R := by
  obtain ⟨f, rfl⟩ : ∃ f, k = f + 1 := ⟨k - 1, by omega⟩
  obtain ⟨m', q', e, r⟩ := h f (by omega)
  refine ⟨m', q', ?_, r⟩
  exact LR.toR (f := sFor (gN 2) (iT (eVar 1)) (lb_Walk_body_0 (m_wk f))) (τ := [some (.obj wi), some (.tup b.encs), none, none]) (m := m) e (by simp)
/-- a try's parts, in the program -/
noncomputable def attIf (rec : Nat → List D → M → R D) : Sl → M → S := (sIf (tAnd (tB (eOp gIsN (eVar 2) (eC .non))) (tAnd (tB (eOp gIsN (eVar 4) (eC .non))) (tB (eOp gEq (eOp gIx (eVar 4) (eC (.int 0))) (eC (.wd 7)))))) (sSeq (sAsg (eVar 2) (gT [5, 6])) (sSeq (sExpr (eMeth 1 3 m_Walk_keep (eVar 0) (lCons (eVar 5) (lCons (eOp gIx (eVar 4) (eC (.int 1))) lNil)))) (sSet 4 (eMeth 1 2 (rec 1) (eVar 0) (lCons (eVar 6) lNil))))) sNx)
noncomputable def attTail (rec : Nat → List D → M → R D) : Sl → M → S := (sSeq (sSet 7 (eMeth 1 2 (rec 1) (eVar 0) (lCons (eVar 3) lNil))) (sRet (eIf (tB (eOp gIs (eVar 7) (eC .non))) (eVar 4) (eVar 7))))
def tailR (came : D) : Way → M → R D
  | .go, m => .ok came m
  | y, m => wayR y m
theorem att_tail {f : Nat} {m m' : M} {fs : List (Option D)} {l : List D} {x1 x2 x5 x6 x7 : Option D} {came : D} (hw : m[wi]? = some (.ins 1 fs)) {y : Way} (e : m_wk f 1 [.obj wi, .tup l] m = wayR y m') :
    toR (attTail (m_wk f) [some (.obj wi), x1, x2, some (.tup l), some came, x5, x6, x7] m) = tailR came y m' := by
  cases y <;> simp at e <;> simp [attTail, hw, e, tailR]
mutual
theorem Stp.prog (hd : ∀ d ∈ ds, d.ok) (hdl : ds.length < 1000000) (hps : ∀ (w k : Nat), P.ps[w]? = some k → k ≤ 2) (hc : CalOk ds P.ps i c cal) (hr : CalR P ds i c cal F) : ∀ (s : Stp) {r : Bool} (f : Nat) (m : M) (qi : Nat) (vs : List Int) (t : Tk), s.ok P.ps i n r → Good ds n vs t → t.words.length + s.cost c < 16777216 → 4 * s.dep + F ≤ f → Pst P ds m wi ai si dd ti qi pi vs t →
    Out P ds m wi ai si dd ti qi pi (m_wk f 2 [.obj wi, s.enc] m) (s.run ds cal vs t)
  | .set k e, r, f, m, qi, vs, t, h, g, hw, hf, p => by
    obtain ⟨f, rfl⟩ : ∃ j, f = j + 2 := ⟨f - 2, by simp only [Stp.dep] at hf; omega⟩
    have hwk := p.walk
    have e1 := reckon_ok p g.len g.num h.2
    simp only [Stp.run]
    cases o : e.ev vs with
    | none =>
      rw [o] at e1; simp at e1
      exact p.out (outcome_0 hwk (by simp [wk3, mkF, b_Walk_step, Stp.enc, hwk, e1]))
    | some j =>
      rw [o] at e1; simp at e1
      obtain ⟨m', e2, p2, f2⟩ := keep_ok p g.len (k := some k) (i := j) fun x hx => by cases hx; exact h.1
      simp at e2
      exact ⟨m', qi, outcome_of (c := 1) (y := .go) hwk (by simp [wk3, mkF, b_Walk_step, Stp.enc, hwk, e1, e2]), p2, f2.sub (by simp), .inl rfl⟩
  | .say e, r, f, m, qi, vs, t, h, g, hw, hf, p => by
    obtain ⟨f, rfl⟩ : ∃ j, f = j + 2 := ⟨f - 2, by simp only [Stp.dep] at hf; omega⟩
    have hwk := p.walk
    have hai := p.ast.ins
    have e1 := reckon_ok p g.len g.num h
    simp only [Stp.run]
    cases o : e.ev vs with
    | none =>
      rw [o] at e1; simp at e1
      exact p.out (outcome_0 hwk (by simp [wk3, mkF, b_Walk_step, Stp.enc, hwk, hai, e1]))
    | some j =>
      rw [o] at e1; simp at e1
      obtain ⟨m', e2, a2, f2⟩ := say_ok p.ast (n := j) (by simp only [Stp.cost] at hw; omega)
      exact ⟨m', qi, outcome_of (c := 1) (y := .go) hwk (by simp [wk3, mkF, b_Walk_step, Stp.enc, hwk, hai, e1, e2]), p.asked a2 (f2.sub (by simp)) (.inl rfl), f2.sub (by simp), .inl rfl⟩
  | .give e k, r, f, m, qi, vs, t, h, g, hw, hf, p => by
    obtain ⟨f, rfl⟩ : ∃ j, f = j + 2 := ⟨f - 2, by simp only [Stp.dep] at hf; omega⟩
    have hwk := p.walk
    have hai := p.ast.ins
    have e1 := reckon_ok p g.len g.num h.1
    simp only [Stp.run]
    cases o : e.ev vs with
    | none =>
      rw [o] at e1; simp at e1
      exact p.out (outcome_0 hwk (by simp [wk3, mkF, b_Walk_step, Stp.enc, hwk, e1]))
    | some j =>
      rw [o] at e1; simp at e1
      obtain ⟨m1, q1, a1, l1, f1, e2⟩ := Hb.take_ok p.ast j g.told hdl
      have p1 := p.asked a1 (f1.sub (by simp)) (.inr l1)
      have fr1 : Fr [si, ai, ti, qi] m m1 := f1.sub (by simp)
      have hw1 := p1.walk
      rcases eg : gift ds j t with ⟨od, t'⟩
      rw [eg] at e2 a1 p1
      dsimp only at e2 a1 p1 ⊢
      rw [eg]
      cases od with
      | none =>
        dsimp only at e2
        exact ⟨m1, q1, outcome_of (c := 1) (y := .stop) hwk (by simp [wk3, mkF, b_Walk_step, Stp.enc, hwk, hai, e1, m_Walk_give, b_Walk_give, e2]), p1, fr1, .inr l1⟩
      | some d =>
        dsimp only at e2
        cases d with
        | ask a =>
          simp only [enc_ask] at e2
          obtain ⟨m2, e3, p2, f2⟩ := keep_ok p1 g.len (k := k) (i := a) h.2
          exact ⟨m2, q1, outcome_of (c := 1) (y := .go) hwk (by simp [wk3, mkF, b_Walk_step, Stp.enc, hwk, hai, e1, m_Walk_give, b_Walk_give, e2, hw1, e3]), p2, fr1.up f2 (by simp), .inr l1⟩
        | throw a =>
          simp only [enc_throw] at e2
          exact ⟨m1, q1, outcome_of (c := 1) (y := .fault a) hwk (by simp [wk3, mkF, b_Walk_step, Stp.enc, hwk, hai, e1, m_Walk_give, b_Walk_give, e2]), p1, fr1, .inr l1⟩
        | shut =>
          simp only [enc_shut] at e2
          exact ⟨m1, q1, outcome_of (c := 1) (y := .shut) hwk (by simp [wk3, mkF, b_Walk_step, Stp.enc, hwk, hai, e1, m_Walk_give, b_Walk_give, e2]), p1, fr1, .inr l1⟩
  | .hand w es k, r, f, m, qi, vs, t, h, g, hw, hf, p => by
    obtain ⟨f, rfl⟩ : ∃ j, f = j + 3 := ⟨f - 3, by simp only [Stp.dep] at hf; omega⟩
    have hwk := p.walk
    have hai := p.ast.ins
    have e1 := compE_args (ys := es.map Rk.enc) (τ := [some (.obj wi), some (Stp.hand w es k).enc, some (kD k), none, some (.int w), some (.tup (es.map Rk.enc)), none, none, none, none, none, none]) p g.len g.num rfl rfl es [] h.2.2.1 (by
      have := hps _ _ h.2.1
      simp only [List.length_nil]; omega)
    simp only [Stp.run]
    cases o : evs vs es with
    | none =>
      rw [o] at e1; simp [Stp.enc] at e1
      exact p.out (outcome_0 hwk (by simp [wk3, mkF, b_Walk_step, Stp.enc, hwk, e1]))
    | some ns =>
      rw [o] at e1; simp [Stp.enc] at e1
      obtain ⟨nl, nn⟩ := evs_ok g.len g.num h.2.2.1 o
      have fa : Fr [] m (m ++ [O.lst (ns.map D.int)]) := Fr.refl.add _
      have pa := p.asked (m' := m ++ [O.lst (ns.map D.int)]) (q' := qi) (t' := t) (p.ast.fr fa (by simp) (by simp) (by simp) (by simp)) (fa.sub (by simp)) (.inl rfl)
      have hwa := pa.walk
      obtain ⟨m1, q1, e2, a1, f1, h1⟩ := hr w ns t f (m ++ [O.lst (ns.map D.int)]) ai dd ti qi pi (.obj m.length) h.1 (by rw [nl]; exact h.2.1) nn g.told (by simp only [Stp.cost] at hw; exact hw) (by simp only [Stp.dep] at hf; omega) pa.ast pa.pr p.pt p.pq (by simp)
      have ci := hc w ns t h.1 (by rw [nl]; exact h.2.1) nn g.told
      have p1 := pa.asked a1 f1 h1
      have hw1 := p1.walk
      have lm : m.length ≤ (m ++ [O.lst (ns.map D.int)]).length := by simp
      have h1' : q1 = qi ∨ m.length ≤ q1 := h1.imp id fun z => Nat.le_trans lm z
      have fr1 : Fr [si, ai, ti, qi] m m1 := (fa.sub (S' := [si, ai, ti, qi]) (by simp)).up f1 (by simp)
      rcases ec : cal w ns t with ⟨y, t'⟩
      rw [ec] at e2 a1 p1 ci
      dsimp only at e2 a1 p1 ci ⊢
      rw [ec]
      cases y with
      | go => exact absurd rfl ci.2.2.2.2.1
      | leave => exact absurd rfl ci.2.2.2.2.2
      | fin j =>
        simp at e2
        obtain ⟨m2, e3, p2, f2⟩ := keep_ok p1 g.len (k := k) (i := j) h.2.2.2
        exact ⟨m2, q1, outcome_of (c := 1) (y := .go) hwk (by simp [wk3, wk4, mkF, b_Walk_step, Stp.enc, hwk, e1, b_Walk_hand, hwa, e2, hw1, e3]), p2, fr1.up f2 (by simp), h1'⟩
      | fault j =>
        simp at e2
        exact ⟨m1, q1, outcome_of (c := 1) (y := .fault j) hwk (by simp [wk3, wk4, mkF, b_Walk_step, Stp.enc, hwk, e1, b_Walk_hand, hwa, e2]), p1, fr1, h1'⟩
      | shut =>
        simp at e2
        exact ⟨m1, q1, outcome_of (c := 1) (y := .shut) hwk (by simp [wk3, wk4, mkF, b_Walk_step, Stp.enc, hwk, e1, b_Walk_hand, hwa, e2]), p1, fr1, h1'⟩
      | stop =>
        simp at e2
        exact ⟨m1, q1, outcome_of (c := 1) (y := .stop) hwk (by simp [wk3, wk4, mkF, b_Walk_step, Stp.enc, hwk, e1, b_Walk_hand, hwa, e2]), p1, fr1, h1'⟩
  | .ife e a b, r, f, m, qi, vs, t, h, g, hw, hf, p => by
    obtain ⟨f, rfl⟩ : ∃ j, f = j + 2 := ⟨f - 2, by simp only [Stp.dep] at hf; omega⟩
    have hwk := p.walk
    have e1 := reckon_ok p g.len g.num h.1
    simp only [Stp.run]
    cases o : e.ev vs with
    | none =>
      rw [o] at e1; simp at e1
      exact p.out (outcome_0 hwk (by simp [wk3, mkF, b_Walk_step, Stp.enc, hwk, e1]))
    | some j =>
      rw [o] at e1; simp at e1
      simp only [Stp.dep] at hf
      simp only [Stp.cost] at hw
      dsimp only
      by_cases hj : j = 0
      · rw [if_pos hj]
        refine Out.step p ?_
        obtain ⟨m', q', e2, rest⟩ := OutL.bd (k := f) (by omega) (fun f hf => Bd.progL hd hdl hps hc hr b f m qi vs t _ _ _ h.2.2 g (by omega) hf p)
        refine ⟨m', q', ?_, rest⟩
        generalize (b.run ds cal vs t).1 = y at e2 ⊢
        cases y <;> simp at e2 <;> simp [wk3, mkF, b_Walk_step, Stp.enc, hwk, e1, hj, e2]
      · rw [if_neg hj]
        refine Out.step p ?_
        obtain ⟨m', q', e2, rest⟩ := OutL.bd (k := f) (by omega) (fun f hf => Bd.progL hd hdl hps hc hr a f m qi vs t _ _ _ h.2.1 g (by omega) hf p)
        refine ⟨m', q', ?_, rest⟩
        generalize (a.run ds cal vs t).1 = y at e2 ⊢
        cases y <;> simp at e2 <;> simp [wk3, mkF, b_Walk_step, Stp.enc, hwk, e1, hj, e2]
  | .round e b, r, f, m, qi, vs, t, h, g, hw, hf, p => by
    obtain ⟨f, rfl⟩ : ∃ j, f = j + 3 := ⟨f - 3, by simp only [Stp.dep] at hf; omega⟩
    have hwk := p.walk
    have e1 := reckon_ok p g.len g.num h.1
    simp only [Stp.run]
    cases o : e.ev vs with
    | none =>
      rw [o] at e1; simp at e1
      exact p.out (outcome_0 hwk (by simp [wk3, mkF, b_Walk_step, Stp.enc, hwk, e1]))
    | some j =>
      rw [o] at e1; simp at e1
      simp only [Stp.dep] at hf
      simp only [Stp.cost] at hw
      dsimp only
      obtain ⟨j0, j1⟩ := Rk.ev_ok g.len g.num e h.1 o
      have ht := top_le o
      have hm := Nat.mul_le_mul_right (b.cost c) ht
      have hb : BdP P ds n c cal wi ai si dd ti pi b f := fun m qi vs t g hw p => OutL.bd (k := f) (by omega) (fun f hf => Bd.progL hd hdl hps hc hr b f m qi vs t _ _ _ h.2 g hw hf p)
      have ly : (rangeFrom 0 (j % 10).toNat).length = (j % 10).toNat := rangeFrom_len
      obtain ⟨m', q', e2, rest⟩ := round_ok (fun vs t g => (Bd.inv hd hc b vs t h.2 g).1) hb (rangeFrom 0 (j % 10).toNat) m qi vs t (some (.int (j % 10))) none none g (by rw [ly]; omega) p
      rw [ly] at e2 rest
      refine Out.step p ⟨m', q', ?_, rest⟩
      have hj : ((j % 10).toNat : Int) = j % 10 := by omega
      have hR : ∀ x3 x4 : Option D, iR (eVar 1) [some (.obj wi), some (.int (j % 10)), some (.tup b.encs), x3, x4] m = .ok (rangeFrom 0 (j % 10).toNat, none) m := fun x3 x4 => iR_nat (n := (j % 10).toNat) (by simp [hj]) (by omega)
      have e3 : sFor (gN 3) (iR (eVar 1)) (lb_Walk_go_round_0 (m_wk f)) [some (.obj wi), some (.int (j % 10)), some (.tup b.encs), none, none] m = loop (gN 3) (lb_Walk_go_round_0 (m_wk f)) (rangeFrom 0 (j % 10).toNat) [some (.obj wi), some (.int (j % 10)), some (.tup b.encs), none, none] m := by
        rw [sFor_eq, hR]; rfl
      have e4 := LR.toR e2 e3
      have e5 : m_wk (f + 1) 5 [.obj wi, .int (j % 10), .tup b.encs] m = wayR (iter (j % 10).toNat (b.run ds cal) vs t).1 m' := e4
      generalize (iter (j % 10).toNat (b.run ds cal) vs t).1 = y at e5 ⊢
      cases y <;> simp at e5 <;> simp [wk3, mkF, b_Walk_step, Stp.enc, hwk, e1, e5]
  | .leave, r, f, m, qi, vs, t, h, g, hw, hf, p => by
    obtain ⟨f, rfl⟩ : ∃ j, f = j + 2 := ⟨f - 2, by simp only [Stp.dep] at hf; omega⟩
    simp only [Stp.run]
    exact p.out (outcome_of (c := 1) (y := .leave) p.walk (by simp [wk3, mkF, b_Walk_step, Stp.enc]))
  | .fault e, r, f, m, qi, vs, t, h, g, hw, hf, p => by
    obtain ⟨f, rfl⟩ : ∃ j, f = j + 2 := ⟨f - 2, by simp only [Stp.dep] at hf; omega⟩
    have hwk := p.walk
    have e1 := reckon_ok p g.len g.num h
    simp only [Stp.run]
    cases o : e.ev vs with
    | none =>
      rw [o] at e1; simp at e1
      exact p.out (outcome_0 hwk (by simp [wk3, mkF, b_Walk_step, Stp.enc, hwk, e1]))
    | some j =>
      rw [o] at e1; simp at e1
      exact p.out (outcome_of (c := 1) (y := .fault j) hwk (by simp [wk3, mkF, b_Walk_step, Stp.enc, hwk, e1]))
  | .fin e, r, f, m, qi, vs, t, h, g, hw, hf, p => by
    obtain ⟨f, rfl⟩ : ∃ j, f = j + 2 := ⟨f - 2, by simp only [Stp.dep] at hf; omega⟩
    have hwk := p.walk
    have e1 := reckon_ok p g.len g.num h
    simp only [Stp.run]
    cases o : e.ev vs with
    | none =>
      rw [o] at e1; simp at e1
      exact p.out (outcome_0 hwk (by simp [wk3, mkF, b_Walk_step, Stp.enc, hwk, e1]))
    | some j =>
      rw [o] at e1; simp at e1
      exact p.out (outcome_of (c := 1) (y := .fin j) hwk (by simp [wk3, mkF, b_Walk_step, Stp.enc, hwk, e1]))
  | .tri a d l, r, f, m, qi, vs, t, h, g, hw, hf, p => by
    obtain ⟨f, rfl⟩ : ∃ j, f = j + 3 := ⟨f - 3, by simp only [Stp.dep] at hf; omega⟩
    simp only [Stp.dep] at hf
    simp only [Stp.cost] at hw
    have hwk := p.walk
    refine Out.step p ?_
    have step6 : m_wk (f + 2) 3 [.obj wi, (Stp.tri a d l).enc] m = m_wk (f + 1) 6 [.obj wi, .tup a.encs, d.enc, .tup l.encs] m := by
      simp [wk3, mkF, b_Walk_step, Stp.enc, hwk]
      generalize m_wk (f + 1) 6 [.obj wi, .tup a.encs, d.enc, .tup l.encs] m = rr
      cases rr <;> simp
    rw [step6]
    show Out P ds m wi ai si dd ti qi pi (toR (b_Walk_attempt (m_wk f) [some (.obj wi), some (.tup a.encs), some d.enc, some (.tup l.encs), none, none, none, none] m)) _
    unfold b_Walk_attempt
    simp only [Stp.run]
    obtain ⟨m1, q1, e1, p1, f1, h1⟩ := OutL.bd (k := f) (by omega) (fun f hf => Bd.progL hd hdl hps hc hr a f m qi vs t _ _ _ h.1 g (by omega) hf p)
    obtain ⟨i1, l1⟩ := Bd.inv hd hc a vs t h.1 g
    rcases er1 : a.run ds cal vs t with ⟨y1, vs1, t1⟩
    rw [er1] at e1 p1 i1 l1
    have w1 : t1.words.length ≤ t.words.length + a.cost c := i1.words
    have hw1 := p1.walk
    -- the last body, behind what came
    have lastB : ∀ (m2 : M) (q2 : Nat) (vs2 : List Int) (t2 : Tk) (y2 : Way) (came : D) (x1 x2 x5 x6 : Option D), (∀ mm, wayR y2 mm = .ok came mm) → Good ds n vs2 t2 → t2.words.length + l.cost c < 16777216 → Pst P ds m2 wi ai si dd ti q2 pi vs2 t2 → Fr [si, ai, ti, qi] m m2 → (q2 = qi ∨ m.length ≤ q2) →
        Out P ds m wi ai si dd ti qi pi (toR (attTail (m_wk f) [some (.obj wi), x1, x2, some (.tup l.encs), some came, x5, x6, none] m2)) (match l.run ds cal vs2 t2 with
          | (.go, vs3, t3) => (y2, vs3, t3)
          | r => r) := by
      intro m2 q2 vs2 t2 y2 came x1 x2 x5 x6 hy g2 hw2 p2 f2 h2
      obtain ⟨m3, q3, e3, p3, f3, h3⟩ := OutL.bd (k := f) (by omega) (fun f hf => Bd.progL hd hdl hps hc hr l f m2 q2 vs2 t2 _ _ _ h.2.2 g2 hw2 hf p2)
      have e4 := att_tail (x1 := x1) (x2 := x2) (x5 := x5) (x6 := x6) (x7 := none) (came := came) p2.walk e3
      rcases er3 : l.run ds cal vs2 t2 with ⟨y3, vs3, t3⟩
      rw [er3] at e4 p3
      cases y3 with
      | go => exact ⟨m3, q3, e4.trans (hy m3).symm, p3, Fr.q (S := []) f2 f3 h2, or_q h2 h3 f2.1⟩
      | leave => exact ⟨m3, q3, e4, p3, Fr.q (S := []) f2 f3 h2, or_q h2 h3 f2.1⟩
      | fault j => exact ⟨m3, q3, e4, p3, Fr.q (S := []) f2 f3 h2, or_q h2 h3 f2.1⟩
      | fin j => exact ⟨m3, q3, e4, p3, Fr.q (S := []) f2 f3 h2, or_q h2 h3 f2.1⟩
      | shut => exact ⟨m3, q3, e4, p3, Fr.q (S := []) f2 f3 h2, or_q h2 h3 f2.1⟩
      | stop => exact ⟨m3, q3, e4, p3, Fr.q (S := []) f2 f3 h2, or_q h2 h3 f2.1⟩
    -- where nothing is caught
    have pass : ∀ (came : D), y1 ≠ .stop → (∀ mm, wayR y1 mm = .ok came mm) → (d = .no ∨ isNon came = true ∨ (∃ x xs, came = .tup (.wd x :: xs) ∧ x ≠ 7)) → d.run ds cal y1 vs1 t1 = (y1, vs1, t1) → Out P ds m wi ai si dd ti qi pi (toR (sSeq (sSet 4 (eMeth 1 2 (m_wk f 1) (eVar 0) (lCons (eVar 1) lNil))) (sSeq (attIf (m_wk f)) (attTail (m_wk f))) [some (.obj wi), some (.tup a.encs), some d.enc, some (.tup l.encs), none, none, none, none] m)) (match d.run ds cal y1 vs1 t1 with
        | (.stop, vs2, t2) => (.stop, vs2, t2)
        | (y2, vs2, t2) => match l.run ds cal vs2 t2 with
          | (.go, vs3, t3) => (y2, vs3, t3)
          | r => r) := by
      intro came hs hy hno hrun
      have ec : m_wk f 1 [.obj wi, .tup a.encs] m = .ok came m1 := e1.trans (hy m1)
      have s1 : (sSet 4 (eMeth 1 2 (m_wk f 1) (eVar 0) (lCons (eVar 1) lNil))) [some (.obj wi), some (.tup a.encs), some d.enc, some (.tup l.encs), none, none, none, none] m = .nx [some (.obj wi), some (.tup a.encs), some d.enc, some (.tup l.encs), some came, none, none, none] m1 := by simp [hwk, ec]
      have s2 : attIf (m_wk f) [some (.obj wi), some (.tup a.encs), some d.enc, some (.tup l.encs), some came, none, none, none] m1 = .nx [some (.obj wi), some (.tup a.encs), some d.enc, some (.tup l.encs), some came, none, none, none] m1 := by
        rcases hno with rfl | hno | ⟨x, xs, rfl, hx⟩
        · simp [attIf, Ct.enc]
        · cases d with
          | no => simp [attIf, Ct.enc]
          | yes k b => simp [attIf, Ct.enc, hno]
        · cases d with
          | no => simp [attIf, Ct.enc]
          | yes k b => simp [attIf, Ct.enc, hx]
      rw [seq_nx s1 (seq_nx s2 rfl), hrun]
      have R := lastB m1 q1 vs1 t1 y1 came (some (.tup a.encs)) (some d.enc) none none hy (i1.good hs) (by omega) p1 f1 h1
      cases y1 with
      | stop => exact absurd rfl hs
      | go => exact R
      | leave => exact R
      | fault j => exact R
      | fin j => exact R
      | shut => exact R
    show Out P ds m wi ai si dd ti qi pi (toR (sSeq (sSet 4 (eMeth 1 2 (m_wk f 1) (eVar 0) (lCons (eVar 1) lNil))) (sSeq (attIf (m_wk f)) (attTail (m_wk f))) [some (.obj wi), some (.tup a.encs), some d.enc, some (.tup l.encs), none, none, none, none] m)) _
    cases y1 with
    | go => exact pass .non (by simp) (fun _ => rfl) (.inr (.inl rfl)) (by cases d <;> simp [Ct.run])
    | leave => exact pass (.tup [.wd 21]) (by simp) (fun _ => rfl) (.inr (.inr ⟨21, [], rfl, by decide⟩)) (by cases d <;> simp [Ct.run])
    | fin j => exact pass (.tup [.wd 5, .int j]) (by simp) (fun _ => rfl) (.inr (.inr ⟨5, _, rfl, by decide⟩)) (by cases d <;> simp [Ct.run])
    | shut => exact pass (.tup [.wd 2]) (by simp) (fun _ => rfl) (.inr (.inr ⟨2, [], rfl, by decide⟩)) (by cases d <;> simp [Ct.run])
    | stop =>
      have hrun : d.run ds cal .stop vs1 t1 = (.stop, vs1, t1) := by cases d <;> simp [Ct.run]
      rw [hrun]
      simp at e1
      exact ⟨m1, q1, by simp [hwk, e1], p1, f1, h1⟩
    | fault j =>
      cases d with
      | no => exact pass (.tup [.wd 7, .int j]) (by simp) (fun _ => rfl) (.inl rfl) (by simp [Ct.run])
      | yes k b =>
        simp at e1
        have s1 : (sSet 4 (eMeth 1 2 (m_wk f 1) (eVar 0) (lCons (eVar 1) lNil))) [some (.obj wi), some (.tup a.encs), some (Ct.yes k b).enc, some (.tup l.encs), none, none, none, none] m = .nx [some (.obj wi), some (.tup a.encs), some (Ct.yes k b).enc, some (.tup l.encs), some (.tup [.wd 7, .int j]), none, none, none] m1 := by simp [hwk, e1]
        obtain ⟨mk, ek, pk, fk⟩ := keep_ok p1 i1.len (k := k) (i := j) h.2.1.1
        have hwkk := pk.walk
        have pn := put_ok (k := k) i1.len i1.num (i := j) i1.way
        have gk : Good ds n (put k j vs1) t1 := ⟨pn.1, pn.2, i1.told fun z => by cases z⟩
        simp only [Ct.dep] at hf
        simp only [Ct.cost] at hw
        obtain ⟨m2, q2, e2, p2, f2, h2⟩ := OutL.bd (k := f) (by omega) (fun f hf => Bd.progL hd hdl hps hc hr b f mk q1 (put k j vs1) t1 _ _ _ h.2.1.2 gk (by omega) hf pk)
        obtain ⟨i2, l2⟩ := Bd.inv hd hc b (put k j vs1) t1 h.2.1.2 gk
        have f12 : Fr [si, ai, ti, qi] m mk := f1.up fk (by simp)
        have f13 := Fr.q (S := []) f12 f2 h1
        have h13 := or_q h1 h2 f12.1
        simp only [Ct.run]
        rcases er2 : b.run ds cal (put k j vs1) t1 with ⟨y2, vs2, t2⟩
        rw [er2] at e2 p2 i2 l2
        have w2 : t2.words.length ≤ t1.words.length + b.cost c := i2.words
        have go2 : ∀ came : D, y2 ≠ .stop → (∀ mm, wayR y2 mm = .ok came mm) → Out P ds m wi ai si dd ti qi pi (toR (sSeq (sSet 4 (eMeth 1 2 (m_wk f 1) (eVar 0) (lCons (eVar 1) lNil))) (sSeq (attIf (m_wk f)) (attTail (m_wk f))) [some (.obj wi), some (.tup a.encs), some (Ct.yes k b).enc, some (.tup l.encs), none, none, none, none] m)) (match l.run ds cal vs2 t2 with
            | (.go, vs3, t3) => (y2, vs3, t3)
            | r => r) := by
          intro came hs hy
          have ec : m_wk f 1 [.obj wi, .tup b.encs] mk = .ok came m2 := e2.trans (hy m2)
          have s2 : attIf (m_wk f) [some (.obj wi), some (.tup a.encs), some (Ct.yes k b).enc, some (.tup l.encs), some (.tup [.wd 7, .int j]), none, none, none] m1 = .nx [some (.obj wi), some (.tup a.encs), some (Ct.yes k b).enc, some (.tup l.encs), some came, some (kD k), some (.tup b.encs), none] m2 := by
            simp [attIf, Ct.enc, hw1, ek, hwkk, ec]
          rw [seq_nx s1 (seq_nx s2 rfl)]
          exact lastB m2 q2 vs2 t2 y2 came _ _ _ _ hy (i2.good hs) (by omega) p2 f13 h13
        cases y2 with
        | stop =>
          simp at e2
          have s2 : attIf (m_wk f) [some (.obj wi), some (.tup a.encs), some (Ct.yes k b).enc, some (.tup l.encs), some (.tup [.wd 7, .int j]), none, none, none] m1 = .ex 1 [] [some (.obj wi), some (.tup a.encs), some (Ct.yes k b).enc, some (.tup l.encs), some (.tup [.wd 7, .int j]), some (kD k), some (.tup b.encs), none] m2 := by
            simp [attIf, Ct.enc, hw1, ek, hwkk, e2]
          refine ⟨m2, q2, ?_, p2, f13, h13⟩
          rw [seq_nx s1 rfl, sSeq_eq, s2]
          rfl
        | go => exact go2 .non (by simp) fun _ => rfl
        | leave => exact go2 (.tup [.wd 21]) (by simp) fun _ => rfl
        | fault j2 => exact go2 (.tup [.wd 7, .int j2]) (by simp) fun _ => rfl
        | fin j2 => exact go2 (.tup [.wd 5, .int j2]) (by simp) fun _ => rfl
        | shut => exact go2 (.tup [.wd 2]) (by simp) fun _ => rfl
theorem Bd.progL (hd : ∀ d ∈ ds, d.ok) (hdl : ds.length < 1000000) (hps : ∀ (w k : Nat), P.ps[w]? = some k → k ≤ 2) (hc : CalOk ds P.ps i c cal) (hr : CalR P ds i c cal F) : ∀ (b : Bd) {r : Bool} (f : Nat) (m : M) (qi : Nat) (vs : List Int) (t : Tk) (A x2 x3 : Option D), b.ok P.ps i n r → Good ds n vs t → t.words.length + b.cost c < 16777216 → 4 * b.dep + F ≤ f → Pst P ds m wi ai si dd ti qi pi vs t →
    OutL P ds m wi ai si dd ti qi pi (loop (gN 2) (lb_Walk_body_0 (m_wk f)) b.encs [some (.obj wi), A, x2, x3] m) (b.run ds cal vs t)
  | .nil, r, f, m, qi, vs, t, A, x2, x3, h, g, hw, hf, p => by
    simp only [Bd.run, Bd.encs]
    exact ⟨m, qi, .inl ⟨_, rfl⟩, p, .refl, .inl rfl⟩
  | .cons s b, r, f, m, qi, vs, t, A, x2, x3, h, g, hw, hf, p => by
    simp only [Bd.dep] at hf
    simp only [Bd.cost] at hw
    have hwk := p.walk
    obtain ⟨m1, q1, e1, p1, f1, h1⟩ := Stp.prog hd hdl hps hc hr s f m qi vs t h.1 g (by omega) (by omega) p
    have a1 := (Stp.inv hd hc s vs t h.1 g).1
    simp only [Bd.run, Bd.encs]
    rcases er : s.run ds cal vs t with ⟨y1, vs1, t1⟩
    rw [er] at e1 p1 a1
    cases y1 with
    | go =>
      simp at e1
      obtain ⟨m2, q2, e2, p2, f2, h2⟩ := Bd.progL hd hdl hps hc hr b f m1 q1 vs1 t1 A (some s.enc) (some .non) h.2 (a1.good fun z => by cases z) (by have := a1.words; dsimp only at this; omega) (by omega) p1
      refine ⟨m2, q2, ?_, p2, Fr.q (S := []) f1 f2 h1, or_q h1 h2 f1.1⟩
      have : loop (gN 2) (lb_Walk_body_0 (m_wk f)) (s.enc :: b.encs) [some (.obj wi), A, x2, x3] m = loop (gN 2) (lb_Walk_body_0 (m_wk f)) b.encs [some (.obj wi), A, some s.enc, some .non] m1 := by
        simp [loop, lb_Walk_body_0, hwk, e1]
      rw [this]
      exact e2
    | leave =>
      simp at e1
      exact ⟨m1, q1, (show _ = _ by simp [loop, lb_Walk_body_0, hwk, e1]), p1, f1, h1⟩
    | fault j =>
      simp at e1
      exact ⟨m1, q1, (show _ = _ by simp [loop, lb_Walk_body_0, hwk, e1]), p1, f1, h1⟩
    | fin j =>
      simp at e1
      exact ⟨m1, q1, (show _ = _ by simp [loop, lb_Walk_body_0, hwk, e1]), p1, f1, h1⟩
    | shut =>
      simp at e1
      exact ⟨m1, q1, (show _ = _ by simp [loop, lb_Walk_body_0, hwk, e1]), p1, f1, h1⟩
    | stop =>
      simp at e1
      exact ⟨m1, q1, ⟨[some (.obj wi), A, some s.enc, x3], by simp [loop, lb_Walk_body_0, hwk, e1]⟩, p1, f1, h1⟩
end
end
end Hb

set_option linter.all false
set_option autoImplicit false
set_option maxRecDepth 10000
set_option maxHeartbeats 4000000
/-! Hq: a call of a work in the program is `play`. -/
namespace Hb
open PySem L2 Sh Mi Tw
theorem lRep_nat {f : Sl → M → R (List D)} {g : Sl → M → R D} {τ : Sl} {m m1 m2 : M} {x : D} {k : Nat} (hf : f τ m = .ok [x] m1) (hg : g τ m1 = .ok (.int k) m2) (hk : k < 1000000) : lRep f g τ m = .ok (List.replicate k x) m2 := by
  have hd : decide (-(2 ^ 63) ≤ (k : Int) ∧ (k : Int) < 2 ^ 63 ∧ [x].length * (k : Int).toNat ≤ 16777216) = true := by
    rw [decide_eq_true_iff, List.length_singleton, Int.toNat_natCast]; omega
  rw [lRep_eq, hf, bind_ok, hg, bind_ok]
  split
  · rename_i n' e
    cases e
    rw [if_pos hd, Int.toNat_natCast]; simp
  · rename_i hx
    exact absurd rfl (hx _)
theorem walk_init {m : M} {a b c : D} : m_Walk___init__ [.obj m.length, a, b, c] (m ++ [.ins 1 [none, none, none]]) = .ok .non (m ++ [.ins 1 [some a, some b, some c]]) := by
  simp [m_Walk___init__, mkF, b_Walk___init__, get_new, set_new]
theorem slots_good {P : Prog} {ds : List Deed} {w : Nat} {W : Work} {ns : List Int} {t : Tk} (ok : W.ok P.ps w) (hk : W.params = ns.length) (hn : ∀ v ∈ ns, Num v) (ht : t.told.length < ds.length) : Good ds W.slots (ns ++ List.replicate (W.slots - W.params) 0) t :=
  ⟨by have := ok.psl; simp; omega, fun v hv => by
    rcases List.mem_append.mp hv with z | z
    · exact hn v z
    · rw [List.mem_replicate] at z; rw [z.2]; exact num0, ht⟩
/-- one call, by what is known of those within it -/
theorem call_ok {P : Prog} {ds : List Deed} {h F : Nat} (hd : ∀ d ∈ ds, d.ok) (hdl : ds.length < 1000000) (hP : P.ok) {w : Nat} (hc : CalOk ds P.ps w (cost P h) (play P ds h)) (hr : CalR P ds w (cost P h) (play P ds h) F)
    {ns : List Int} {t : Tk} {f : Nat} {m : M} {ai dd ti qi pi : Nat} {N : D} (hp : P.ps[w]? = some ns.length) (hn : ∀ v ∈ ns, Num v) (ht : t.told.length < ds.length) (hw : t.words.length + cost P (h + 1) w < 16777216) (hf : 30 + F ≤ f) (ha : Ast ds m ai dd ti qi t) (hm : m[pi]? = some (.lst (P.map Work.enc))) (n1 : pi ≠ ti) (n2 : pi ≠ qi)
    (hN : itemsOf m N = some (ns.map .int)) : ∃ m' q', m_wk f 0 [.obj pi, .int w, N, .obj ai] m = wayR (play P ds (h + 1) w ns t).1 m' ∧ Ast ds m' ai dd ti q' (play P ds (h + 1) w ns t).2 ∧ Fr [ai, ti, qi] m m' ∧ (q' = qi ∨ m.length ≤ q') := by
  obtain ⟨W, e, hk⟩ := ps_get hp
  have ok := hP.at_ w W e
  obtain ⟨f, rfl⟩ : ∃ j, f = j + 1 := ⟨f - 1, by omega⟩
  have g := slots_good ok hk hn ht
  have hcost : cost P (h + 1) w = W.body.cost (cost P h) := by rw [cost, e]
  rw [hcost] at hw
  have hk1 : (W.slots : Int) - (W.params : Int) = ((W.slots - W.params : Nat) : Int) := by have := ok.psl; omega
  have s4 := ok.s4
  have p2 := ok.p2
  have la := get_lt ha.ins
  have ld := get_lt ha.hd
  have lt := get_lt ha.ht
  have lq := get_lt ha.hq
  have lp := get_lt hm
  obtain ⟨m1, hm1⟩ : ∃ m1, m1 = m ++ [O.lst ((ns ++ List.replicate (W.slots - W.params) 0).map .int), .ins 1 [some (.obj pi), some (.obj m.length), some (.obj ai)]] := ⟨_, rfl⟩
  have f1 : Fr [] m m1 := by rw [hm1]; exact Fr.refl.add _
  have p : Pst P ds m1 (m.length + 1) ai m.length dd ti qi pi (ns ++ List.replicate (W.slots - W.params) 0) t :=
    ⟨ha.fr f1 (by simp) (by simp) (by simp) (by simp), by simp [hm1], by simp [hm1], f1.keeps (by simp) hm, by omega, by omega, by omega, by omega, n1, n2⟩
  have hbd := OutL.bd (b := W.body) (B := 28 + F) (k := f) (by omega) fun f' hf' => Bd.progL hd hdl (fun w k hk => by
    obtain ⟨W', e', z⟩ := ps_get hk
    have := (hP.at_ w W' e').p2
    omega) hc hr W.body f' m1 qi _ t (some (.tup W.body.encs)) none none ok.body g hw (by have := ok.dep; omega) p
  obtain ⟨m', q', e1, a1, f2, h2⟩ := hbd
  have hw1 := p.walk
  have inv := (Bd.inv hd hc W.body _ t ok.body g).2
  have up : Fr [ai, ti, qi] m m' := (f1.sub (S' := [ai, ti, qi]) (by simp)).up f2 fun k hk hl => by
    simp at hk ⊢
    rcases hk with rfl | hk
    · omega
    · exact hk
  have hwk : W.enc = .tup [.int W.params, .int W.slots, .tup W.body.encs] := rfl
  have hix : L2.atI (P.map Work.enc) (w : Int) = some W.enc := atI_nat (by simp [e])
  have hR : ∀ x7 x8, lRep (lLst (lCons (eC (.int 0)) lNil)) (eOp gSub (eVar 5) (eVar 4)) [some (.obj pi), some (.int w), some N, some (.obj ai), some (.int W.params), some (.int W.slots), some (.tup W.body.encs), x7, x8] m = .ok (List.replicate (W.slots - W.params) (.int 0)) m := fun x7 x8 => lRep_nat (m1 := m) (by simp) (by simp [hk1]) (by omega)
  have hk4 : ns.length + (W.slots - W.params) ≤ 16777216 := by have := ok.psl; omega
  have hi := walk_init (m := m ++ [O.lst (List.map D.int ns ++ List.replicate (W.slots - W.params) (.int 0))]) (a := .obj pi) (b := .obj m.length) (c := .obj ai)
  simp at hi
  have hm1' : m ++ [O.lst (List.map D.int ns ++ List.replicate (W.slots - W.params) (.int 0)), O.ins 1 [some (.obj pi), some (.obj m.length), some (.obj ai)]] = m1 := by simp [hm1]
  rw [hm1'] at hi
  have w0 : m_wk (f + 1) 0 = mkF 4 9 (b_walked (m_wk f)) := rfl
  unfold play
  rw [e]
  dsimp only
  rcases er : W.body.run ds (play P ds h) (ns ++ List.replicate (W.slots - W.params) 0) t with ⟨y, vs', t'⟩
  rw [er] at e1 a1 inv
  have q2 : q' = qi ∨ m.length ≤ q' := h2.imp id fun z => by have := f1.1; omega
  cases y with
  | go => simp at e1; exact ⟨m', q', by simp [w0, mkF, b_walked, hm, hix, hwk, hN, -lRep_eq, hR, hk4, hi, hw1, e1], a1.ast, up, q2⟩
  | leave => cases inv rfl
  | fault j => simp at e1; exact ⟨m', q', by simp [w0, mkF, b_walked, hm, hix, hwk, hN, -lRep_eq, hR, hk4, hi, hw1, e1], a1.ast, up, q2⟩
  | fin j => simp at e1; exact ⟨m', q', by simp [w0, mkF, b_walked, hm, hix, hwk, hN, -lRep_eq, hR, hk4, hi, hw1, e1], a1.ast, up, q2⟩
  | shut => simp at e1; exact ⟨m', q', by simp [w0, mkF, b_walked, hm, hix, hwk, hN, -lRep_eq, hR, hk4, hi, hw1, e1], a1.ast, up, q2⟩
  | stop => simp at e1; exact ⟨m', q', by simp [w0, mkF, b_walked, hm, hix, hwk, hN, -lRep_eq, hR, hk4, hi, hw1, e1], a1.ast, up, q2⟩
theorem play_R {P : Prog} {ds : List Deed} (hd : ∀ d ∈ ds, d.ok) (hdl : ds.length < 1000000) (hP : P.ok) : ∀ (h i : Nat), P.length ≤ h + i + 1 → CalR P ds i (cost P h) (play P ds h) (30 * h)
  | 0, i, hl => fun w ns t f m ai dd ti qi pi N hw hp hn ht _ _ _ _ _ _ _ => by
    obtain ⟨W, e, _⟩ := ps_get hp
    have := (List.getElem?_eq_some_iff.mp e).1
    omega
  | h + 1, i, hl => fun w ns t f m ai dd ti qi pi N hw hp hn ht hc hf ha hm n1 n2 hN =>
    call_ok hd hdl hP (play_ok hd hP h w (by omega)) (play_R hd hdl hP h w (by omega)) hp hn ht hc (by omega) ha hm n1 n2 hN
/-- a call from outside -/
theorem walked_ok {P : Prog} {ds : List Deed} (hd : ∀ d ∈ ds, d.ok) (hdl : ds.length < 1000000) (hP : P.ok) {w : Nat} {ns : List Int} {t : Tk} {m : M} {ai dd ti qi pi : Nat} {N : D} (hp : P.ps[w]? = some ns.length) (hn : ∀ v ∈ ns, Num v) (ht : t.told.length < ds.length) (hw : t.words.length + cost P 4 w < 16777216) (ha : Ast ds m ai dd ti qi t) (hm : m[pi]? = some (.lst (P.map Work.enc))) (n1 : pi ≠ ti) (n2 : pi ≠ qi)
    (hN : itemsOf m N = some (ns.map .int)) : ∃ m' q', m_wk 140 0 [.obj pi, .int w, N, .obj ai] m = wayR (play P ds 4 w ns t).1 m' ∧ Ast ds m' ai dd ti q' (play P ds 4 w ns t).2 ∧ Fr [ai, ti, qi] m m' ∧ (q' = qi ∨ m.length ≤ q') := by
  have := hP.l4
  exact call_ok hd hdl hP (play_ok hd hP 3 w (by omega)) (play_R hd hdl hP 3 w (by omega)) hp hn ht hw (by omega) ha hm n1 n2 hN
/-- .. and what it keeps to -/
theorem walked_inv {P : Prog} {ds : List Deed} (hd : ∀ d ∈ ds, d.ok) (hP : P.ok) {w : Nat} {ns : List Int} {t : Tk} (hp : P.ps[w]? = some ns.length) (hn : ∀ v ∈ ns, Num v) (ht : t.told.length < ds.length) :
    ((play P ds 4 w ns t).1 ≠ .stop → (play P ds 4 w ns t).2.told.length < ds.length) ∧ (play P ds 4 w ns t).2.told.length ≤ ds.length ∧ (play P ds 4 w ns t).1.ok ∧ (play P ds 4 w ns t).1 ≠ .go ∧ (play P ds 4 w ns t).1 ≠ .leave := by
  have := hP.l4
  cases w with
  | succ w =>
    have := play_ok hd hP 4 w (by omega) (w + 1) ns t (by omega) hp hn ht
    exact ⟨this.1, this.2.1, this.2.2.2.1, this.2.2.2.2⟩
  | zero =>
    obtain ⟨W, e, hk⟩ := ps_get hp
    have ok := hP.at_ 0 W e
    obtain ⟨p, q⟩ := Bd.inv hd (play_ok hd hP 3 0 (by omega)) W.body _ t ok.body (slots_good ok hk hn ht)
    unfold play
    rw [e]
    dsimp only
    rcases e2 : W.body.run ds (play P ds 3) (ns ++ List.replicate (W.slots - W.params) 0) t with ⟨y, vs', t'⟩
    rw [e2] at p q
    cases y with
    | go => exact ⟨fun _ => p.told fun z => (by cases z), p.told', num0, fun z => (by cases z), fun z => by cases z⟩
    | leave => cases q rfl
    | fault j => exact ⟨fun _ => p.told fun z => (by cases z), p.told', p.way, fun z => (by cases z), fun z => by cases z⟩
    | fin j => exact ⟨fun _ => p.told fun z => (by cases z), p.told', p.way, fun z => (by cases z), fun z => by cases z⟩
    | shut => exact ⟨fun _ => p.told fun z => (by cases z), p.told', p.way, fun z => (by cases z), fun z => by cases z⟩
    | stop => exact ⟨fun z => absurd rfl z, p.told', True.intro, fun z => (by cases z), fun z => by cases z⟩
end Hb

set_option linter.all false
set_option autoImplicit false
set_option maxRecDepth 10000
set_option maxHeartbeats 4000000
/-! Hl: the program's look lets a sound program be. -/
namespace Hb
open PySem L2 Sh Mi Tw
theorem is_whole_ok {i lo hi : Int} {m : M} (h1 : lo ≤ i) (h2 : i ≤ hi) : m_is_whole [.int i, .int lo, .int hi] m = .ok (.bl true) m := by
  simp [m_is_whole, mkF, b_is_whole, h1, h2]
theorem need_ok {x : D} {m : M} : m_Look_need [x, .bl true] m = .ok .non m := by
  simp [m_Look_need, mkF, b_Look_need]
structure Lk (P : Prog) (m : M) (li pi i n : Nat) (k : Nat) : Prop where
  ins : m[li]? = some (.ins 2 [some (.obj pi), some (.int i), some (.int n), some (.int k)])
  pr : m[pi]? = some (.lst (P.map Work.enc))
section
variable {P : Prog} {m : M} {li pi i n k : Nat}
theorem Lk.ne (h : Lk P m li pi i n k) : li ≠ pi := ne_il h.ins h.pr
theorem lr_ok (h : Lk P m li pi i n k) : ∀ (d : Nat) (e : Rk) (f : Nat) (a : Nat), e.ok n d → a + d ≤ 3 → d < f → m_lr f 0 [.obj li, e.enc, .int a] m = .ok .non m
  | d, .num j, f, a, he, ha, hf => by
    obtain ⟨f, rfl⟩ : ∃ g, f = g + 1 := ⟨f - 1, by omega⟩
    have hj : Num j := by cases d <;> exact he
    have hl := h.ins
    have h3 : (a : Int) ≤ 3 := by omega
    simp [m_lr, mkF, b_Look_reckoning, hl, h3, need_ok, Rk.enc, is_whole_ok hj.1 hj.2]
  | d, .slot j, f, a, he, ha, hf => by
    obtain ⟨f, rfl⟩ : ∃ g, f = g + 1 := ⟨f - 1, by omega⟩
    have hj : j < n := by cases d <;> exact he
    have hl := h.ins
    have h3 : (a : Int) ≤ 3 := by omega
    have hw : m_is_whole [.int (j : Int), .int 0, .int ((n : Int) - 1)] m = .ok (.bl true) m := is_whole_ok (by omega) (by omega)
    simp [m_lr, mkF, b_Look_reckoning, hl, h3, need_ok, Rk.enc, hw]
  | 0, .op w x y, f, a, he, ha, hf => he.elim
  | d + 1, .op w x y, f, a, he, ha, hf => by
    obtain ⟨f, rfl⟩ : ∃ g, f = g + 1 := ⟨f - 1, by omega⟩
    have e1 := lr_ok h d x f (a + 1) he.1 (by omega) (by omega)
    have e2 := lr_ok h d y f (a + 1) he.2 (by omega) (by omega)
    simp only [Int.natCast_add, Int.natCast_one] at e1 e2
    have hl := h.ins
    have h3 : (a : Int) ≤ 3 := by omega
    cases w <;> simp [m_lr, mkF, b_Look_reckoning, hl, h3, need_ok, Rk.enc, Op.wd, e1, e2]
theorem lr0 (h : Lk P m li pi i n k) {e : Rk} (he : e.ok n 3) : m_lr 6 0 [.obj li, e.enc, .int 0] m = .ok .non m := lr_ok h 3 e 6 0 he (by omega) (by omega)
theorem kept_ok (h : Lk P m li pi i n k) {o : Option Nat} (hk : kOk n o) : m_Look_kept [.obj li, kD o] m = .ok .non m := by
  have hl := h.ins
  cases o with
  | none => simp [m_Look_kept, mkF, b_Look_kept, hl, need_ok]
  | some j =>
    have hj := hk j rfl
    have hw : m_is_whole [.int (j : Int), .int 0, .int ((n : Int) - 1)] m = .ok (.bl true) m := is_whole_ok (by omega) (by omega)
    simp [m_Look_kept, mkF, b_Look_kept, hl, need_ok, hw]
theorem handL (h : Lk P m li pi i n k) {A1 A2 : Option D} : ∀ (es : List Rk) (x3 : Option D), (∀ e ∈ es, e.ok n 3) → ∃ y3, loop (gN 3) lb_Look_handing_0 (es.map Rk.enc) [some (.obj li), A1, A2, x3] m = .nx [some (.obj li), A1, A2, y3] m
  | [], x3, _ => ⟨x3, rfl⟩
  | e :: es, x3, he => by
    have hl := h.ins
    have e1 := lr0 h (he e List.mem_cons_self)
    obtain ⟨y3, e2⟩ := handL h (A1 := A1) (A2 := A2) es (some e.enc) fun x hx => he x (List.mem_cons_of_mem _ hx)
    refine ⟨y3, ?_⟩
    rw [← e2]
    simp [loop, lb_Look_handing_0, hl, e1]
theorem handing_ok (h : Lk P m li pi i n k) {w : Nat} {es : List Rk} (hw : i < w) (hp : P.ps[w]? = some es.length) (he : ∀ e ∈ es, e.ok n 3) : m_Look_handing [.obj li, .int w, .tup (es.map Rk.enc)] m = .ok .non m := by
  have hl := h.ins
  have hm := h.pr
  obtain ⟨W, e, hk⟩ := ps_get hp
  have lw := (List.getElem?_eq_some_iff.mp e).1
  have h1 : m_is_whole [.int (w : Int), .int ((i : Int) + 1), .int ((P.length : Int) - 1)] m = .ok (.bl true) m := is_whole_ok (by omega) (by omega)
  have hix : L2.atI (P.map Work.enc) (w : Int) = some W.enc := atI_nat (by simp [e])
  have hwk : W.enc = .tup [.int W.params, .int W.slots, .tup W.body.encs] := rfl
  obtain ⟨y3, e3⟩ := handL h (A1 := some (.int w)) (A2 := some (.tup (es.map Rk.enc))) es none he
  simp [m_Look_handing, mkF, b_Look_handing, hl, hm, h1, need_ok, hix, hwk, hk, e3]
theorem Lk.fr (h : Lk P m li pi i n k) {m' : M} {k' : Nat} (hi : m'[li]? = some (.ins 2 [some (.obj pi), some (.int i), some (.int n), some (.int k')])) (f : Fr [li] m m') : Lk P m' li pi i n k' :=
  ⟨hi, f.keeps (by simp; exact Ne.symm h.ne) h.pr⟩
end
section
variable {P : Prog} {li pi i n : Nat}
def LkO (P : Prog) (m : M) (li pi i n k : Nat) (r : R D) : Prop := ∃ m', r = .ok .non m' ∧ Lk P m' li pi i n k ∧ Fr [li] m m'
def LkL (P : Prog) (m : M) (li pi i n k : Nat) (s : S) : Prop := ∃ m' τ, s = .nx τ m' ∧ Lk P m' li pi i n k ∧ Fr [li] m m'
theorem Lk.inc {m : M} {k : Nat} (h : Lk P m li pi i n k) : ∃ m', m' = m.set li (.ins 2 [some (.obj pi), some (.int i), some (.int n), some (.int ((k : Int) + 1))]) ∧ Lk P m' li pi i n (k + 1) ∧ Fr [li] m m' := by
  have f : Fr [li] m (m.set li (.ins 2 [some (.obj pi), some (.int i), some (.int n), some (.int ((k : Int) + 1))])) := Fr.refl.set _ fun _ => by simp
  exact ⟨_, rfl, h.fr (by simpa using get_set h.ins) f, f⟩
theorem lk0 {f : Nat} : m_lk (f + 1) 0 = mkF 4 5 (b_Look_body (m_lk f)) := rfl
theorem lk1 {f : Nat} : m_lk (f + 1) 1 = mkF 4 13 (b_Look_step (m_lk f)) := rfl
theorem lk2 {f : Nat} : m_lk (f + 1) 2 = mkF 4 6 (b_Look_caught (m_lk f)) := rfl
theorem lbody {m : M} {f k k' a : Nat} {b : Bd} {r : Bool} (h : Lk P m li pi i n k) (hL : LkL P m li pi i n k' (loop (gN 4) (lb_Look_body_0 (m_lk f)) b.encs [some (.obj li), some (.tup b.encs), some (.int a), some (.bl r), none] m)) : LkO P m li pi i n k' (m_lk (f + 1) 0 [.obj li, .tup b.encs, .int a, .bl r] m) := by
  obtain ⟨m', τ, e, l, fr⟩ := hL
  have hl := h.ins
  exact ⟨m', by simp [lk0, mkF, b_Look_body, hl, need_ok, e], l, fr⟩
mutual
theorem Stp.look : ∀ (s : Stp) {m : M} {r : Bool} {k a f : Nat}, Lk P m li pi i n k → s.ok P.ps i n r → k + s.cnt ≤ 40 → a + s.dep ≤ 7 → 3 * s.dep ≤ f → LkO P m li pi i n (k + s.cnt) (m_lk f 1 [.obj li, s.enc, .int a, .bl r] m)
  | .set j e, m, r, k, a, f, h, hs, hk, ha, hf => by
    obtain ⟨f, rfl⟩ : ∃ g, f = g + 1 := ⟨f - 1, by simp only [Stp.dep] at hf; omega⟩
    obtain ⟨m', hm', h', fr⟩ := h.inc
    simp only [Stp.cnt] at hk ⊢
    simp only [Stp.dep] at ha
    have h1 := kept_ok h' (o := some j) fun x hx => by cases hx; exact hs.1
    have h2 := lr0 h' hs.2
    have hl := h.ins
    have hl' := h'.ins
    have c1 : (k : Int) + 1 ≤ 40 := by omega
    have c2 : (a : Int) ≤ 6 := by omega
    simp only [Int.natCast_add, Int.natCast_one] at hl'
    rw [kD_some] at h1
    exact ⟨m', by simp [lk1, mkF, b_Look_step, Stp.enc, hl, ← hm', hl', c1, c2, need_ok, h1, h2], h', fr⟩
  | .say e, m, r, k, a, f, h, hs, hk, ha, hf => by
    obtain ⟨f, rfl⟩ : ∃ g, f = g + 1 := ⟨f - 1, by simp only [Stp.dep] at hf; omega⟩
    obtain ⟨m', hm', h', fr⟩ := h.inc
    simp only [Stp.cnt] at hk ⊢
    simp only [Stp.dep] at ha
    have h2 := lr0 h' hs
    have hl := h.ins
    have hl' := h'.ins
    have c1 : (k : Int) + 1 ≤ 40 := by omega
    have c2 : (a : Int) ≤ 6 := by omega
    simp only [Int.natCast_add, Int.natCast_one] at hl'
    exact ⟨m', by simp [lk1, mkF, b_Look_step, Stp.enc, hl, ← hm', hl', c1, c2, need_ok, h2], h', fr⟩
  | .give e o, m, r, k, a, f, h, hs, hk, ha, hf => by
    obtain ⟨f, rfl⟩ : ∃ g, f = g + 1 := ⟨f - 1, by simp only [Stp.dep] at hf; omega⟩
    obtain ⟨m', hm', h', fr⟩ := h.inc
    simp only [Stp.cnt] at hk ⊢
    simp only [Stp.dep] at ha
    have h1 := kept_ok h' hs.2
    have h2 := lr0 h' hs.1
    have hl := h.ins
    have hl' := h'.ins
    have c1 : (k : Int) + 1 ≤ 40 := by omega
    have c2 : (a : Int) ≤ 6 := by omega
    simp only [Int.natCast_add, Int.natCast_one] at hl'
    exact ⟨m', by simp [lk1, mkF, b_Look_step, Stp.enc, hl, ← hm', hl', c1, c2, need_ok, h1, h2], h', fr⟩
  | .hand w es o, m, r, k, a, f, h, hs, hk, ha, hf => by
    obtain ⟨f, rfl⟩ : ∃ g, f = g + 1 := ⟨f - 1, by simp only [Stp.dep] at hf; omega⟩
    obtain ⟨m', hm', h', fr⟩ := h.inc
    simp only [Stp.cnt] at hk ⊢
    simp only [Stp.dep] at ha
    have h1 := kept_ok h' hs.2.2.2
    have h2 := handing_ok h' hs.1 hs.2.1 hs.2.2.1
    have hl := h.ins
    have hl' := h'.ins
    have c1 : (k : Int) + 1 ≤ 40 := by omega
    have c2 : (a : Int) ≤ 6 := by omega
    simp only [Int.natCast_add, Int.natCast_one] at hl'
    exact ⟨m', by simp [lk1, mkF, b_Look_step, Stp.enc, hl, ← hm', hl', c1, c2, need_ok, h1, h2], h', fr⟩
  | .ife e x y, m, r, k, a, f, h, hs, hk, ha, hf => by
    obtain ⟨m', hm', h', fr⟩ := h.inc
    simp only [Stp.cnt] at hk ⊢
    simp only [Stp.dep] at ha hf
    obtain ⟨f, rfl⟩ : ∃ g, f = g + 2 := ⟨f - 2, by omega⟩
    have h2 := lr0 h' hs.1
    have hl := h.ins
    have hl' := h'.ins
    have c1 : (k : Int) + 1 ≤ 40 := by omega
    have c2 : (a : Int) ≤ 6 := by omega
    simp only [Int.natCast_add, Int.natCast_one] at hl'
    obtain ⟨m1, e1, l1, f1⟩ := lbody (a := a + 1) (r := r) h' (Bd.lookL x (f := f) (a := a + 1) (A := some (.tup x.encs)) (x4 := none) h' hs.2.1 (by omega) (by omega) (by omega))
    obtain ⟨m2, e2, l2, f2⟩ := lbody (a := a + 1) (r := r) l1 (Bd.lookL y (f := f) (a := a + 1) (A := some (.tup y.encs)) (x4 := none) l1 hs.2.2 (by omega) (by omega) (by omega))
    simp only [Int.natCast_add, Int.natCast_one] at e1 e2
    have hl1 := l1.ins
    have hk' : k + 1 + x.cnt + y.cnt = k + (1 + x.cnt + y.cnt) := by omega
    rw [hk'] at l2
    exact ⟨m2, by simp [lk1, mkF, b_Look_step, Stp.enc, hl, ← hm', hl', c1, c2, need_ok, h2, e1, e2, hl1], l2, fr.trans (f1.trans f2)⟩
  | .round e x, m, r, k, a, f, h, hs, hk, ha, hf => by
    obtain ⟨m', hm', h', fr⟩ := h.inc
    simp only [Stp.cnt] at hk ⊢
    simp only [Stp.dep] at ha hf
    obtain ⟨f, rfl⟩ : ∃ g, f = g + 2 := ⟨f - 2, by omega⟩
    have h2 := lr0 h' hs.1
    have hl := h.ins
    have hl' := h'.ins
    have c1 : (k : Int) + 1 ≤ 40 := by omega
    have c2 : (a : Int) ≤ 6 := by omega
    simp only [Int.natCast_add, Int.natCast_one] at hl'
    obtain ⟨m1, e1, l1, f1⟩ := lbody (a := a + 1) (r := true) h' (Bd.lookL x (f := f) (a := a + 1) (A := some (.tup x.encs)) (x4 := none) h' hs.2 (by omega) (by omega) (by omega))
    simp only [Int.natCast_add, Int.natCast_one] at e1
    have hk' : k + 1 + x.cnt = k + (1 + x.cnt) := by omega
    rw [hk'] at l1
    exact ⟨m1, by simp [lk1, mkF, b_Look_step, Stp.enc, hl, ← hm', hl', c1, c2, need_ok, h2, e1], l1, fr.trans f1⟩
  | .leave, m, r, k, a, f, h, hs, hk, ha, hf => by
    obtain ⟨f, rfl⟩ : ∃ g, f = g + 1 := ⟨f - 1, by simp only [Stp.dep] at hf; omega⟩
    obtain ⟨m', hm', h', fr⟩ := h.inc
    simp only [Stp.cnt] at hk ⊢
    simp only [Stp.dep] at ha
    have hr : r = true := hs
    subst hr
    have hl := h.ins
    have hl' := h'.ins
    have c1 : (k : Int) + 1 ≤ 40 := by omega
    have c2 : (a : Int) ≤ 6 := by omega
    simp only [Int.natCast_add, Int.natCast_one] at hl'
    exact ⟨m', by simp [lk1, mkF, b_Look_step, Stp.enc, hl, ← hm', hl', c1, c2, need_ok], h', fr⟩
  | .fault e, m, r, k, a, f, h, hs, hk, ha, hf => by
    obtain ⟨f, rfl⟩ : ∃ g, f = g + 1 := ⟨f - 1, by simp only [Stp.dep] at hf; omega⟩
    obtain ⟨m', hm', h', fr⟩ := h.inc
    simp only [Stp.cnt] at hk ⊢
    simp only [Stp.dep] at ha
    have h2 := lr0 h' hs
    have hl := h.ins
    have hl' := h'.ins
    have c1 : (k : Int) + 1 ≤ 40 := by omega
    have c2 : (a : Int) ≤ 6 := by omega
    simp only [Int.natCast_add, Int.natCast_one] at hl'
    exact ⟨m', by simp [lk1, mkF, b_Look_step, Stp.enc, hl, ← hm', hl', c1, c2, need_ok, h2], h', fr⟩
  | .fin e, m, r, k, a, f, h, hs, hk, ha, hf => by
    obtain ⟨f, rfl⟩ : ∃ g, f = g + 1 := ⟨f - 1, by simp only [Stp.dep] at hf; omega⟩
    obtain ⟨m', hm', h', fr⟩ := h.inc
    simp only [Stp.cnt] at hk ⊢
    simp only [Stp.dep] at ha
    have h2 := lr0 h' hs
    have hl := h.ins
    have hl' := h'.ins
    have c1 : (k : Int) + 1 ≤ 40 := by omega
    have c2 : (a : Int) ≤ 6 := by omega
    simp only [Int.natCast_add, Int.natCast_one] at hl'
    exact ⟨m', by simp [lk1, mkF, b_Look_step, Stp.enc, hl, ← hm', hl', c1, c2, need_ok, h2], h', fr⟩
  | .tri x c y, m, r, k, a, f, h, hs, hk, ha, hf => by
    obtain ⟨m', hm', h', fr⟩ := h.inc
    simp only [Stp.cnt] at hk ⊢
    simp only [Stp.dep] at ha hf
    obtain ⟨f, rfl⟩ : ∃ g, f = g + 2 := ⟨f - 2, by omega⟩
    have hl := h.ins
    have hl' := h'.ins
    have c1 : (k : Int) + 1 ≤ 40 := by omega
    have c2 : (a : Int) ≤ 6 := by omega
    simp only [Int.natCast_add, Int.natCast_one] at hl'
    obtain ⟨m1, e1, l1, f1⟩ := lbody (a := a + 1) (r := r) h' (Bd.lookL x (f := f) (a := a + 1) (A := some (.tup x.encs)) (x4 := none) h' hs.1 (by omega) (by omega) (by omega))
    obtain ⟨m2, e2, l2, f2⟩ := Ct.look c (f := f + 1) (a := a + 1) l1 hs.2.1 (by omega) (by omega) (by omega)
    obtain ⟨m3, e3, l3, f3⟩ := lbody (a := a + 1) (r := r) l2 (Bd.lookL y (f := f) (a := a + 1) (A := some (.tup y.encs)) (x4 := none) l2 hs.2.2 (by omega) (by omega) (by omega))
    simp only [Int.natCast_add, Int.natCast_one] at e1 e2 e3
    have hl1 := l1.ins
    have hl2 := l2.ins
    have hk' : k + 1 + x.cnt + c.cnt + y.cnt = k + (1 + x.cnt + c.cnt + y.cnt) := by omega
    rw [hk'] at l3
    exact ⟨m3, by simp [lk1, mkF, b_Look_step, Stp.enc, hl, ← hm', hl', c1, c2, need_ok, e1, e2, e3, hl1, hl2], l3, fr.trans (f1.trans (f2.trans f3))⟩
theorem Bd.lookL : ∀ (b : Bd) {m : M} {r : Bool} {k a f : Nat} {A x4 : Option D}, Lk P m li pi i n k → b.ok P.ps i n r → k + b.cnt ≤ 40 → a + b.dep ≤ 7 → 3 * b.dep ≤ f → LkL P m li pi i n (k + b.cnt) (loop (gN 4) (lb_Look_body_0 (m_lk f)) b.encs [some (.obj li), A, some (.int a), some (.bl r), x4] m)
  | .nil, m, r, k, a, f, A, x4, h, hs, hk, ha, hf => ⟨m, _, rfl, h, .refl⟩
  | .cons s b, m, r, k, a, f, A, x4, h, hs, hk, ha, hf => by
    simp only [Bd.cnt] at hk ⊢
    simp only [Bd.dep] at ha hf
    have hl := h.ins
    obtain ⟨m1, e1, l1, f1⟩ := Stp.look s (a := a) (f := f) h hs.1 (by omega) (by omega) (by omega)
    obtain ⟨m2, τ, e2, l2, f2⟩ := Bd.lookL b (a := a) (f := f) (A := A) (x4 := some s.enc) l1 hs.2 (by omega) (by omega) (by omega)
    have hk' : k + s.cnt + b.cnt = k + (s.cnt + b.cnt) := by omega
    rw [hk'] at l2
    refine ⟨m2, τ, ?_, l2, f1.trans f2⟩
    rw [← e2]
    simp [Bd.encs, loop, lb_Look_body_0, hl, e1]
theorem Ct.look : ∀ (c : Ct) {m : M} {r : Bool} {k a f : Nat}, Lk P m li pi i n k → c.ok P.ps i n r → k + c.cnt ≤ 40 → a + c.dep ≤ 7 → 3 * c.dep + 2 ≤ f → LkO P m li pi i n (k + c.cnt) (m_lk f 2 [.obj li, c.enc, .int a, .bl r] m)
  | .no, m, r, k, a, f, h, hs, hk, ha, hf => by
    obtain ⟨f, rfl⟩ : ∃ g, f = g + 1 := ⟨f - 1, by omega⟩
    exact ⟨m, by simp [lk2, mkF, b_Look_caught, Ct.enc], h, .refl⟩
  | .yes o b, m, r, k, a, f, h, hs, hk, ha, hf => by
    simp only [Ct.cnt] at hk ⊢
    simp only [Ct.dep] at ha hf
    obtain ⟨f, rfl⟩ : ∃ g, f = g + 2 := ⟨f - 2, by omega⟩
    have hl := h.ins
    have h1 := kept_ok h hs.1
    obtain ⟨m1, e1, l1, f1⟩ := lbody (a := a) (r := r) h (Bd.lookL b (f := f) (a := a) (A := some (.tup b.encs)) (x4 := none) h hs.2 (by omega) (by omega) (by omega))
    exact ⟨m1, by simp [lk2, mkF, b_Look_caught, Ct.enc, hl, h1, e1], l1, f1⟩
end
end
theorem look_init {P : Prog} {m : M} {pi i : Nat} {W : Work} (hm : m[pi]? = some (.lst (P.map Work.enc))) (e : P[i]? = some W) : m_Look___init__ [.obj m.length, .obj pi, .int i] (m ++ [.ins 2 [none, none, none, none]]) = .ok .non (m ++ [.ins 2 [some (.obj pi), some (.int i), some (.int W.slots), some (.int 0)]]) := by
  have h1 : ∀ o : O, (m ++ [o])[pi]? = some (.lst (P.map Work.enc)) := fun o => get_add hm
  have hix : L2.atI (P.map Work.enc) (i : Int) = some W.enc := atI_nat (by simp [e])
  have hwk : W.enc = .tup [.int W.params, .int W.slots, .tup W.body.encs] := rfl
  simp [m_Look___init__, mkF, b_Look___init__, get_new, set_new, h1, hix, hwk]
theorem work_look {P : Prog} (hP : P.ok) {m : M} {pi i : Nat} {W : Work} {τ : Sl} (hm : m[pi]? = some (.lst (P.map Work.enc))) (e : P[i]? = some W) (h0 : τ[0]? = some (some (.obj pi))) (h1 : τ[1]? = some (some (.int i))) : ∃ m', lb_need_program_0 τ m = .nx τ m' ∧ Fr [] m m' := by
  have ok := hP.at_ i W e
  have hi := look_init hm e
  obtain ⟨m1, hm1⟩ : ∃ m1, m1 = m ++ [O.ins 2 [some (.obj pi), some (.int (i : Int)), some (.int (W.slots : Int)), some (.int 0)]] := ⟨_, rfl⟩
  rw [← hm1] at hi
  have l : Lk P m1 m.length pi i W.slots 0 := ⟨by simp [hm1], by rw [hm1]; exact get_add hm⟩
  obtain ⟨m2, e2, l2, f2⟩ := lbody (a := 0) (r := false) l (Bd.lookL W.body (f := 29) (a := 0) (A := some (.tup W.body.encs)) (x4 := none) l ok.body (by have := ok.cnt; omega) (by have := ok.dep; omega) (by have := ok.dep; omega))
  simp only [Int.natCast_zero] at e2
  have hl := l.ins
  have hp := l.pr
  have hix : L2.atI (P.map Work.enc) (i : Int) = some W.enc := atI_nat (by simp [e])
  have hwk : W.enc = .tup [.int W.params, .int W.slots, .tup W.body.encs] := rfl
  have s1 := ok.s1
  have s4 := ok.s4
  have p2 := ok.p2
  have ps := ok.psl
  have hw1 : m_is_whole [.int (W.slots : Int), .int 1, .int 4] m1 = .ok (.bl true) m1 := is_whole_ok (by omega) (by omega)
  have hw2 : m_is_whole [.int (W.params : Int), .int 0, .int (if (W.slots : Int) < 2 then (W.slots : Int) else 2)] m1 = .ok (.bl true) m1 := is_whole_ok (by omega) (by split <;> omega)
  refine ⟨m2, ?_, by have := f2.1; simp [hm1] at this; omega, fun j hj _ => by rw [f2.2 j (by simp [hm1]; omega) (by simp; omega), hm1, List.getElem?_append_left hj]⟩
  simp [lb_need_program_0, h0, h1, hi, m_Look_whole_work, mkF, b_Look_whole_work, hl, hp, hix, hwk, need_ok, hw1, hw2, e2]
theorem range_succ {i : Int} {n : Nat} : rangeFrom i (n + 1) = .int i :: rangeFrom (i + 1) n := by
  unfold rangeFrom
  rw [List.range_succ_eq_map]
  simp
  intro a _
  omega
theorem need_programL {P : Prog} (hP : P.ok) {pi : Nat} : ∀ (k j : Nat) (m : M) (x1 : Option D), m[pi]? = some (.lst (P.map Work.enc)) → j + k ≤ P.length → ∃ m' y1, loop (gN 1) lb_need_program_0 (rangeFrom j k) [some (.obj pi), x1] m = .nx [some (.obj pi), y1] m' ∧ Fr [] m m'
  | 0, j, m, x1, hm, h => ⟨m, x1, rfl, .refl⟩
  | k + 1, j, m, x1, hm, h => by
    obtain ⟨W, e⟩ : ∃ W, P[j]? = some W := ⟨P[j]'(by omega), List.getElem?_eq_getElem (by omega)⟩
    obtain ⟨m1, e1, f1⟩ := work_look hP (τ := [some (.obj pi), some (.int j)]) hm e rfl rfl
    obtain ⟨m2, y1, e2, f2⟩ := need_programL hP k (j + 1) m1 (some (.int j)) (f1.keeps (by simp) hm) (by omega)
    refine ⟨m2, y1, ?_, f1.trans f2⟩
    rw [range_succ]
    simp only [Int.natCast_add, Int.natCast_one] at e2
    simp [loop, e1, e2]
theorem need_program_ok {P : Prog} (hP : P.ok) {pi : Nat} {m : M} (hm : m[pi]? = some (.lst (P.map Work.enc))) : ∃ m', m_need_program [.obj pi] m = .ok .non m' ∧ Fr [] m m' := by
  obtain ⟨m', y1, e, f⟩ := need_programL hP P.length 0 m none hm (by omega)
  have h1 := hP.l1
  have h4 := hP.l4
  have hR : iR (eCB gLen (lCons (eVar 0) lNil)) [some (.obj pi), none] m = .ok (rangeFrom 0 P.length, none) m := iR_nat (n := P.length) (by simp [hm]) (by omega)
  simp only [Int.natCast_zero] at e
  have c1 : (1 : Int) ≤ (P.length : Int) := by omega
  have c4 : (P.length : Int) ≤ 4 := by omega
  exact ⟨m', by simp [m_need_program, mkF, b_need_program, hm, -iR_eq, hR, c1, c4, e], f⟩
end Hb

set_option linter.all false
set_option autoImplicit false
set_option maxRecDepth 10000
set_option maxHeartbeats 4000000
/-! Hr: what the program tells. -/
namespace Hb
open PySem L2 Sh Mi Tw
theorem is_deed_ok {d : Deed} {m : M} (h : d.ok) : m_is_deed [d.enc] m = .ok (.bl true) m := by
  cases d with
  | ask a => have h : Num a := h; simp [m_is_deed, mkF, b_is_deed, is_whole_ok h.1 h.2]
  | throw a => have h : Num a := h; simp [m_is_deed, mkF, b_is_deed, is_whole_ok h.1 h.2]
  | shut => simp [m_is_deed, mkF, b_is_deed]
theorem loopO_nil {g : D → Sl → M → S} {body : Sl → M → S} {k : Nat} {xs : List D} {τ : Sl} {m : M} (h : m[k]? = some (.lst xs)) : loopO g body k xs [] τ m = .nx τ m := by rw [loopO, if_pos h]
theorem loopO_cons {g : D → Sl → M → S} {body : Sl → M → S} {k : Nat} {xs r : List D} {x : D} {τ τ1 τ2 : Sl} {m m1 m2 : M} (h : m[k]? = some (.lst xs)) (h1 : g x τ m = .nx τ1 m1) (h2 : body τ1 m1 = .nx τ2 m2) : loopO g body k xs (x :: r) τ m = loopO g body k xs r τ2 m2 := by
  rw [loopO, if_pos h, h1]; dsimp only; rw [h2]
theorem need_ask_0 {A0 A1 A2 A3 A4 A6 : Option D} : ∀ (ns : List Int) (m : M) (x5 : Option D), (∀ v ∈ ns, Num v) → ∃ y5, loop (gN 5) lb_need_ask_0 (ns.map .int) [A0, A1, A2, A3, A4, x5, A6] m = .nx [A0, A1, A2, A3, A4, y5, A6] m
  | [], m, x5, _ => ⟨x5, rfl⟩
  | n :: ns, m, x5, h => by
    obtain ⟨h0, h1⟩ := h n List.mem_cons_self
    obtain ⟨y5, e⟩ := need_ask_0 (A0 := A0) (A1 := A1) (A2 := A2) (A3 := A3) (A4 := A4) (A6 := A6) ns m (some (.int n)) fun v hv => h v (List.mem_cons_of_mem _ hv)
    exact ⟨y5, by simp [loop, lb_need_ask_0, is_whole_ok h0 h1]; simpa [lb_need_ask_0] using e⟩
theorem need_ask_1 {A0 A1 A2 A3 A4 A5 : Option D} {k : Nat} {xs : List D} {m : M} (hk : m[k]? = some (.lst xs)) : ∀ (ds : List Deed) (x6 : Option D), (∀ d ∈ ds, d.ok) → ∃ y6, loopO (gN 6) lb_need_ask_1 k xs (ds.map Deed.enc) [A0, A1, A2, A3, A4, A5, x6] m = .nx [A0, A1, A2, A3, A4, A5, y6] m
  | [], x6, _ => ⟨x6, loopO_nil hk⟩
  | d :: ds, x6, h => by
    obtain ⟨y6, e⟩ := need_ask_1 (A0 := A0) (A1 := A1) (A2 := A2) (A3 := A3) (A4 := A4) (A5 := A5) hk ds (some d.enc) fun v hv => h v (List.mem_cons_of_mem _ hv)
    exact ⟨y6, (loopO_cons hk rfl (by simp [lb_need_ask_1, is_deed_ok (h d List.mem_cons_self)])).trans e⟩
theorem need_ask_ok {P : Prog} {ds : List Deed} {w : Nat} {ns : List Int} {m : M} {pi dd : Nat} (hm : m[pi]? = some (.lst (P.map Work.enc))) (hp : P.ps[w]? = some ns.length) (hd : m[dd]? = some (.lst (ds.map Deed.enc))) (hn : ∀ v ∈ ns, Num v) (hs : ∀ d ∈ ds, d.ok) :
    m_need_ask [.obj pi, .int w, .tup (ns.map .int), .obj dd] m = .ok .non m := by
  obtain ⟨W, e, hk⟩ := ps_get hp
  have lw := (List.getElem?_eq_some_iff.mp e).1
  have hw : m_is_whole [.int w, .int 0, .int ((P.length : Int) - 1)] m = .ok (.bl true) m := is_whole_ok (by omega) (by omega)
  have hix : L2.atI (P.map Work.enc) (w : Int) = some W.enc := atI_nat (by simp [e])
  have hwk : W.enc = .tup [.int W.params, .int W.slots, .tup W.body.encs] := rfl
  obtain ⟨y5, e5⟩ := need_ask_0 (A0 := some (.obj pi)) (A1 := some (.int w)) (A2 := some (.tup (ns.map .int))) (A3 := some (.obj dd)) (A4 := some (.int W.params)) (A6 := none) ns m none hn
  obtain ⟨y6, e6⟩ := need_ask_1 (A0 := some (.obj pi)) (A1 := some (.int w)) (A2 := some (.tup (ns.map .int))) (A3 := some (.obj dd)) (A4 := some (.int W.params)) (A5 := y5) hd ds none hs
  have hk' : ((ns.length : Int) = (W.params : Int)) := by rw [hk]
  simp [m_need_ask, mkF, b_need_ask, m_need_work, b_need_work, hm, hw, hix, hwk, hk', e5, hd, e6]
theorem ask_init {ds : List Deed} {m : M} {dd : Nat} (hd : m[dd]? = some (.lst (ds.map Deed.enc))) : ∃ m1, m_Asker___init__ [.obj m.length, .obj dd] (m ++ [.ins 0 [none, none, none]]) = .ok .non m1 ∧ Ast ds m1 m.length dd (m.length + 1) (m.length + 2) ⟨[], []⟩ ∧ Fr [] m m1 := by
  have ld := get_lt hd
  refine ⟨m ++ [.ins 0 [some (.obj dd), some (.obj (m.length + 1)), some (.obj (m.length + 2))], .lst [], .lst []], ?_, ⟨by simp, get_add hd, by simp, by simp, by omega, by omega, by omega⟩, Fr.refl.add _⟩
  simp [m_Asker___init__, mkF, b_Asker___init__, get_new, set_new]
theorem restL {ds : List Deed} {ai dd ti : Nat} {A1 : Option D} : ∀ (es : List Deed) (m : M) (x2 : Option D) (qi : Nat) (t : Tk), Ast ds m ai dd ti qi t → t.words = [] → t.told.length + es.length < 1000000 →
    ∃ m' y2 q', loop (gN 2) lb_Asker_do_the_rest_0 (es.map Deed.enc) [some (.obj ai), A1, x2] m = .nx [some (.obj ai), A1, y2] m' ∧ Ast ds m' ai dd ti q' ⟨t.told ++ es.map Deed.rest, []⟩ ∧ Fr [ai, ti] m m'
  | [], m, x2, qi, t, h, hw, _ => ⟨m, x2, qi, rfl, by rw [← hw]; simpa using h, .refl⟩
  | d :: es, m, x2, qi, t, h, hw, hl => by
    simp only [List.length_cons] at hl
    obtain ⟨m1, q1, e1, h1, l1, f1⟩ := tell_ok h d.rest.2 (by omega)
    obtain ⟨m', y2, q', e2, h2, f2⟩ := restL (A1 := A1) es m1 (some d.enc) q1 (t.tell d.rest.2) h1 rfl (by simp [Tk.tell]; omega)
    have hr : (t.tell d.rest.2).told ++ es.map Deed.rest = t.told ++ (d :: es).map Deed.rest := by
      cases d <;> simp [Tk.tell, hw, Deed.rest]
    refine ⟨m', y2, q', ?_, by rw [← hr]; exact h2, f1.trans f2⟩
    have hi := h.ins
    have hb : lb_Asker_do_the_rest_0 [some (.obj ai), A1, some d.enc] m = .nx [some (.obj ai), A1, some d.enc] m1 := by
      cases d with
      | ask _ => have e1 : m_Asker_tell [.obj ai, .tup [.wd 6]] m = .ok .non m1 := e1; simp [lb_Asker_do_the_rest_0, hi, e1]
      | throw a => have e1 : m_Asker_tell [.obj ai, .tup [.wd 7, .int a]] m = .ok .non m1 := e1; simp [lb_Asker_do_the_rest_0, hi, e1]
      | shut => have e1 : m_Asker_tell [.obj ai, .tup [.wd 2]] m = .ok .non m1 := e1; simp [lb_Asker_do_the_rest_0, hi, e1]
    simp [loop, hb, e2]
theorem cutN {xs : List D} {n : Nat} (h : n ≤ xs.length) : cutD xs (some (n : Int)) none = xs.drop n := by
  unfold cutD
  rw [HT.sIx_nat, HT.sIx_none, Nat.min_eq_left h, List.take_of_length_le (by rw [List.length_drop]; omega)]
theorem rest_ok {ds : List Deed} {m : M} {ai dd ti qi : Nat} {t : Tk} (h : Ast ds m ai dd ti qi t) (hw : t.words = []) (hl : t.told.length ≤ ds.length) (hdl : ds.length < 100000) :
    ∃ m' q', m_Asker_do_the_rest [.obj ai] m = .ok .non m' ∧ Ast ds m' ai dd ti q' ⟨restOf ds t.told, []⟩ ∧ Fr [ai, ti] m m' := by
  obtain ⟨m', y2, q', e, h1, f1⟩ := restL (A1 := some (.int t.told.length)) (ds.drop t.told.length) m none qi t h hw (by simp; omega)
  refine ⟨m', q', ?_, h1, f1⟩
  have hi := h.ins
  have hc : cutD (ds.map Deed.enc) (some (t.told.length : Int)) none = (ds.map Deed.enc).drop t.told.length := cutN (by simpa using hl)
  rw [List.map_drop] at e
  simp [m_Asker_do_the_rest, mkF, b_Asker_do_the_rest, hi, h.ht, h.hd, hc, e]
/-- the end of a walk, as a value -/
def wayD : Way → D
  | .fault n => .tup [.wd 7, .int n]
  | .fin n => .tup [.wd 5, .int n]
  | .leave => .tup [.wd 21]
  | .shut => .tup [.wd 2]
  | _ => .non
theorem see_ok {ds : List Deed} {m : M} {ai dd ti qi : Nat} {t : Tk} (h : Ast ds m ai dd ti qi t) {y : Way} (h1 : y ≠ .go) (h2 : y ≠ .leave) (h3 : y ≠ .stop) (hl : t.told.length < ds.length) (hdl : ds.length < 100000) :
    ∃ m' q', m_Asker_see_out [.obj ai, wayD y] m = .ok .non m' ∧ Ast ds m' ai dd ti q' (t.tell (outOf ds[t.told.length]? y)) ∧ Fr [ai, ti] m m' := by
  obtain ⟨d, ed⟩ : ∃ d, ds[t.told.length]? = some d := ⟨_, List.getElem?_eq_getElem hl⟩
  have e0 := deed_at h ed
  have hi := h.ins
  rw [ed]
  obtain ⟨m', q', e, a, l, f⟩ := tell_ok h (outOf (some d) y) (by omega)
  refine ⟨m', q', ?_, a, f⟩
  cases y with
  | go => exact absurd rfl h1
  | leave => exact absurd rfl h2
  | stop => exact absurd rfl h3
  | fault j => have e : m_Asker_tell [.obj ai, .tup [.wd 7, .int j]] m = .ok .non m' := e; simp [m_Asker_see_out, mkF, b_Asker_see_out, wayD, hi, e]
  | shut => have e : m_Asker_tell [.obj ai, .tup [.wd 2]] m = .ok .non m' := e; simp [m_Asker_see_out, mkF, b_Asker_see_out, wayD, hi, e]
  | fin j =>
    cases d with
    | shut => have e : m_Asker_tell [.obj ai, .tup [.wd 2]] m = .ok .non m' := e; simp [m_Asker_see_out, mkF, b_Asker_see_out, wayD, hi, e0, e]
    | ask a => have e : m_Asker_tell [.obj ai, .tup [.wd 5, .int j]] m = .ok .non m' := e; simp [m_Asker_see_out, mkF, b_Asker_see_out, wayD, hi, e0, e]
    | throw a => have e : m_Asker_tell [.obj ai, .tup [.wd 5, .int j]] m = .ok .non m' := e; simp [m_Asker_see_out, mkF, b_Asker_see_out, wayD, hi, e0, e]
/-- a deed to begin with -/
def begins : List Deed → Bool
  | .ask _ :: _ => true
  | _ => false
theorem begins_ok {ds : List Deed} {m : M} {ai dd ti qi : Nat} {t : Tk} (h : Ast ds m ai dd ti qi t) : m_Asker_begins [.obj ai] m = .ok (.bl (begins ds)) m := by
  have hi := h.ins
  have hd := h.hd
  cases ds with
  | nil => simp [m_Asker_begins, mkF, b_Asker_begins, hi, hd, begins]
  | cons d ds =>
    have : (0 : Int) < (ds.length : Int) + 1 := by omega
    cases d <;> simp [m_Asker_begins, mkF, b_Asker_begins, hi, hd, this, begins]
theorem told_0 {P : Prog} {ds : List Deed} {w : Nat} {ns : List Int} (h : begins ds = false) : toldOf P w ns ds = restOf ds [] := by
  cases ds with
  | nil => rfl
  | cons d ds => cases d with
    | ask a => cases h
    | throw a => rfl
    | shut => rfl
theorem told_1 {P : Prog} {ds : List Deed} {w : Nat} {ns : List Int} (h : begins ds = true) : 0 < ds.length ∧ toldOf P w ns ds = match play P ds 4 w ns ⟨[], []⟩ with
    | (.stop, t) => restOf ds t.told
    | (y, t) => restOf ds (t.told ++ [(t.words, outOf ds[t.told.length]? y)]) := by
  cases ds with
  | nil => cases h
  | cons d ds => cases d with
    | ask a => exact ⟨by simp, rfl⟩
    | throw a => cases h
    | shut => cases h
theorem played_ok {P : Prog} {ds : List Deed} {w : Nat} {ns : List Int} {m : M} {pi dd : Nat} (hP : P.ok) (hs : ∀ d ∈ ds, d.ok) (hdl : ds.length < 100000) (hp : P.ps[w]? = some ns.length) (hn : ∀ v ∈ ns, Num v) (hc : cost P 4 w < 16777216)
    (hm : m[pi]? = some (.lst (P.map Work.enc))) (hd : m[dd]? = some (.lst (ds.map Deed.enc))) :
    ∃ m' t, m_played [.obj pi, .int w, .tup (ns.map .int), .obj dd] m = .ok (.obj t) m' ∧ m'[t]? = some (.lst ((toldOf P w ns ds).map woD)) ∧ m.length ≤ t ∧ Fr [] m m' := by
  obtain ⟨m1, e1, f1⟩ := need_program_ok hP hm
  have hm1 := f1.keeps (by simp) hm
  have hd1 := f1.keeps (by simp) hd
  have e2 := need_ask_ok hm1 hp hd1 hn hs
  have lp := get_lt hm
  have ld := get_lt hd
  have l1 := f1.1
  obtain ⟨m2, e3, a2, f2⟩ := ask_init hd1
  have hm2 := f2.keeps (by simp) hm1
  have hi2 := a2.ins
  have eb := begins_ok a2
  have N : itemsOf m2 (.tup (ns.map .int)) = some (ns.map .int) := by simp
  cases hb : begins ds with
  | false =>
    rw [hb] at eb
    obtain ⟨m5, q5, er, a5, f5⟩ := rest_ok a2 rfl (Nat.zero_le _) hdl
    have hi5 := a5.ins
    have ht5 := a5.ht
    rw [told_0 hb]
    exact ⟨m5, m1.length + 1, by simp [m_played, mkF, b_played, m_asked, mkFL, b_asked, gLam, capsD, e1, e2, e3, hi2, eb, er, hi5], ht5, by omega, (f1.up f2 (by simp)).up f5 (by simp; omega)⟩
  | true =>
    rw [hb] at eb
    obtain ⟨h0, ht⟩ := told_1 (P := P) (w := w) (ns := ns) hb
    obtain ⟨m3, q3, e4, a3, f3, hq3⟩ := walked_ok hs (by omega) hP hp hn (t := ⟨[], []⟩) h0 (by simpa using hc) a2 hm2 (by omega) (by omega) N
    obtain ⟨i1, i2, i3, i4, i5⟩ := walked_inv hs hP hp hn (t := ⟨[], []⟩) h0
    have i6 := walked_stop (ds := ds) hP hp (t := ⟨[], []⟩)
    rw [ht]
    rcases ep : play P ds 4 w ns ⟨[], []⟩ with ⟨y, t⟩
    rw [ep] at e4 a3 i1 i2 i4 i5 i6
    dsimp only at e4 a3 i1 i2 i4 i5 i6
    have hi3 := a3.ins
    have fr3 : Fr [] m m3 := (f1.up f2 (by simp)).up f3 fun k hk hl => by
      simp at hk; omega
    by_cases hy : y = .stop
    · subst hy
      obtain ⟨m5, q5, er, a5, f5⟩ := rest_ok a3 (i6 rfl) i2 hdl
      have hi5 := a5.ins
      have ht5 := a5.ht
      simp at e4
      exact ⟨m5, m1.length + 1, by simp [m_played, mkF, b_played, m_asked, mkFL, b_asked, gLam, capsD, e1, e2, e3, hi2, eb, e4, hi3, er, hi5], ht5, by omega, fr3.up f5 (by simp; omega)⟩
    · have l3 := i1 hy
      obtain ⟨m4, q4, es, a4, f4⟩ := see_ok a3 i4 i5 hy l3 hdl
      have hi4 := a4.ins
      obtain ⟨m5, q5, er, a5, f5⟩ := rest_ok a4 rfl (by simp [Tk.tell]; omega) hdl
      have hi5 := a5.ins
      have ht5 := a5.ht
      have hw : wayR y m3 = .ok (wayD y) m3 := by cases y <;> first | rfl | exact absurd rfl hy
      rw [hw] at e4
      have hr : (match ((y, t) : Way × Tk) with
        | (.stop, t) => restOf ds t.told
        | (y, t) => restOf ds (t.told ++ [(t.words, outOf ds[t.told.length]? y)])) = restOf ds (t.told ++ [(t.words, outOf ds[t.told.length]? y)]) := by
        cases y <;> first | rfl | exact absurd rfl hy
      rw [hr]
      exact ⟨m5, m1.length + 1, by simp [m_played, mkF, b_played, m_asked, mkFL, b_asked, gLam, capsD, e1, e2, e3, hi2, eb, e4, hi3, es, hi4, er, hi5], ht5, by omega, (fr3.up f4 (by simp; omega)).up f5 (by simp; omega)⟩
end Hb

set_option linter.all false
set_option autoImplicit false
set_option maxRecDepth 10000
set_option maxHeartbeats 4000000
/-! Hw: the law's own walk: its talk, its gifts. -/
namespace Hb
open PySem L2 Sh Mi Tw
structure Alk (ds : List Deed) (m : M) (ki dd ti qi : Nat) (t : Tk) : Prop where
  dct : m[ki]? = some (.dct [(26, .obj dd), (24, .obj ti), (25, .obj qi)])
  hd : m[dd]? = some (.lst (ds.map Deed.enc))
  ht : m[ti]? = some (.lst (t.told.map woD))
  hq : m[qi]? = some (.lst (t.words.map .int))
  tq : ti ≠ qi
  td : ti ≠ dd
  qd : qi ≠ dd
theorem ne_dl {m : M} {a b : Nat} {kv : List (Nat × D)} {xs : List D} (h : m[a]? = some (.dct kv)) (h' : m[b]? = some (.lst xs)) : a ≠ b := fun e => by subst e; rw [h] at h'; cases h'
section
variable {ds : List Deed} {m m' : M} {ki dd ti qi : Nat} {t : Tk}
theorem Alk.fr {S : List Nat} (h : Alk ds m ki dd ti qi t) (f : Fr S m m') (h1 : ki ∉ S) (h2 : dd ∉ S) (h3 : ti ∉ S) (h4 : qi ∉ S) : Alk ds m' ki dd ti qi t :=
  ⟨f.keeps h1 h.dct, f.keeps h2 h.hd, f.keeps h3 h.ht, f.keeps h4 h.hq, h.tq, h.td, h.qd⟩
theorem lsay_ok (h : Alk ds m ki dd ti qi t) {n : Int} : Alk ds (m.set qi (.lst (t.words.map .int ++ [.int n]))) ki dd ti qi (t.say n) ∧ Fr [qi] m (m.set qi (.lst (t.words.map .int ++ [.int n]))) := by
  have na := ne_dl h.dct h.hq
  refine ⟨⟨?_, ?_, ?_, by simpa [Tk.say] using get_set h.hq, h.tq, h.td, h.qd⟩, Fr.refl.set _ fun _ => by simp⟩
  · rw [List.getElem?_set_ne (Ne.symm na)]; exact h.dct
  · rw [List.getElem?_set_ne h.qd]; exact h.hd
  · rw [List.getElem?_set_ne (Ne.symm h.tq)]; exact h.ht
theorem ltell_ok (h : Alk ds m ki dd ti qi t) (o : Oc) (hl : t.told.length < 16777216) :
    ∃ m' q', m__law_tell [.obj ki, o.enc] m = .ok .non m' ∧ Alk ds m' ki dd ti q' (t.tell o) ∧ m.length ≤ q' ∧ Fr [ki, ti] m m' := by
  have hi := h.dct
  have ht := h.ht
  have hq := h.hq
  have l1 := get_lt hi
  have l2 := get_lt ht
  have l3 := get_lt h.hd
  have nt := ne_dl hi ht
  have nd := ne_dl hi h.hd
  have e1 : (t.tell o).told.map woD = t.told.map woD ++ [D.tup [.tup (t.words.map .int), o.enc]] := by simp [Tk.tell, woD]
  have hi' : (m.set ti (O.lst (t.told.map woD ++ [D.tup [.tup (t.words.map .int), o.enc]])))[ki]? = some (.dct [(26, .obj dd), (24, .obj ti), (25, .obj qi)]) := by rw [List.getElem?_set_ne (Ne.symm nt)]; exact hi
  have hi2 : (m.set ti (O.lst (t.told.map woD ++ [D.tup [.tup (t.words.map .int), o.enc]])) ++ [O.lst []])[ki]? = some (.dct [(26, .obj dd), (24, .obj ti), (25, .obj qi)]) := get_add hi'
  refine ⟨(m.set ti (O.lst (t.told.map woD ++ [D.tup [.tup (t.words.map .int), o.enc]])) ++ [O.lst []]).set ki (.dct [(26, .obj dd), (24, .obj ti), (25, .obj m.length)]), m.length, ?_, ⟨get_set hi2, ?_, ?_, ?_, by omega, h.td, by omega⟩, Nat.le_refl _, ?_⟩
  · simp [m__law_tell, mkF, b__law_tell, hi, ht, hq, hl, hi2]
  · rw [List.getElem?_set_ne nd]; exact get_add (by rw [List.getElem?_set_ne h.td]; exact h.hd)
  · rw [List.getElem?_set_ne nt, e1]; exact get_add (get_set ht)
  · rw [List.getElem?_set_ne (by omega)]; simp [Tk.tell]
  · exact ((Fr.refl.set _ fun _ => by simp).add _).set _ fun _ => by simp
def gD : Option Deed → D
  | none => .tup [.wd 27]
  | some d => d.enc
theorem lgift_ok (h : Alk ds m ki dd ti qi t) (n : Int) (hl : t.told.length < ds.length) (hd : ds.length < 1000000) :
    ∃ m' q', m__law_gift [.obj ki, .int n] m = .ok (gD (gift ds n t).1) m' ∧ Alk ds m' ki dd ti q' (gift ds n t).2 ∧ m.length ≤ q' ∧ Fr [ki, ti] m m' := by
  have hi := h.dct
  obtain ⟨d0, e0⟩ : ∃ d, ds[t.told.length]? = some d := ⟨_, List.getElem?_eq_getElem hl⟩
  have hat : L2.atI (ds.map Deed.enc) (t.told.length : Int) = some d0.enc := atI_nat (by simp [e0])
  have two : d0 ≠ .shut → ∃ m' q', m__law_gift [.obj ki, .int n] m = .ok (gD ds[t.told.length + 1]?) m' ∧ Alk ds m' ki dd ti q' (t.tell (.gift n)) ∧ m.length ≤ q' ∧ Fr [ki, ti] m m' := by
    intro hs
    obtain ⟨m1, q1, e1, a1, l1, f1⟩ := ltell_ok h (.gift n) (by omega)
    have e1' : m__law_tell [.obj ki, .tup [.wd 4, .int n]] m = .ok .non m1 := e1
    have hi1 := a1.dct
    have ht1 := a1.ht
    have hd1 := a1.hd
    have tl : (t.tell (.gift n)).told.length = t.told.length + 1 := by simp [Tk.tell]
    have ix : L2.atI (ds.map Deed.enc ++ [D.tup [.wd 27]]) ((t.told.length : Int) + 1) = some (gD ds[t.told.length + 1]?) := by
      refine atI_nat (j := t.told.length + 1) ?_
      cases e2 : ds[t.told.length + 1]? with
      | none =>
        have hn : ds.length ≤ t.told.length + 1 := by rw [List.getElem?_eq_none_iff] at e2; exact e2
        have : t.told.length + 1 = (ds.map Deed.enc).length := by simp; omega
        rw [this]; simp [gD]
      | some d' =>
        have hn : t.told.length + 1 < ds.length := (List.getElem?_eq_some_iff.mp e2).1
        rw [List.getElem?_append_left (by simpa using hn)]
        simp [e2, gD]
    have c : ds.length ≤ 16777215 := by omega
    refine ⟨m1, q1, ?_, a1, l1, f1⟩
    cases d0 with
    | shut => exact absurd rfl hs
    | ask a => simp [m__law_gift, mkF, b__law_gift, hi, h.hd, h.ht, hat, e1', hi1, ht1, hd1, tl, ix, c]
    | throw a => simp [m__law_gift, mkF, b__law_gift, hi, h.hd, h.ht, hat, e1', hi1, ht1, hd1, tl, ix, c]
  unfold gift
  rw [e0]
  cases d0 with
  | shut =>
    obtain ⟨m1, q1, e1, a1, l1, f1⟩ := ltell_ok h .stub (by omega)
    have e1' : m__law_tell [.obj ki, .tup [.wd 3]] m = .ok .non m1 := e1
    exact ⟨m1, q1, by simp [m__law_gift, mkF, b__law_gift, hi, h.hd, h.ht, hat, e1', gD], a1, l1, f1⟩
  | ask a => exact two (by simp)
  | throw a => exact two (by simp)
end
/-- what the law's walk returns -/
def lwD : Way → D
  | .go => .non
  | .fault n => .tup [.wd 7, .int n]
  | .fin n => .tup [.wd 5, .int n]
  | .leave => .tup [.wd 21]
  | .shut => .tup [.wd 2]
  | .stop => .tup [.wd 27]
section
variable {n : Int}
@[simp] theorem lwD_go : lwD .go = .non := rfl
@[simp] theorem lwD_fault : lwD (.fault n) = .tup [.wd 7, .int n] := rfl
@[simp] theorem lwD_fin : lwD (.fin n) = .tup [.wd 5, .int n] := rfl
@[simp] theorem lwD_leave : lwD .leave = .tup [.wd 21] := rfl
@[simp] theorem lwD_shut : lwD .shut = .tup [.wd 2] := rfl
@[simp] theorem lwD_stop : lwD .stop = .tup [.wd 27] := rfl
end
structure Qst (P : Prog) (ds : List Deed) (m : M) (ki si dd ti qi pi : Nat) (vs : List Int) (t : Tk) : Prop where
  ast : Alk ds m ki dd ti qi t
  sl : m[si]? = some (.lst (vs.map .int))
  pr : m[pi]? = some (.lst (P.map Work.enc))
  sd : si ≠ dd
  st : si ≠ ti
  sq : si ≠ qi
  sp : si ≠ pi
  pt : pi ≠ ti
  pq : pi ≠ qi
def Lut (P : Prog) (ds : List Deed) (m : M) (ki si dd ti qi pi : Nat) (r : R D) (S : Rs) : Prop :=
  ∃ m' q', r = .ok (lwD S.1) m' ∧ Qst P ds m' ki si dd ti q' pi S.2.1 S.2.2 ∧ Fr [si, ki, ti, qi] m m' ∧ (q' = qi ∨ m.length ≤ q')
/-- what a work's walk, as it is handed to, returns -/
def LD (d : D) (y : Way) : Prop := d = lwD y ∨ (d = .non ∧ y = .fin 0)
def CalL (P : Prog) (ds : List Deed) (i : Nat) (c : Nat → Nat) (cal : Nat → List Int → Tk → Way × Tk) (F : Nat) : Prop :=
  ∀ (w : Nat) (W : Work) (ns : List Int) (t : Tk) (f : Nat) (m : M) (ki si dd ti qi pi : Nat), i < w → P[w]? = some W → W.params = ns.length → (∀ v ∈ ns, Num v) → t.told.length < ds.length → t.words.length + c w < 16777216 → F ≤ f →
    Qst P ds m ki si dd ti qi pi (ns ++ List.replicate (W.slots - W.params) 0) t → ∃ d m' q', m_lw f 0 [.obj pi, .tup W.body.encs, .obj si, .obj ki] m = .ok d m' ∧ LD d (cal w ns t).1 ∧ Alk ds m' ki dd ti q' (cal w ns t).2 ∧ Fr [si, ki, ti, qi] m m' ∧ (q' = qi ∨ m.length ≤ q')
section
variable {P : Prog} {ds : List Deed} {m m' : M} {ki si dd ti qi pi : Nat} {vs : List Int} {t : Tk} {n : Nat}
theorem Qst.ns (h : Qst P ds m ki si dd ti qi pi vs t) : ki ≠ si ∧ ki ≠ ti ∧ ki ≠ qi ∧ ki ≠ pi ∧ ki ≠ dd :=
  ⟨ne_dl h.ast.dct h.sl, ne_dl h.ast.dct h.ast.ht, ne_dl h.ast.dct h.ast.hq, ne_dl h.ast.dct h.pr, ne_dl h.ast.dct h.ast.hd⟩
theorem lreck (h : Qst P ds m ki si dd ti qi pi vs t) (hl : vs.length = n) (hv : ∀ v ∈ vs, Num v) {e : Rk} (he : e.ok n 3) : m_gk 6 0 [e.enc, .obj si] m = .ok (oD (e.ev vs)) m :=
  gk_law hl hv 3 e he 6 m si (by omega) h.sl
/-- a slot is set -/
theorem Qst.put (h : Qst P ds m ki si dd ti qi pi vs t) (k : Nat) (i : Int) : Qst P ds (m.set si (.lst ((vs.set k i).map .int))) ki si dd ti qi pi (vs.set k i) t ∧ Fr [si] m (m.set si (.lst ((vs.set k i).map .int))) := by
  obtain ⟨n1, n2, n3, n4, n5⟩ := h.ns
  have f : Fr [si] m (m.set si (.lst ((vs.set k i).map .int))) := Fr.refl.set _ fun _ => by simp
  exact ⟨⟨h.ast.fr f (by simpa using n1) (by simpa using Ne.symm h.sd) (by simpa using Ne.symm h.st) (by simpa using Ne.symm h.sq), get_set h.sl, f.keeps (by simpa using Ne.symm h.sp) h.pr, h.sd, h.st, h.sq, h.sp, h.pt, h.pq⟩, f⟩
/-- the talk went on -/
theorem Qst.asked (h : Qst P ds m ki si dd ti qi pi vs t) {t' : Tk} {q' : Nat} (a : Alk ds m' ki dd ti q' t') (f : Fr [ki, ti, qi] m m') (hq : q' = qi ∨ m.length ≤ q') : Qst P ds m' ki si dd ti q' pi vs t' := by
  obtain ⟨n1, n2, n3, n4, n5⟩ := h.ns
  have l1 := get_lt h.sl
  have l2 := get_lt h.pr
  refine ⟨a, f.keeps (by simp; exact ⟨Ne.symm n1, h.st, h.sq⟩) h.sl, f.keeps (by simp; exact ⟨Ne.symm n4, h.pt, h.pq⟩) h.pr, h.sd, h.st, ?_, h.sp, h.pt, ?_⟩
  · rcases hq with rfl | hq
    · exact h.sq
    · omega
  · rcases hq with rfl | hq
    · exact h.pq
    · omega
theorem Qst.out (h : Qst P ds m ki si dd ti qi pi vs t) {r : R D} {y : Way} (e : r = .ok (lwD y) m) : Lut P ds m ki si dd ti qi pi r (y, vs, t) := ⟨m, qi, e, h, .refl, .inl rfl⟩
theorem lw0 {f : Nat} : m_lw (f + 1) 0 = mkF 4 6 (b__law_walk (m_lw f)) := rfl
theorem lw1 {f : Nat} : m_lw (f + 1) 1 = mkF 4 5 (b__law_step (m_lw f)) := rfl
theorem lw2 {f : Nat} : m_lw (f + 1) 2 = mkF 5 7 (b__law_rounds (m_lw f)) := rfl
theorem lw3 {f : Nat} : m_lw (f + 1) 3 = mkF 4 10 (b__law_handed (m_lw f)) := rfl
theorem lw4 {f : Nat} : m_lw (f + 1) 4 = mkF 4 6 (b__law_tried (m_lw f)) := rfl
/-- the args of a hand, by the law -/
theorem compG_args (h : Qst P ds m ki si dd ti qi pi vs t) (hl : vs.length = n) (hv : ∀ v ∈ vs, Num v) {ys : List D} {τ : Sl} (h2 : τ[2]? = some (some (.obj si))) (hτ : τ.length = 10) : ∀ (es : List Rk) (acc : List D), (∀ e ∈ es, e.ok n 3) → acc.length + es.length < 100 →
    compG (okS (ys, none)) 9 tYs (eCall 2 (m_gk 6 0) (lCons (eVar 9) (lCons (eVar 2) lNil))) τ (es.map Rk.enc) acc m = .ok (acc ++ es.map fun e => oD (e.ev vs)) m
  | [], acc, _, _ => by rw [List.map_nil, compG_nil okS_none]; simp
  | e :: es, acc, he, hl' => by
    have e1 := lreck h hl hv (he e List.mem_cons_self)
    have s0 : ∀ x : D, (τ.set 9 (some x))[2]? = some (some (.obj si)) := fun x => by rw [List.getElem?_set_ne (by decide)]; exact h2
    have s1 : ∀ x : D, (τ.set 9 (some x))[9]? = some (some x) := fun x => List.getElem?_set_self (by omega)
    simp only [List.length_cons] at hl'
    have hacc : acc.length < 16777216 := by omega
    have ih := compG_args (ys := ys) h hl hv h2 hτ es (acc ++ [oD (e.ev vs)]) (fun y hy => he y (List.mem_cons_of_mem _ hy)) (by simp; omega)
    rw [List.map_cons, compG_cons okS_none]
    simp [s0, s1, e1, hacc]
    simpa using ih
end
theorem evs_any {vs : List Int} : ∀ {es : List Rk}, (match evs vs es with
    | none => (es.map fun e => oD (e.ev vs)).any isNon = true
    | some ns => (es.map fun e => oD (e.ev vs)) = ns.map .int ∧ (es.map fun e => oD (e.ev vs)).any isNon = false)
  | [] => by simp [evs]
  | e :: es => by
    have ih := evs_any (vs := vs) (es := es)
    simp only [evs]
    cases a : e.ev vs with
    | none => simp [a, isNon]
    | some i =>
      cases b : evs vs es with
      | none => rw [b] at ih; simp only at ih ⊢; rw [List.map_cons, List.any_cons, ih, Bool.or_true]
      | some ns => rw [b] at ih; simp only at ih ⊢; refine ⟨by simp [a, ih.1], ?_⟩; rw [List.map_cons, List.any_cons, ih.2, a]; rfl
theorem args_NI {vs : List Int} {es : List Rk} : (es.map fun e => oD (e.ev vs)).all isNI = true := by
  rw [List.all_eq_true]
  intro x hx
  obtain ⟨e, _, rfl⟩ := List.mem_map.mp hx
  cases e.ev vs <;> rfl
end Hb

set_option linter.all false
set_option autoImplicit false
set_option maxRecDepth 10000
set_option maxHeartbeats 4000000
/-! Hw2: the law's walk does what the work does. -/
namespace Hb
open PySem L2 Sh Mi Tw
section
variable {P : Prog} {ds : List Deed} {i n F : Nat} {c : Nat → Nat} {cal : Nat → List Int → Tk → Way × Tk} {ki si dd ti pi : Nat}
/-- the end of a loop -/
def LQ (S : S) (y : Way) (m' : M) : Prop := match y with
  | .go => (∃ τ, S = .nx τ m') ∨ S = .rt .non m'
  | y => S = .rt (lwD y) m'
theorem LQ.toR {S0 : S} {y : Way} {m' : M} (h : LQ S0 y m') {f : Sl → M → S} {τ : Sl} {m : M} (e : f τ m = S0) : toR (sSeq f (sRet (eC .non)) τ m) = .ok (lwD y) m' := by
  cases y with
  | go =>
    rcases h with ⟨τ', h⟩ | h
    · simp [e, h]
    · simp [e, h]
  | stop => have h : S0 = _ := h; simp [e, h]
  | fault n => have h : S0 = _ := h; simp [e, h]
  | fin n => have h : S0 = _ := h; simp [e, h]
  | leave => have h : S0 = _ := h; simp [e, h]
  | shut => have h : S0 = _ := h; simp [e, h]
def LutL (P : Prog) (ds : List Deed) (m : M) (ki si dd ti qi pi : Nat) (S0 : S) (R : Rs) : Prop :=
  ∃ m' q', LQ S0 R.1 m' ∧ Qst P ds m' ki si dd ti q' pi R.2.1 R.2.2 ∧ Fr [si, ki, ti, qi] m m' ∧ (q' = qi ∨ m.length ≤ q')
theorem LutL.bd {m : M} {qi k B : Nat} {b : Bd} {R : Rs} (hk : B + 1 ≤ k) (h : ∀ f, B ≤ f → LutL P ds m ki si dd ti qi pi (loop (gN 4) (lb__law_walk_0 (m_lw f)) b.encs [some (.obj pi), some (.tup b.encs), some (.obj si), some (.obj ki), none, none] m) R) : Lut P ds m ki si dd ti qi pi (m_lw k 0 [.obj pi, .tup b.encs, .obj si, .obj ki] m) R := by
  obtain ⟨f, rfl⟩ : ∃ f, k = f + 1 := ⟨k - 1, by omega⟩
  obtain ⟨m', q', e, r⟩ := h f (by omega)
  refine ⟨m', q', ?_, r⟩
  exact LQ.toR (f := sFor (gN 4) (iT (eVar 1)) (lb__law_walk_0 (m_lw f))) (τ := [some (.obj pi), some (.tup b.encs), some (.obj si), some (.obj ki), none, none]) (m := m) e (by simp)
def BdQ (P : Prog) (ds : List Deed) (n : Nat) (c : Nat → Nat) (cal : Nat → List Int → Tk → Way × Tk) (ki si dd ti pi : Nat) (b : Bd) (f : Nat) : Prop :=
  ∀ (m : M) (qi : Nat) (vs : List Int) (t : Tk), Good ds n vs t → t.words.length + b.cost c < 16777216 → Qst P ds m ki si dd ti qi pi vs t → Lut P ds m ki si dd ti qi pi (m_lw f 0 [.obj pi, .tup b.encs, .obj si, .obj ki] m) (b.run ds cal vs t)
theorem lround_ok {f : Nat} {b : Bd} (inv : ∀ vs t, Good ds n vs t → After ds n (t.words.length + b.cost c) (b.run ds cal vs t)) (hb : BdQ P ds n c cal ki si dd ti pi b f) {A2 : Option D} :
    ∀ (ys : List D) (m : M) (qi : Nat) (vs : List Int) (t : Tk) (x5 x6 : Option D), Good ds n vs t → t.words.length + ys.length * b.cost c < 16777216 → Qst P ds m ki si dd ti qi pi vs t →
      LutL P ds m ki si dd ti qi pi (loop (gN 5) (lb__law_rounds_0 (m_lw f)) ys [some (.obj pi), some (.tup b.encs), A2, some (.obj si), some (.obj ki), x5, x6] m) (iter ys.length (b.run ds cal) vs t)
  | [], m, qi, vs, t, x5, x6, g, hw, p => ⟨m, qi, .inl ⟨_, rfl⟩, p, .refl, .inl rfl⟩
  | y :: ys, m, qi, vs, t, x5, x6, g, hw, p => by
    have hw' : t.words.length + (b.cost c + ys.length * b.cost c) < 16777216 := by
      rw [List.length_cons, Nat.add_mul, Nat.one_mul] at hw; omega
    obtain ⟨m1, q1, e1, p1, f1, h1⟩ := hb m qi vs t g (by omega) p
    have a1 := inv vs t g
    rw [List.length_cons, iter]
    rcases er : b.run ds cal vs t with ⟨y1, vs1, t1⟩
    rw [er] at e1 p1 a1
    cases y1 with
    | go =>
      simp at e1
      obtain ⟨m2, q2, e2, p2, f2, h2⟩ := lround_ok inv hb (A2 := A2) ys m1 q1 vs1 t1 (some y) (some .non) (a1.good fun z => by cases z) (by have := a1.words; dsimp only at this; omega) p1
      refine ⟨m2, q2, ?_, p2, Fr.q (S := []) f1 f2 h1, or_q h1 h2 f1.1⟩
      have : loop (gN 5) (lb__law_rounds_0 (m_lw f)) (y :: ys) [some (.obj pi), some (.tup b.encs), A2, some (.obj si), some (.obj ki), x5, x6] m = loop (gN 5) (lb__law_rounds_0 (m_lw f)) ys [some (.obj pi), some (.tup b.encs), A2, some (.obj si), some (.obj ki), some y, some .non] m1 := by
        simp [loop, lb__law_rounds_0, e1]
      rw [this]
      exact e2
    | leave =>
      simp at e1
      exact ⟨m1, q1, .inr (by simp [loop, lb__law_rounds_0, e1]), p1, f1, h1⟩
    | fault j =>
      simp at e1
      exact ⟨m1, q1, (show _ = _ by simp [loop, lb__law_rounds_0, e1]), p1, f1, h1⟩
    | fin j =>
      simp at e1
      exact ⟨m1, q1, (show _ = _ by simp [loop, lb__law_rounds_0, e1]), p1, f1, h1⟩
    | shut =>
      simp at e1
      exact ⟨m1, q1, (show _ = _ by simp [loop, lb__law_rounds_0, e1]), p1, f1, h1⟩
    | stop =>
      simp at e1
      exact ⟨m1, q1, (show _ = _ by simp [loop, lb__law_rounds_0, e1]), p1, f1, h1⟩
/-- a try's parts, in the law -/
noncomputable def lIf (rec : Nat → List D → M → R D) : Sl → M → S := (sIf (tAnd (tB (eOp gIsN (eOp gIx (eVar 1) (eC (.int 2))) (eC .non))) (tAnd (tB (eOp gIsN (eVar 4) (eC .non))) (tB (eOp gEq (eOp gIx (eVar 4) (eC (.int 0))) (eC (.wd 7)))))) (sSeq (sIf (tB (eOp gIsN (eOp gIx (eOp gIx (eVar 1) (eC (.int 2))) (eC (.int 0))) (eC .non))) (sAsg (eOp gIx (eVar 4) (eC (.int 1))) (gS (eVar 2) (eOp gIx (eOp gIx (eVar 1) (eC (.int 2))) (eC (.int 0))))) sNx) (sSet 4 (eCall 4 (rec 0) (lCons (eVar 0) (lCons (eOp gIx (eOp gIx (eVar 1) (eC (.int 2))) (eC (.int 1))) (lCons (eVar 2) (lCons (eVar 3) lNil))))))) sNx)
noncomputable def lTail (rec : Nat → List D → M → R D) : Sl → M → S := (sSeq (sIf (tB (eOp (gEqD wds0) (eVar 4) (eTup (lCons (eC (.wd 27)) lNil)))) (sRet (eVar 4)) sNx) (sSeq (sSet 5 (eCall 4 (rec 0) (lCons (eVar 0) (lCons (eOp gIx (eVar 1) (eC (.int 3))) (lCons (eVar 2) (lCons (eVar 3) lNil)))))) (sRet (eIxL (lLst (lCons (eVar 5) (lCons (eVar 4) lNil))) (eCB gInt (lCons (eOp gIs (eVar 5) (eC .non)) lNil))))))
def tailD (came : D) : Way → D
  | .go => came
  | y => lwD y
theorem lTail_ok {f : Nat} {m m' : M} {a l : Bd} {d : Ct} {x5 : Option D} {came : D} (hy : gEqD wds0 m came (.tup [.wd 27]) = some (.bl false)) {y : Way} (e : m_lw f 0 [.obj pi, .tup l.encs, .obj si, .obj ki] m = .ok (lwD y) m') :
    toR (lTail (m_lw f) [some (.obj pi), some (Stp.tri a d l).enc, some (.obj si), some (.obj ki), some came, x5] m) = .ok (tailD came y) m' := by
  cases y <;> simp at e <;> simp [lTail, Stp.enc, hy, e, tailD]
theorem lIf_pass {f : Nat} {m : M} {a l : Bd} {d : Ct} {x5 : Option D} {came : D} (hno : d = .no ∨ came = .non ∨ (∃ x xs, came = .tup (.wd x :: xs) ∧ x ≠ 7)) :
    lIf (m_lw f) [some (.obj pi), some (Stp.tri a d l).enc, some (.obj si), some (.obj ki), some came, x5] m = .nx [some (.obj pi), some (Stp.tri a d l).enc, some (.obj si), some (.obj ki), some came, x5] m := by
  rcases hno with rfl | rfl | ⟨x, xs, rfl, hx⟩
  · simp [lIf, Stp.enc, Ct.enc]
  · cases d with
    | no => simp [lIf, Stp.enc, Ct.enc]
    | yes k b => simp [lIf, Stp.enc, Ct.enc]
  · cases d with
    | no => simp [lIf, Stp.enc, Ct.enc]
    | yes k b => simp [lIf, Stp.enc, Ct.enc, hx]
mutual
theorem Stp.law (hd : ∀ d ∈ ds, d.ok) (hdl : ds.length < 1000000) (hP : P.ok) (hc : CalOk ds P.ps i c cal) (hr : CalL P ds i c cal F) : ∀ (s : Stp) {r : Bool} (f : Nat) (m : M) (qi : Nat) (vs : List Int) (t : Tk), s.ok P.ps i n r → Good ds n vs t → t.words.length + s.cost c < 16777216 → 3 * s.dep + F ≤ f → Qst P ds m ki si dd ti qi pi vs t →
    Lut P ds m ki si dd ti qi pi (m_lw f 1 [.obj pi, s.enc, .obj si, .obj ki] m) (s.run ds cal vs t)
  | .set k e, r, f, m, qi, vs, t, h, g, hw, hf, p => by
    obtain ⟨f, rfl⟩ : ∃ j, f = j + 1 := ⟨f - 1, by simp only [Stp.dep] at hf; omega⟩
    have e1 := lreck p g.len g.num h.2
    have hs := p.sl
    simp only [Stp.run]
    cases o : e.ev vs with
    | none =>
      rw [o] at e1; simp at e1
      exact p.out (by simp [lw1, mkF, b__law_step, Stp.enc, e1])
    | some j =>
      rw [o] at e1; simp at e1
      obtain ⟨p2, f2⟩ := p.put k j
      have hix := ixN_k (n := vs.length) (k := k) (by rw [g.len]; exact h.1)
      exact ⟨_, qi, by simp [lw1, mkF, b__law_step, Stp.enc, e1, gInW, hs, hix, List.map_set] <;> rfl, p2, f2.sub (by simp), .inl rfl⟩
  | .say e, r, f, m, qi, vs, t, h, g, hw, hf, p => by
    obtain ⟨f, rfl⟩ : ∃ j, f = j + 1 := ⟨f - 1, by simp only [Stp.dep] at hf; omega⟩
    have e1 := lreck p g.len g.num h
    simp only [Stp.run]
    simp only [Stp.cost] at hw
    cases o : e.ev vs with
    | none =>
      rw [o] at e1; simp at e1
      exact p.out (by simp [lw1, mkF, b__law_step, Stp.enc, e1])
    | some j =>
      rw [o] at e1; simp at e1
      obtain ⟨a2, f2⟩ := lsay_ok p.ast (n := j)
      have hq := p.ast.hq
      have hk := p.ast.dct
      have hwl : t.words.length < 16777216 := by omega
      exact ⟨_, qi, by simp [lw1, mkF, b__law_step, Stp.enc, e1, gInW, hk, hq, hwl] <;> rfl, p.asked a2 (f2.sub (by simp)) (.inl rfl), f2.sub (by simp), .inl rfl⟩
  | .give e k, r, f, m, qi, vs, t, h, g, hw, hf, p => by
    obtain ⟨f, rfl⟩ : ∃ j, f = j + 1 := ⟨f - 1, by simp only [Stp.dep] at hf; omega⟩
    have e1 := lreck p g.len g.num h.1
    simp only [Stp.run]
    cases o : e.ev vs with
    | none =>
      rw [o] at e1; simp at e1
      exact p.out (by simp [lw1, mkF, b__law_step, Stp.enc, e1])
    | some j =>
      rw [o] at e1; simp at e1
      obtain ⟨m1, q1, e2, a1, l1, f1⟩ := lgift_ok p.ast j g.told hdl
      have p1 := p.asked a1 (f1.sub (by simp)) (.inr l1)
      have hs := p1.sl
      have f1' : Fr [si, ki, ti, qi] m m1 := f1.sub (by simp)
      rcases eg : gift ds j t with ⟨od, t'⟩
      rw [eg] at e2 a1 p1
      dsimp only at e2 a1 p1 ⊢
      rw [eg]
      cases od with
      | none => exact ⟨m1, q1, by simp [lw1, mkF, b__law_step, Stp.enc, e1, gInW, e2, gD, m__law_given, b__law_given], p1, f1', .inr l1⟩
      | some d =>
        cases d with
        | throw a => exact ⟨m1, q1, by simp [lw1, mkF, b__law_step, Stp.enc, e1, gInW, e2, gD, m__law_given, b__law_given], p1, f1', .inr l1⟩
        | shut => exact ⟨m1, q1, by simp [lw1, mkF, b__law_step, Stp.enc, e1, gInW, e2, gD, m__law_given, b__law_given], p1, f1', .inr l1⟩
        | ask a =>
          cases k with
          | none => exact ⟨m1, q1, by simp [lw1, mkF, b__law_step, Stp.enc, e1, gInW, e2, gD, m__law_given, b__law_given], p1, f1', .inr l1⟩
          | some k =>
            obtain ⟨p2, f2⟩ := p1.put k a
            have hix := ixN_k (n := vs.length) (k := k) (by rw [g.len]; exact h.2 k rfl)
            exact ⟨_, q1, by simp [lw1, mkF, b__law_step, Stp.enc, e1, gInW, e2, gD, m__law_given, b__law_given, hs, hix, List.map_set] <;> rfl, p2, f1'.up f2 (by simp), .inr l1⟩
  | .hand w es k, r, f, m, qi, vs, t, h, g, hw, hf, p => by
    obtain ⟨f, rfl⟩ : ∃ j, f = j + 2 := ⟨f - 2, by simp only [Stp.dep] at hf; omega⟩
    simp only [Stp.run]
    simp only [Stp.cost] at hw
    simp only [Stp.dep] at hf
    obtain ⟨W, eW, hk⟩ := ps_get h.2.1
    have ok := hP.at_ w W eW
    have hpr := p.pr
    have hsl := p.sl
    have hix : L2.atI (P.map Work.enc) (w : Int) = some W.enc := atI_nat (by simp [eW])
    have hwk : W.enc = .tup [.int W.params, .int W.slots, .tup W.body.encs] := rfl
    have p2 := ok.p2
    have psl := ok.psl
    have s4 := ok.s4
    obtain ⟨m1, hm1⟩ : ∃ m1, m1 = m ++ [O.lst (es.map fun e => oD (e.ev vs))] := ⟨_, rfl⟩
    have fm1 : Fr [] m m1 := by rw [hm1]; exact Fr.refl.add _
    have g1 : m1[m.length]? = some (.lst (es.map fun e => oD (e.ev vs))) := by rw [hm1]; exact get_new
    have hcomp := fun (kk : D) (x7 x8 x9 : Option D) => compG_args (ys := es.map Rk.enc) p g.len g.num (τ := [some (.obj pi), some (.tup [.wd 18, .int w, .tup (es.map Rk.enc), kk]), some (.obj si), some (.obj ki), some (.int W.params), some (.int W.slots), some (.tup W.body.encs), x7, x8, x9]) rfl rfl es [] h.2.2.1 (by simp; omega)
    simp only [List.nil_append] at hcomp
    have p1 : Qst P ds m1 ki si dd ti qi pi vs t := ⟨p.ast.fr fm1 (by simp) (by simp) (by simp) (by simp), fm1.keeps (by simp) p.sl, fm1.keeps (by simp) p.pr, p.sd, p.st, p.sq, p.sp, p.pt, p.pq⟩
    have hany := evs_any (vs := vs) (es := es)
    have hNI := args_NI (vs := vs) (es := es)
    cases o : evs vs es with
    | none =>
      rw [o] at hany
      have hN : gNoneIn m1 .non (.obj m.length) = some (.bl true) := by
        unfold gNoneIn
        simp only [items_obj, g1]
        rw [if_pos hNI, hany]
      exact ⟨m1, qi, by simp [lw1, lw3, mkF, b__law_step, b__law_handed, Stp.enc, hpr, hix, hwk, hcomp, ← hm1, hN], p1, fm1.sub (by simp), .inl rfl⟩
    | some ns =>
      rw [o] at hany
      obtain ⟨hany1, hany2⟩ := hany
      obtain ⟨nl, nn⟩ := evs_ok g.len g.num h.2.2.1 o
      have hN : gNoneIn m1 .non (.obj m.length) = some (.bl false) := by
        unfold gNoneIn
        simp only [items_obj, g1]
        rw [if_pos hNI, hany2]
      have g1' : m1[m.length]? = some (.lst (ns.map .int)) := by rw [← hany1]; exact g1
      obtain ⟨m2, hm2⟩ : ∃ m2, m2 = m1 ++ [O.lst ((ns ++ List.replicate (W.slots - W.params) 0).map .int)] := ⟨_, rfl⟩
      have fm2 : Fr [] m1 m2 := by rw [hm2]; exact Fr.refl.add _
      have fm : Fr [] m m2 := fm1.trans fm2
      have lm1 : m1.length = m.length + 1 := by rw [hm1]; simp
      have lsi := get_lt p.sl
      have lpi := get_lt p.pr
      have ldd := get_lt p.ast.hd
      have lti := get_lt p.ast.ht
      have lqi := get_lt p.ast.hq
      have lki := get_lt p.ast.dct
      have pw : Qst P ds m2 ki m1.length dd ti qi pi (ns ++ List.replicate (W.slots - W.params) 0) t :=
        ⟨p.ast.fr fm (by simp) (by simp) (by simp) (by simp), by rw [hm2]; simp, fm.keeps (by simp) p.pr, by omega, by omega, by omega, by omega, p.pt, p.pq⟩
      obtain ⟨d, m3, q3, e3, ld, a3, f3, h3⟩ := hr w W ns t f m2 ki m1.length dd ti qi pi h.1 eW (by rw [nl]; exact hk) nn g.told hw (by omega) pw
      have ci := hc w ns t h.1 (by rw [nl]; exact h.2.1) nn g.told
      have f3' : Fr [ki, ti, qi] m m3 := (fm.sub (S' := [ki, ti, qi]) (by simp)).up f3 fun k hk hl => by
        simp at hk ⊢
        rcases hk with rfl | hk
        · omega
        · exact hk
      have h3' : q3 = qi ∨ m.length ≤ q3 := h3.imp id fun z => by have := fm.1; omega
      have p3 := p.asked a3 f3' h3'
      have hs3 := p3.sl
      have f3s : Fr [si, ki, ti, qi] m m3 := f3'.sub (by simp)
      have hk1 : (W.slots : Int) - (W.params : Int) = ((W.slots - W.params : Nat) : Int) := by omega
      have hR : ∀ kk x8 x9, lRep (lLst (lCons (eC (.int 0)) lNil)) (eOp gSub (eVar 5) (eVar 4)) [some (.obj pi), some (.tup [.wd 18, .int w, .tup (es.map Rk.enc), kk]), some (.obj si), some (.obj ki), some (.int W.params), some (.int W.slots), some (.tup W.body.encs), some (.obj m.length), x8, x9] m1 = .ok (List.replicate (W.slots - W.params) (.int 0)) m1 := fun kk x8 x9 => lRep_nat (m1 := m1) (by simp) (by simp [hk1]) (by omega)
      have hk4 : ns.length + (W.slots - W.params) ≤ 16777216 := by omega
      have hm2' : m1 ++ [O.lst (List.map D.int ns ++ List.replicate (W.slots - W.params) (.int 0))] = m2 := by rw [hm2]; simp
      rcases ec : cal w ns t with ⟨y, t'⟩
      rw [ec] at ld a3 p3 ci
      dsimp only at ld a3 p3 ci ⊢
      rw [ec]
      cases y with
      | go => exact absurd rfl ci.2.2.2.2.1
      | leave => exact absurd rfl ci.2.2.2.2.2
      | fault j =>
        rcases ld with rfl | ⟨_, z⟩
        · simp at e3
          exact ⟨m3, q3, by simp [lw1, lw3, mkF, b__law_step, b__law_handed, Stp.enc, hpr, hix, hwk, hcomp, ← hm1, hN, g1', -lRep_eq, hR, hk4, hm2', e3], p3, f3s, h3'⟩
        · cases z
      | shut =>
        rcases ld with rfl | ⟨_, z⟩
        · simp at e3
          exact ⟨m3, q3, by simp [lw1, lw3, mkF, b__law_step, b__law_handed, Stp.enc, hpr, hix, hwk, hcomp, ← hm1, hN, g1', -lRep_eq, hR, hk4, hm2', e3], p3, f3s, h3'⟩
        · cases z
      | stop =>
        rcases ld with rfl | ⟨_, z⟩
        · simp at e3
          exact ⟨m3, q3, by simp [lw1, lw3, mkF, b__law_step, b__law_handed, Stp.enc, hpr, hix, hwk, hcomp, ← hm1, hN, g1', -lRep_eq, hR, hk4, hm2', e3], p3, f3s, h3'⟩
        · cases z
      | fin j =>
        cases k with
        | none =>
          rcases ld with rfl | ⟨rfl, z⟩
          · simp at e3
            exact ⟨m3, q3, by simp [lw1, lw3, mkF, b__law_step, b__law_handed, Stp.enc, hpr, hix, hwk, hcomp, ← hm1, hN, g1', -lRep_eq, hR, hk4, hm2', e3], p3, f3s, h3'⟩
          · exact ⟨m3, q3, by simp [lw1, lw3, mkF, b__law_step, b__law_handed, Stp.enc, hpr, hix, hwk, hcomp, ← hm1, hN, g1', -lRep_eq, hR, hk4, hm2', e3], p3, f3s, h3'⟩
        | some k =>
          have hixk := ixN_k (n := vs.length) (k := k) (by rw [g.len]; exact h.2.2.2 k rfl)
          obtain ⟨p4, f4⟩ := p3.put k j
          have f5 := f3s.up f4 (by simp)
          rcases ld with rfl | ⟨rfl, z⟩
          · simp at e3
            exact ⟨_, q3, by simp [lw1, lw3, mkF, b__law_step, b__law_handed, Stp.enc, hpr, hix, hwk, hcomp, ← hm1, hN, g1', -lRep_eq, hR, hk4, hm2', e3, hs3, hixk, List.map_set] <;> rfl, p4, f5, h3'⟩
          · cases z
            exact ⟨_, q3, by simp [lw1, lw3, mkF, b__law_step, b__law_handed, Stp.enc, hpr, hix, hwk, hcomp, ← hm1, hN, g1', -lRep_eq, hR, hk4, hm2', e3, hs3, hixk, List.map_set] <;> rfl, p4, f5, h3'⟩
  | .ife e a b, r, f, m, qi, vs, t, h, g, hw, hf, p => by
    simp only [Stp.dep] at hf
    obtain ⟨f, rfl⟩ : ∃ j, f = j + 1 := ⟨f - 1, by omega⟩
    have e1 := lreck p g.len g.num h.1
    simp only [Stp.run]
    simp only [Stp.cost] at hw
    cases o : e.ev vs with
    | none =>
      rw [o] at e1; simp at e1
      exact p.out (by simp [lw1, mkF, b__law_step, Stp.enc, e1])
    | some j =>
      rw [o] at e1; simp at e1
      have hj := Rk.ev_ok g.len g.num e h.1 o
      by_cases hz : j = 0
      · obtain ⟨m1, q1, e2, r2⟩ := LutL.bd (b := b) (B := 3 * b.dep + F) (k := f) (by omega) fun f' hf' => Bd.lawL hd hdl hP hc hr b f' m qi vs t (some (.tup b.encs)) none none h.2.2 g (by omega) hf' p
        have hnz : ¬ (0 < j) := by omega
        refine ⟨m1, q1, ?_, ?_⟩
        · simp only [if_pos hz]
          simp [lw1, mkF, b__law_step, Stp.enc, e1, gInW, hnz, e2]
        · simp only [if_pos hz]; exact r2
      · obtain ⟨m1, q1, e2, r2⟩ := LutL.bd (b := a) (B := 3 * a.dep + F) (k := f) (by omega) fun f' hf' => Bd.lawL hd hdl hP hc hr a f' m qi vs t (some (.tup a.encs)) none none h.2.1 g (by omega) hf' p
        have hnz : 0 < j := by have := hj.1; omega
        refine ⟨m1, q1, ?_, ?_⟩
        · simp only [if_neg hz]
          simp [lw1, mkF, b__law_step, Stp.enc, e1, gInW, hnz, e2]
        · simp only [if_neg hz]; exact r2
  | .round e b, r, f, m, qi, vs, t, h, g, hw, hf, p => by
    simp only [Stp.dep] at hf
    obtain ⟨f, rfl⟩ : ∃ j, f = j + 2 := ⟨f - 2, by omega⟩
    have e1 := lreck p g.len g.num h.1
    simp only [Stp.run]
    simp only [Stp.cost] at hw
    cases o : e.ev vs with
    | none =>
      rw [o] at e1; simp at e1
      exact p.out (by simp [lw1, mkF, b__law_step, Stp.enc, e1])
    | some j =>
      rw [o] at e1; simp at e1
      have hj := Rk.ev_ok g.len g.num e h.1 o
      have hle := top_le o
      have hmul : (j % 10).toNat * b.cost c ≤ e.top * b.cost c := Nat.mul_le_mul_right _ hle
      have hk : j % 10 = (((j % 10).toNat : Nat) : Int) := by omega
      have hk9 : (j % 10).toNat < 1000000 := by omega
      have hb : BdQ P ds n c cal ki si dd ti pi b f := fun m qi vs t g hw p => LutL.bd (b := b) (B := 3 * b.dep + F) (k := f) (by omega) fun f' hf' => Bd.lawL hd hdl hP hc hr b f' m qi vs t (some (.tup b.encs)) none none h.2 g hw hf' p
      obtain ⟨m1, q1, e2, r2⟩ := lround_ok (fun vs t g => (Bd.inv hd hc b vs t h.2 g).1) hb (A2 := some (.int (j % 10))) (rangeFrom 0 (j % 10).toNat) m qi vs t none none g (by rw [rangeFrom_len]; omega) p
      rw [rangeFrom_len] at e2 r2
      refine ⟨m1, q1, ?_, r2⟩
      have hR : iR (eVar 2) [some (.obj pi), some (.tup b.encs), some (.int (j % 10)), some (.obj si), some (.obj ki), none, none] m = .ok (rangeFrom 0 (j % 10).toNat, none) m := iR_nat (n := (j % 10).toNat) (by simp [← hk]) hk9
      have := LQ.toR (f := sFor (gN 5) (iR (eVar 2)) (lb__law_rounds_0 (m_lw f))) (τ := [some (.obj pi), some (.tup b.encs), some (.int (j % 10)), some (.obj si), some (.obj ki), none, none]) (m := m) e2 (by rw [sFor_eq, hR]; rfl)
      have e3 : m_lw (f + 1) 2 [.obj pi, .tup b.encs, .int (j % 10), .obj si, .obj ki] m = .ok (lwD (iter (j % 10).toNat (b.run ds cal) vs t).1) m1 := this
      simp [lw1, mkF, b__law_step, Stp.enc, e1, gInW, e3]
  | .leave, r, f, m, qi, vs, t, h, g, hw, hf, p => by
    obtain ⟨f, rfl⟩ : ∃ j, f = j + 1 := ⟨f - 1, by simp only [Stp.dep] at hf; omega⟩
    simp only [Stp.run]
    exact p.out (by simp [lw1, mkF, b__law_step, Stp.enc])
  | .fault e, r, f, m, qi, vs, t, h, g, hw, hf, p => by
    obtain ⟨f, rfl⟩ : ∃ j, f = j + 1 := ⟨f - 1, by simp only [Stp.dep] at hf; omega⟩
    have e1 := lreck p g.len g.num h
    simp only [Stp.run]
    cases o : e.ev vs with
    | none =>
      rw [o] at e1; simp at e1
      exact p.out (by simp [lw1, mkF, b__law_step, Stp.enc, e1])
    | some j =>
      rw [o] at e1; simp at e1
      exact p.out (by simp [lw1, mkF, b__law_step, Stp.enc, e1, gInW])
  | .fin e, r, f, m, qi, vs, t, h, g, hw, hf, p => by
    obtain ⟨f, rfl⟩ : ∃ j, f = j + 1 := ⟨f - 1, by simp only [Stp.dep] at hf; omega⟩
    have e1 := lreck p g.len g.num h
    simp only [Stp.run]
    cases o : e.ev vs with
    | none =>
      rw [o] at e1; simp at e1
      exact p.out (by simp [lw1, mkF, b__law_step, Stp.enc, e1])
    | some j =>
      rw [o] at e1; simp at e1
      exact p.out (by simp [lw1, mkF, b__law_step, Stp.enc, e1, gInW])
  | .tri a d l, r, f, m, qi, vs, t, h, g, hw, hf, p => by
    simp only [Stp.dep] at hf
    simp only [Stp.cost] at hw
    obtain ⟨f, rfl⟩ : ∃ j, f = j + 2 := ⟨f - 2, by omega⟩
    obtain ⟨m1, q1, e1, p1, f1, h1⟩ := LutL.bd (b := a) (B := 3 * a.dep + F) (k := f) (by omega) fun f' hf' => Bd.lawL hd hdl hP hc hr a f' m qi vs t (some (.tup a.encs)) none none h.1 g (by omega) hf' p
    have i1 := Bd.inv hd hc a vs t h.1 g
    simp only [Stp.run]
    rcases er : a.run ds cal vs t with ⟨y1, vs1, t1⟩
    rw [er] at e1 p1 i1
    dsimp only at e1 p1 i1 ⊢
    obtain ⟨i1, i1'⟩ := i1
    have i2 := (Ct.inv hd hc d y1 vs1 t1 h.2.1 i1' i1).1
    have w1 : t1.words.length ≤ t.words.length + a.cost c := i1.words
    have st4 : m_lw (f + 2) 1 [.obj pi, (Stp.tri a d l).enc, .obj si, .obj ki] m = m_lw (f + 1) 4 [.obj pi, (Stp.tri a d l).enc, .obj si, .obj ki] m := by
      simp [lw1, mkF, b__law_step, Stp.enc]
      generalize m_lw (f + 1) 4 [.obj pi, .tup [.wd 22, .tup a.encs, d.enc, .tup l.encs], .obj si, .obj ki] m = rr
      cases rr <;> simp
    rw [st4]
    have s1 : (sSet 4 (eCall 4 (m_lw f 0) (lCons (eVar 0) (lCons (eOp gIx (eVar 1) (eC (.int 1))) (lCons (eVar 2) (lCons (eVar 3) lNil)))))) [some (.obj pi), some (Stp.tri a d l).enc, some (.obj si), some (.obj ki), none, none] m = .nx [some (.obj pi), some (Stp.tri a d l).enc, some (.obj si), some (.obj ki), some (lwD y1), none] m1 := by
      simp [Stp.enc, e1]
    show Lut P ds m ki si dd ti qi pi (toR (sSeq (sSet 4 (eCall 4 (m_lw f 0) (lCons (eVar 0) (lCons (eOp gIx (eVar 1) (eC (.int 1))) (lCons (eVar 2) (lCons (eVar 3) lNil)))))) (sSeq (lIf (m_lw f)) (lTail (m_lw f))) [some (.obj pi), some (Stp.tri a d l).enc, some (.obj si), some (.obj ki), none, none] m)) _
    -- the last body, behind what came
    have lastB : ∀ (m2 : M) (q2 : Nat) (vs2 : List Int) (t2 : Tk) (y2 : Way), (gEqD wds0 m2 (lwD y2) (.tup [.wd 27]) = some (.bl false)) → Good ds n vs2 t2 → t2.words.length + l.cost c < 16777216 → Qst P ds m2 ki si dd ti q2 pi vs2 t2 → Fr [si, ki, ti, qi] m m2 → (q2 = qi ∨ m.length ≤ q2) →
        Lut P ds m ki si dd ti qi pi (toR (lTail (m_lw f) [some (.obj pi), some (Stp.tri a d l).enc, some (.obj si), some (.obj ki), some (lwD y2), none] m2)) (match l.run ds cal vs2 t2 with
          | (.go, vs3, t3) => (y2, vs3, t3)
          | r => r) := by
      intro m2 q2 vs2 t2 y2 hy g2 hw2 p2 f2 h2
      obtain ⟨m3, q3, e3, p3, f3, h3⟩ := LutL.bd (b := l) (B := 3 * l.dep + F) (k := f) (by omega) fun f' hf' => Bd.lawL hd hdl hP hc hr l f' m2 q2 vs2 t2 (some (.tup l.encs)) none none h.2.2 g2 hw2 hf' p2
      have e4 := lTail_ok (a := a) (d := d) (x5 := none) hy e3
      rcases er3 : l.run ds cal vs2 t2 with ⟨y3, vs3, t3⟩
      rw [er3] at e4 p3
      cases y3 with
      | go => exact ⟨m3, q3, e4, p3, Fr.q (S := []) f2 f3 h2, or_q h2 h3 f2.1⟩
      | leave => exact ⟨m3, q3, e4, p3, Fr.q (S := []) f2 f3 h2, or_q h2 h3 f2.1⟩
      | fault j => exact ⟨m3, q3, e4, p3, Fr.q (S := []) f2 f3 h2, or_q h2 h3 f2.1⟩
      | fin j => exact ⟨m3, q3, e4, p3, Fr.q (S := []) f2 f3 h2, or_q h2 h3 f2.1⟩
      | shut => exact ⟨m3, q3, e4, p3, Fr.q (S := []) f2 f3 h2, or_q h2 h3 f2.1⟩
      | stop => exact ⟨m3, q3, e4, p3, Fr.q (S := []) f2 f3 h2, or_q h2 h3 f2.1⟩
    -- where nothing is caught
    have pass : y1 ≠ .stop → (gEqD wds0 m1 (lwD y1) (.tup [.wd 27]) = some (.bl false)) → (d = .no ∨ lwD y1 = .non ∨ (∃ x xs, lwD y1 = .tup (.wd x :: xs) ∧ x ≠ 7)) → d.run ds cal y1 vs1 t1 = (y1, vs1, t1) → Lut P ds m ki si dd ti qi pi (toR (sSeq (sSet 4 (eCall 4 (m_lw f 0) (lCons (eVar 0) (lCons (eOp gIx (eVar 1) (eC (.int 1))) (lCons (eVar 2) (lCons (eVar 3) lNil)))))) (sSeq (lIf (m_lw f)) (lTail (m_lw f))) [some (.obj pi), some (Stp.tri a d l).enc, some (.obj si), some (.obj ki), none, none] m)) (match d.run ds cal y1 vs1 t1 with
        | (.stop, vs2, t2) => (.stop, vs2, t2)
        | (y2, vs2, t2) => match l.run ds cal vs2 t2 with
          | (.go, vs3, t3) => (y2, vs3, t3)
          | r => r) := by
      intro hs hy hno hrun
      rw [seq_nx s1 (seq_nx (lIf_pass hno) rfl), hrun]
      have R := lastB m1 q1 vs1 t1 y1 hy (i1.good hs) (by omega) p1 f1 h1
      cases y1 with
      | stop => exact absurd rfl hs
      | go => exact R
      | leave => exact R
      | fault j => exact R
      | fin j => exact R
      | shut => exact R
    cases y1 with
    | go => exact pass (by simp) (by simp) (.inr (.inl rfl)) (by cases d <;> simp [Ct.run])
    | leave => exact pass (by simp) (by simp) (.inr (.inr ⟨21, [], rfl, by decide⟩)) (by cases d <;> simp [Ct.run])
    | fin j => exact pass (by simp) (by simp) (.inr (.inr ⟨5, _, rfl, by decide⟩)) (by cases d <;> simp [Ct.run])
    | shut => exact pass (by simp) (by simp) (.inr (.inr ⟨2, [], rfl, by decide⟩)) (by cases d <;> simp [Ct.run])
    | stop =>
      have hrun : d.run ds cal .stop vs1 t1 = (.stop, vs1, t1) := by cases d <;> simp [Ct.run]
      rw [hrun]
      rw [seq_nx s1 (seq_nx (lIf_pass (.inr (.inr ⟨27, [], rfl, by decide⟩))) rfl)]
      exact ⟨m1, q1, by simp [lTail], p1, f1, h1⟩
    | fault j =>
      cases d with
      | no => exact pass (by simp) (by simp) (.inl rfl) (by simp [Ct.run])
      | yes k b =>
        obtain ⟨mk, ek, pk, fk⟩ : ∃ mk, (sIf (tB (eOp gIsN (eOp gIx (eOp gIx (eVar 1) (eC (.int 2))) (eC (.int 0))) (eC .non))) (sAsg (eOp gIx (eVar 4) (eC (.int 1))) (gS (eVar 2) (eOp gIx (eOp gIx (eVar 1) (eC (.int 2))) (eC (.int 0))))) sNx) [some (.obj pi), some (Stp.tri a (.yes k b) l).enc, some (.obj si), some (.obj ki), some (lwD (.fault j)), none] m1 = .nx [some (.obj pi), some (Stp.tri a (.yes k b) l).enc, some (.obj si), some (.obj ki), some (lwD (.fault j)), none] mk ∧ Qst P ds mk ki si dd ti q1 pi (put k j vs1) t1 ∧ Fr [si] m1 mk := by
          cases k with
          | none => exact ⟨m1, by simp [Stp.enc, Ct.enc], p1, .refl⟩
          | some k =>
            obtain ⟨p2, f2⟩ := p1.put k j
            have hs1 := p1.sl
            have hix := ixN_k (n := vs1.length) (k := k) (by rw [i1.len]; exact h.2.1.1 k rfl)
            exact ⟨_, by simp [Stp.enc, Ct.enc, hs1, hix, List.map_set] <;> rfl, p2, f2⟩
        have pn := put_ok (k := k) i1.len i1.num (i := j) i1.way
        have gk : Good ds n (put k j vs1) t1 := ⟨pn.1, pn.2, i1.told fun z => by cases z⟩
        simp only [Ct.dep] at hf
        simp only [Ct.cost] at hw
        obtain ⟨m2, q2, e2, p2, f2, h2⟩ := LutL.bd (b := b) (B := 3 * b.dep + F) (k := f) (by omega) fun f' hf' => Bd.lawL hd hdl hP hc hr b f' mk q1 (put k j vs1) t1 (some (.tup b.encs)) none none h.2.1.2 gk (by omega) hf' pk
        obtain ⟨i2, l2⟩ := Bd.inv hd hc b (put k j vs1) t1 h.2.1.2 gk
        have f12 : Fr [si, ki, ti, qi] m mk := f1.up fk (by simp)
        have f13 := Fr.q (S := []) f12 f2 h1
        have h13 := or_q h1 h2 f12.1
        simp only [Ct.run]
        rcases er2 : b.run ds cal (put k j vs1) t1 with ⟨y2, vs2, t2⟩
        rw [er2] at e2 p2 i2 l2
        have w2 : t2.words.length ≤ t1.words.length + b.cost c := i2.words
        have s2 : lIf (m_lw f) [some (.obj pi), some (Stp.tri a (.yes k b) l).enc, some (.obj si), some (.obj ki), some (lwD (.fault j)), none] m1 = .nx [some (.obj pi), some (Stp.tri a (.yes k b) l).enc, some (.obj si), some (.obj ki), some (lwD y2), none] m2 := by
          unfold lIf
          rw [sIf_eq]
          have ht : (tAnd (tB (eOp gIsN (eOp gIx (eVar 1) (eC (.int 2))) (eC .non))) (tAnd (tB (eOp gIsN (eVar 4) (eC .non))) (tB (eOp gEq (eOp gIx (eVar 4) (eC (.int 0))) (eC (.wd 7)))))) [some (.obj pi), some (Stp.tri a (.yes k b) l).enc, some (.obj si), some (.obj ki), some (lwD (.fault j)), none] m1 = .ok true m1 := by simp [Stp.enc, Ct.enc]
          rw [ht]
          exact seq_nx ek (by simp [Stp.enc, Ct.enc, e2])
        rw [seq_nx s1 (seq_nx s2 rfl)]
        have go2 : y2 ≠ .stop → (gEqD wds0 m2 (lwD y2) (.tup [.wd 27]) = some (.bl false)) → _ := fun hs hy => lastB m2 q2 vs2 t2 y2 hy (i2.good hs) (by omega) p2 f13 h13
        cases y2 with
        | stop => exact ⟨m2, q2, by simp [lTail], p2, f13, h13⟩
        | go => exact go2 (by simp) (by simp)
        | leave => exact go2 (by simp) (by simp)
        | fault j2 => exact go2 (by simp) (by simp)
        | fin j2 => exact go2 (by simp) (by simp)
        | shut => exact go2 (by simp) (by simp)
theorem Bd.lawL (hd : ∀ d ∈ ds, d.ok) (hdl : ds.length < 1000000) (hP : P.ok) (hc : CalOk ds P.ps i c cal) (hr : CalL P ds i c cal F) : ∀ (b : Bd) {r : Bool} (f : Nat) (m : M) (qi : Nat) (vs : List Int) (t : Tk) (A x4 x5 : Option D), b.ok P.ps i n r → Good ds n vs t → t.words.length + b.cost c < 16777216 → 3 * b.dep + F ≤ f → Qst P ds m ki si dd ti qi pi vs t →
    LutL P ds m ki si dd ti qi pi (loop (gN 4) (lb__law_walk_0 (m_lw f)) b.encs [some (.obj pi), A, some (.obj si), some (.obj ki), x4, x5] m) (b.run ds cal vs t)
  | .nil, r, f, m, qi, vs, t, A, x4, x5, h, g, hw, hf, p => by
    simp only [Bd.run, Bd.encs]
    exact ⟨m, qi, .inl ⟨_, rfl⟩, p, .refl, .inl rfl⟩
  | .cons s b, r, f, m, qi, vs, t, A, x4, x5, h, g, hw, hf, p => by
    simp only [Bd.dep] at hf
    simp only [Bd.cost] at hw
    obtain ⟨m1, q1, e1, p1, f1, h1⟩ := Stp.law hd hdl hP hc hr s f m qi vs t h.1 g (by omega) (by omega) p
    have a1 := (Stp.inv hd hc s vs t h.1 g).1
    simp only [Bd.run, Bd.encs]
    rcases er : s.run ds cal vs t with ⟨y1, vs1, t1⟩
    rw [er] at e1 p1 a1
    cases y1 with
    | go =>
      simp at e1
      obtain ⟨m2, q2, e2, p2, f2, h2⟩ := Bd.lawL hd hdl hP hc hr b f m1 q1 vs1 t1 A (some s.enc) (some .non) h.2 (a1.good fun z => by cases z) (by have := a1.words; dsimp only at this; omega) (by omega) p1
      refine ⟨m2, q2, ?_, p2, Fr.q (S := []) f1 f2 h1, or_q h1 h2 f1.1⟩
      have : loop (gN 4) (lb__law_walk_0 (m_lw f)) (s.enc :: b.encs) [some (.obj pi), A, some (.obj si), some (.obj ki), x4, x5] m = loop (gN 4) (lb__law_walk_0 (m_lw f)) b.encs [some (.obj pi), A, some (.obj si), some (.obj ki), some s.enc, some .non] m1 := by
        simp [loop, lb__law_walk_0, e1]
      rw [this]
      exact e2
    | leave =>
      simp at e1
      exact ⟨m1, q1, (show _ = _ by simp [loop, lb__law_walk_0, e1]), p1, f1, h1⟩
    | fault j =>
      simp at e1
      exact ⟨m1, q1, (show _ = _ by simp [loop, lb__law_walk_0, e1]), p1, f1, h1⟩
    | fin j =>
      simp at e1
      exact ⟨m1, q1, (show _ = _ by simp [loop, lb__law_walk_0, e1]), p1, f1, h1⟩
    | shut =>
      simp at e1
      exact ⟨m1, q1, (show _ = _ by simp [loop, lb__law_walk_0, e1]), p1, f1, h1⟩
    | stop =>
      simp at e1
      exact ⟨m1, q1, (show _ = _ by simp [loop, lb__law_walk_0, e1]), p1, f1, h1⟩
end
end
end Hb

set_option linter.all false
set_option autoImplicit false
set_option maxRecDepth 10000
set_option maxHeartbeats 1000000
/-! Hy: the law's alike and == of what is handed. -/
namespace Hb
open PySem L2 Sh Mi Tw
/-- a value without objects, at most k tuples around -/
inductive Pl : Nat → D → Prop
  | int {k : Nat} {i : Int} : Pl k (.int i)
  | non {k : Nat} : Pl k .non
  | wd {k i : Nat} : i < 24 → Pl k (.wd i)
  | tup {k : Nat} {xs : List D} : (∀ x ∈ xs, Pl k x) → xs.length < 1000000 → Pl (k + 1) (.tup xs)
theorem compG_none {ok : M → Prop} {i : Nat} {tt : Sl → M → R Bool} {te : Sl → M → R D} {τ : Sl} {acc : List D} {m : M} (h : ok m) : ∀ (ys : List D), (∀ y ∈ ys, tt (τ.set i (some y)) m = .ok false m) → compG ok i tt te τ ys acc m = .ok acc m
  | [], _ => compG_nil h
  | y :: ys, hy => by
    rw [compG_cons h, hy y List.mem_cons_self]
    simpa using compG_none h ys fun z hz => hy z (List.mem_cons_of_mem _ hz)
theorem mem_range {n : Nat} {y : D} (h : y ∈ rangeFrom 0 n) : ∃ k : Nat, k < n ∧ y = .int k := by
  obtain ⟨j, hj, e⟩ := List.getElem_of_mem h
  have := rangeFrom_get (List.getElem?_eq_some_iff.mpr ⟨hj, e⟩)
  rw [rangeFrom_len] at hj
  exact ⟨j, hj, by simpa using this⟩
/-- the items are alike, one by one -/
theorem alike_items {x y : D} {xs : List D} {m : M} {rec : Nat → List D → M → R D} (hx : itemsOf m x = some xs) (hy : itemsOf m y = some xs) (gx : ∀ k : Nat, gIx m x (.int k) = L2.atI xs k) (gy : ∀ k : Nat, gIx m y (.int k) = L2.atI xs k) (hl : xs.length < 1000000) (hr : ∀ z ∈ xs, rec 0 [z, z] m = .ok (.bl true) m) :
    lLc 2 (iR (eCB gLen (lCons (eVar 1) lNil))) (tNot (tB (eCall 2 (rec 0) (lCons (eOp gIx (eVar 0) (eVar 2)) (lCons (eOp gIx (eVar 1) (eVar 2)) lNil))))) (eVar 2) [some x, some y, none] m = .ok [] m := by
  have hR : iR (eCB gLen (lCons (eVar 1) lNil)) [some x, some y, none] m = .ok (rangeFrom 0 xs.length, none) m := iR_nat (by simp [hy]) (by omega)
  rw [lLc_eq, hR]
  show compG (okS (rangeFrom 0 xs.length, none)) 2 _ _ _ (rangeFrom 0 xs.length) [] m = _
  refine compG_none okS_none _ fun d hd => ?_
  obtain ⟨k, hk, rfl⟩ := mem_range hd
  have ha : L2.atI xs (k : Int) = some xs[k] := atI_nat (by simp [hk])
  have e := hr xs[k] (List.getElem_mem _)
  simp [gx, gy, ha, e]
theorem alike_int {f : Nat} {i : Int} {m : M} : m_ga2 (f + 1) 0 [.int i, .int i] m = .ok (.bl true) m := by
  have w : m_ga2 (f + 1) 0 = mkF 2 3 (b__law_alike_v2 (m_ga2 f)) := rfl
  simp [w, mkF, b__law_alike_v2, -lLc_eq, -iR_eq]
theorem alike_non {f : Nat} {m : M} : m_ga2 (f + 1) 0 [.non, .non] m = .ok (.bl true) m := by
  have w : m_ga2 (f + 1) 0 = mkF 2 3 (b__law_alike_v2 (m_ga2 f)) := rfl
  simp [w, mkF, b__law_alike_v2, -lLc_eq, -iR_eq]
theorem alike_wd {f : Nat} {i : Nat} {m : M} : m_ga2 (f + 1) 0 [.wd i, .wd i] m = .ok (.bl true) m := by
  have w : m_ga2 (f + 1) 0 = mkF 2 3 (b__law_alike_v2 (m_ga2 f)) := rfl
  simp [w, mkF, b__law_alike_v2, -lLc_eq, -iR_eq]
theorem alike_F {L : Sl → M → R (List D)} {xs : List D} {m : M} (e : L [some (.tup xs), some (.tup xs), none] m = .ok [] m) : (sIf (tOr (tB (eCB gIsi (lCons (eVar 1) (lCons (eC (.ty .tuple)) lNil)))) (tB (eCB gIsi (lCons (eVar 1) (lCons (eC (.ty .list)) lNil))))) (sSeq (sIf (tOr (tB (eOp gNe (eCB gIsi (lCons (eVar 0) (lCons (eC (.ty .tuple)) lNil))) (eCB gIsi (lCons (eVar 1) (lCons (eC (.ty .tuple)) lNil))))) (tNot (tB (eIsi2 (eVar 0) (lCons (eC (.ty .tuple)) (lCons (eC (.ty .list)) lNil)))))) (sRet (eC (.bl false))) sNx) (sSeq (sIf (tB (eOp gNe (eCB gLen (lCons (eVar 0) lNil)) (eCB gLen (lCons (eVar 1) lNil)))) (sRet (eC (.bl false))) sNx) (sRet (eNil L)))) sNx) [some (.tup xs), some (.tup xs), none] m = .rt (.bl true) m := by
  simp [e]
theorem alike_G {L : Sl → M → R (List D)} {xs : List D} {m : M} {t u : Nat} (h1 : m[t]? = some (.lst xs)) (h2 : m[u]? = some (.lst xs)) (e : L [some (.obj t), some (.obj u), none] m = .ok [] m) : (sIf (tOr (tB (eCB gIsi (lCons (eVar 1) (lCons (eC (.ty .tuple)) lNil)))) (tB (eCB gIsi (lCons (eVar 1) (lCons (eC (.ty .list)) lNil))))) (sSeq (sIf (tOr (tB (eOp gNe (eCB gIsi (lCons (eVar 0) (lCons (eC (.ty .tuple)) lNil))) (eCB gIsi (lCons (eVar 1) (lCons (eC (.ty .tuple)) lNil))))) (tNot (tB (eIsi2 (eVar 0) (lCons (eC (.ty .tuple)) (lCons (eC (.ty .list)) lNil)))))) (sRet (eC (.bl false))) sNx) (sSeq (sIf (tB (eOp gNe (eCB gLen (lCons (eVar 0) lNil)) (eCB gLen (lCons (eVar 1) lNil)))) (sRet (eC (.bl false))) sNx) (sRet (eNil L)))) sNx) [some (.obj t), some (.obj u), none] m = .rt (.bl true) m := by
  simp [e, h1, h2]
theorem alike_tup {f : Nat} {xs : List D} {m : M} (hl : xs.length < 1000000) (h : ∀ z ∈ xs, m_ga2 f 0 [z, z] m = .ok (.bl true) m) : m_ga2 (f + 1) 0 [.tup xs, .tup xs] m = .ok (.bl true) m := by
  have e := alike_items (x := .tup xs) (y := .tup xs) (m := m) (rec := m_ga2 f) rfl rfl (fun _ => rfl) (fun _ => rfl) hl h
  have w : m_ga2 (f + 1) 0 = mkF 2 3 (b__law_alike_v2 (m_ga2 f)) := rfl
  rw [w]
  exact (congrArg toR (seq_rt (alike_F e))).trans rfl
theorem alike_pl {k : Nat} {x : D} (h : Pl k x) : ∀ (f : Nat) (m : M), k < f → m_ga2 f 0 [x, x] m = .ok (.bl true) m := by
  induction h with
  | int =>
    intro f m hf
    obtain ⟨f, rfl⟩ : ∃ g, f = g + 1 := ⟨f - 1, by omega⟩
    exact alike_int
  | non =>
    intro f m hf
    obtain ⟨f, rfl⟩ : ∃ g, f = g + 1 := ⟨f - 1, by omega⟩
    exact alike_non
  | wd _ =>
    intro f m hf
    obtain ⟨f, rfl⟩ : ∃ g, f = g + 1 := ⟨f - 1, by omega⟩
    exact alike_wd
  | @tup k xs hx hl ih =>
    intro f m hf
    obtain ⟨f, rfl⟩ : ∃ g, f = g + 1 := ⟨f - 1, by omega⟩
    exact alike_tup hl fun z hz => ih z hz f m (by omega)
theorem alike_lst {k f t u : Nat} {xs : List D} {m : M} (h1 : m[t]? = some (.lst xs)) (h2 : m[u]? = some (.lst xs)) (hl : xs.length < 1000000) (h : ∀ x ∈ xs, Pl k x) (hf : k < f) : m_ga2 (f + 1) 0 [.obj t, .obj u] m = .ok (.bl true) m := by
  have w : m_ga2 (f + 1) 0 = mkF 2 3 (b__law_alike_v2 (m_ga2 f)) := rfl
  have e := alike_items (x := .obj t) (y := .obj u) (m := m) (rec := m_ga2 f) (xs := xs) (by simp [h1]) (by simp [h2]) (fun _ => by simp [h1]) (fun _ => by simp [h2]) hl fun z hz => alike_pl (h z hz) f m hf
  rw [w]
  exact (congrArg toR (seq_rt (alike_G h1 h2 e))).trans rfl
theorem tb_str {i : Nat} (h : i < 24) : ∃ x, wds0[i]? = some x ∧ PyData.canLay0 (.str x) = true := by
  have : ∀ j : Fin 24, ∃ x, wds0[j.val]? = some x ∧ PyData.canLay0 (.str x) = true := by
    have h2 : ∀ j : Fin 24, (wds0[j.val]?).any (fun x => PyData.canLay0 (.str x)) = true := by decide +kernel
    intro j
    have := h2 j
    cases e : wds0[j.val]? with
    | none => rw [e] at this; cases this
    | some x => rw [e] at this; exact ⟨x, rfl, this⟩
  exact this ⟨i, h⟩
theorem pl_all {k : Nat} : ∀ (xs : List D), (∀ x ∈ xs, ∃ p, PyData.canLay0 p = true ∧ PyData.depth p ≤ k ∧ ∀ res, datR wds0 res x = some p) → ∃ ps, PyData.canLayAll0 ps = true ∧ PyData.depthAll ps ≤ k ∧ ∀ res, datAll wds0 res xs = some ps
  | [], _ => ⟨[], rfl, by simp [PyData.depthAll], fun _ => rfl⟩
  | x :: xs, h => by
    obtain ⟨p, a, b, c⟩ := h x List.mem_cons_self
    obtain ⟨ps, a', b', c'⟩ := pl_all xs fun y hy => h y (List.mem_cons_of_mem _ hy)
    exact ⟨p :: ps, by simp [PyData.canLayAll0, a, a'], by simp [PyData.depthAll]; omega, fun res => by simp [datAll, c, c']⟩
theorem pl_dat {k : Nat} {d : D} (h : Pl k d) : ∃ p, PyData.canLay0 p = true ∧ PyData.depth p ≤ k ∧ ∀ res, datR wds0 res d = some p := by
  induction h with
  | @int k i => exact ⟨.int i, rfl, by simp [PyData.depth], fun res => by simp [datR]⟩
  | @non k => exact ⟨.none, rfl, by simp [PyData.depth], fun res => by simp [datR]⟩
  | @wd k i hi =>
    obtain ⟨x, hx, hc⟩ := tb_str hi
    exact ⟨.str x, hc, by simp [PyData.depth], fun res => by simp [datR, hx]⟩
  | @tup k xs hx hl ih =>
    obtain ⟨ps, a, b, c⟩ := pl_all xs ih
    exact ⟨.tuple ps, by simpa [PyData.canLay0] using a, by simp [PyData.depth]; omega, fun res => by simp [datR, c]⟩
theorem handed_ok {k : Nat} {m : M} {h n p1 p2 d1 d2 : Nat} {L1 L2 : List D} (hh : m[h]? = some (.lst [.obj p1, .obj d1])) (hn : m[n]? = some (.lst [.obj p2, .obj d2])) (hp1 : m[p1]? = some (.lst L1)) (hp2 : m[p2]? = some (.lst L1)) (hd1 : m[d1]? = some (.lst L2)) (hd2 : m[d2]? = some (.lst L2))
    (h1 : ∀ x ∈ L1, Pl k x) (h2 : ∀ x ∈ L2, Pl k x) (hk : k < 50) : gNeD wds0 m (.obj h) (.obj n) = some (.bl false) := by
  obtain ⟨P1, a1, b1, c1⟩ := pl_all L1 fun x hx => pl_dat (h1 x hx)
  obtain ⟨P2, a2, b2, c2⟩ := pl_all L2 fun x hx => pl_dat (h2 x hx)
  have e1 : dat wds0 m (.obj h) = some (.list [.list P1, .list P2]) := by
    simp [dat, datR, resM, hh, datAll, hp1, hd1, c1, c2]
  have e2 : dat wds0 m (.obj n) = some (.list [.list P1, .list P2]) := by
    simp [dat, datR, resM, hn, datAll, hp2, hd2, c1, c2]
  have hc : PyData.canLay0 (.list [.list P1, .list P2]) = true := by simp [PyData.canLay0, PyData.canLayAll0, a1, a2]
  have hs : SeqAt.shaped (.list [.list P1, .list P2]) = true := by
    unfold SeqAt.shaped
    rw [hc, Bool.true_and, decide_eq_true_iff]
    simp [PyData.depth, PyData.depthAll]; omega
  unfold gNeD
  rw [e1, e2]
  simp [hs, SeqAt.eqv_refl _ hc]
theorem nil_ne {k : Nat} {m : M} {h n : Nat} {L : List D} (hh : m[h]? = some (.lst L)) (hn : m[n]? = some (.lst [])) (hp : ∀ x ∈ L, Pl k x) (hk : k < 50) : gNeD wds0 m (.obj h) (.obj n) = some (.bl (!L.isEmpty)) := by
  obtain ⟨P, a, b, c⟩ := pl_all L fun x hx => pl_dat (hp x hx)
  have e1 : dat wds0 m (.obj h) = some (.list P) := by simp [dat, datR, resM, hh, c]
  have e2 : dat wds0 m (.obj n) = some (.list []) := by simp [dat, datR, resM, hn, datAll]
  have hs : SeqAt.shaped (.list P) = true := by
    unfold SeqAt.shaped
    rw [show PyData.canLay0 (.list P) = PyData.canLayAll0 P by simp [PyData.canLay0], a, Bool.true_and, decide_eq_true_iff]
    simp [PyData.depth]; omega
  have hs2 : SeqAt.shaped (.list []) = true := by decide
  have hL : ∀ {L : List D} {P : List PyData}, (∀ res, datAll wds0 res L = some P) → PyData.eqv (.list P) (.list []) = L.isEmpty := by
    intro L P c
    cases L with
    | nil =>
      have := c (fun _ => none); simp [datAll] at this; subst this
      simp [PyData.eqv, PyData.eqvAll]
    | cons x xs =>
      have := c (fun _ => none)
      unfold datAll at this
      cases e : datR wds0 (fun _ => none) x with
      | none => rw [e] at this; cases this
      | some p =>
        rw [e] at this
        cases e2 : datAll wds0 (fun _ => none) xs with
        | none => rw [e2] at this; cases this
        | some ps => rw [e2] at this; cases this; simp [PyData.eqv, PyData.eqvAll]
  unfold gNeD
  rw [e1, e2]
  simp [hs, hs2, hL c]
theorem Pl.up {k : Nat} {x : D} (h : Pl k x) : ∀ {j : Nat}, k ≤ j → Pl j x := by
  induction h with
  | int => intro j _; exact .int
  | non => intro j _; exact .non
  | wd h => intro j _; exact .wd h
  | @tup k xs hx hl ih =>
    intro j hj
    obtain ⟨j, rfl⟩ : ∃ i, j = i + 1 := ⟨j - 1, by omega⟩
    exact .tup (fun x hx => ih x hx (by omega)) hl
theorem pl_nil {k : Nat} : ∀ x ∈ ([] : List D), Pl k x := by simp
theorem pl_cons {k : Nat} {y : D} {ys : List D} (h : Pl k y) (h' : ∀ x ∈ ys, Pl k x) : ∀ x ∈ y :: ys, Pl k x := fun x hx => by
  rcases List.mem_cons.mp hx with rfl | hx
  · exact h
  · exact h' x hx
theorem Op.wd_lt {w : Op} : w.wd < 24 := by cases w <;> decide
theorem Rk.pl {n : Nat} : ∀ {d : Nat} {e : Rk}, e.ok n d → Pl (d + 1) e.enc
  | d, .num i, h => .tup (pl_cons (.wd (by decide)) (pl_cons .int pl_nil)) (by simp)
  | d, .slot k, h => .tup (pl_cons (.wd (by decide)) (pl_cons .int pl_nil)) (by simp)
  | 0, .op w a b, h => h.elim
  | d + 1, .op w a b, h => .tup (pl_cons (.wd Op.wd_lt) (pl_cons (Rk.pl h.1) (pl_cons (Rk.pl h.2) pl_nil))) (by simp)
theorem kD_pl {k : Nat} {o : Option Nat} : Pl k (kD o) := by
  cases o with
  | none => exact .non
  | some j => exact .int
theorem encs_len : ∀ (b : Bd), b.encs.length ≤ b.cnt
  | .nil => by simp [Bd.encs]
  | .cons s b => by
    have := encs_len b
    have : 1 ≤ s.cnt := by cases s <;> simp only [Stp.cnt] <;> omega
    simp only [Bd.encs, Bd.cnt, List.length_cons]; omega
section
variable {ps : List Nat} {i n : Nat}
mutual
theorem Stp.pl (hps : ∀ (w k : Nat), ps[w]? = some k → k ≤ 2) : ∀ (s : Stp) {r : Bool}, s.ok ps i n r → s.cnt < 1000 → Pl (3 * s.dep + 4) s.enc
  | .set k e, r, h, hc => (Pl.tup (k := 5) (pl_cons (.wd (by decide)) (pl_cons .int (pl_cons ((Rk.pl h.2).up (by omega)) pl_nil))) (by simp)).up (by simp only [Stp.dep]; omega)
  | .say e, r, h, hc => (Pl.tup (k := 5) (pl_cons (.wd (by decide)) (pl_cons ((Rk.pl h).up (by omega)) pl_nil)) (by simp)).up (by simp only [Stp.dep]; omega)
  | .give e k, r, h, hc => (Pl.tup (k := 5) (pl_cons (.wd (by decide)) (pl_cons ((Rk.pl h.1).up (by omega)) (pl_cons kD_pl pl_nil))) (by simp)).up (by simp only [Stp.dep]; omega)
  | .hand w es k, r, h, hc => by
    have := hps _ _ h.2.1
    exact (Pl.tup (k := 5) (pl_cons (.wd (by decide)) (pl_cons .int (pl_cons (Pl.tup (k := 4) (fun x hx => by
      obtain ⟨e, he, rfl⟩ := List.mem_map.mp hx
      exact Rk.pl (h.2.2.1 e he)) (by simp; omega)) (pl_cons kD_pl pl_nil)))) (by simp)).up (by simp only [Stp.dep]; omega)
  | .ife e a b, r, h, hc => by
    simp only [Stp.cnt] at hc
    have la := encs_len a
    have lb := encs_len b
    refine (Pl.tup (k := 3 * (max a.dep b.dep) + 5) (pl_cons (.wd (by decide)) (pl_cons ((Rk.pl h.1).up (by omega)) (pl_cons (.tup (fun x hx => (Bd.pl hps a h.2.1 (by omega) x hx).up (by omega)) (by omega)) (pl_cons (.tup (fun x hx => (Bd.pl hps b h.2.2 (by omega) x hx).up (by omega)) (by omega)) pl_nil)))) (by simp)).up (by simp only [Stp.dep]; omega)
  | .round e b, r, h, hc => by
    simp only [Stp.cnt] at hc
    have lb := encs_len b
    refine (Pl.tup (k := 3 * b.dep + 5) (pl_cons (.wd (by decide)) (pl_cons ((Rk.pl h.1).up (by omega)) (pl_cons (.tup (fun x hx => (Bd.pl hps b h.2 (by omega) x hx).up (by omega)) (by omega)) pl_nil))) (by simp)).up (by simp only [Stp.dep]; omega)
  | .leave, r, h, hc => (Pl.tup (k := 5) (pl_cons (.wd (by decide)) pl_nil) (by simp)).up (by simp only [Stp.dep]; omega)
  | .fault e, r, h, hc => (Pl.tup (k := 5) (pl_cons (.wd (by decide)) (pl_cons ((Rk.pl h).up (by omega)) pl_nil)) (by simp)).up (by simp only [Stp.dep]; omega)
  | .fin e, r, h, hc => (Pl.tup (k := 5) (pl_cons (.wd (by decide)) (pl_cons ((Rk.pl h).up (by omega)) pl_nil)) (by simp)).up (by simp only [Stp.dep]; omega)
  | .tri a c l, r, h, hc => by
    simp only [Stp.cnt] at hc
    have la := encs_len a
    have ll := encs_len l
    refine (Pl.tup (k := 3 * (max a.dep (max c.dep l.dep)) + 6) (pl_cons (.wd (by decide)) (pl_cons (.tup (fun x hx => (Bd.pl hps a h.1 (by omega) x hx).up (by omega)) (by omega)) (pl_cons ((Ct.pl hps c h.2.1 (by omega)).up (by omega)) (pl_cons (.tup (fun x hx => (Bd.pl hps l h.2.2 (by omega) x hx).up (by omega)) (by omega)) pl_nil)))) (by simp)).up (by simp only [Stp.dep]; omega)
theorem Bd.pl (hps : ∀ (w k : Nat), ps[w]? = some k → k ≤ 2) : ∀ (b : Bd) {r : Bool}, b.ok ps i n r → b.cnt < 1000 → ∀ x ∈ b.encs, Pl (3 * b.dep + 4) x
  | .nil, r, h, hc => pl_nil
  | .cons s b, r, h, hc => by
    simp only [Bd.cnt] at hc
    simp only [Bd.dep]
    exact pl_cons ((Stp.pl hps s h.1 (by omega)).up (by omega)) fun x hx => (Bd.pl hps b h.2 (by omega) x hx).up (by omega)
theorem Ct.pl (hps : ∀ (w k : Nat), ps[w]? = some k → k ≤ 2) : ∀ (c : Ct) {r : Bool}, c.ok ps i n r → c.cnt < 1000 → Pl (3 * c.dep + 6) c.enc
  | .no, r, h, hc => .non
  | .yes k b, r, h, hc => by
    simp only [Ct.cnt] at hc
    have lb := encs_len b
    simp only [Ct.dep, Ct.enc]
    exact .tup (pl_cons kD_pl (pl_cons (.tup (fun x hx => Bd.pl hps b h.2 (by omega) x hx) (by omega)) pl_nil)) (by simp)
end
end
theorem ps_le {P : Prog} (hP : P.ok) : ∀ (w k : Nat), P.ps[w]? = some k → k ≤ 2 := fun w k hk => by
  obtain ⟨W, e, z⟩ := ps_get hk
  have := (hP.at_ w W e).p2
  omega
theorem Prog.pl {P : Prog} (hP : P.ok) : ∀ x ∈ P.map Work.enc, Pl 27 x := fun x hx => by
  obtain ⟨W, hW, rfl⟩ := List.mem_map.mp hx
  obtain ⟨i, hi, e⟩ := List.getElem_of_mem hW
  have ok := hP.at_ i W (by rw [List.getElem?_eq_getElem hi, e])
  have := encs_len W.body
  have h1 := ok.cnt
  have h2 := ok.dep
  exact .tup (pl_cons .int (pl_cons .int (pl_cons (.tup (fun x hx => (Bd.pl (ps_le hP) W.body ok.body (by omega) x hx).up (by omega)) (by omega)) pl_nil))) (by simp)
theorem Deed.pl {d : Deed} : Pl 1 d.enc := by
  cases d with
  | ask a => exact .tup (pl_cons (.wd (by decide)) (pl_cons .int pl_nil)) (by simp)
  | throw a => exact .tup (pl_cons (.wd (by decide)) (pl_cons .int pl_nil)) (by simp)
  | shut => exact .tup (pl_cons (.wd (by decide)) pl_nil) (by simp)
theorem deeds_pl {ds : List Deed} : ∀ x ∈ ds.map Deed.enc, Pl 1 x := fun x hx => by
  obtain ⟨d, _, rfl⟩ := List.mem_map.mp hx
  exact Deed.pl
theorem Oc.pl {o : Oc} : Pl 1 o.enc := by
  cases o with
  | gift a => exact .tup (pl_cons (.wd (by decide)) (pl_cons .int pl_nil)) (by simp)
  | fin a => exact .tup (pl_cons (.wd (by decide)) (pl_cons .int pl_nil)) (by simp)
  | fault a => exact .tup (pl_cons (.wd (by decide)) (pl_cons .int pl_nil)) (by simp)
  | shut => exact .tup (pl_cons (.wd (by decide)) pl_nil) (by simp)
  | stub => exact .tup (pl_cons (.wd (by decide)) pl_nil) (by simp)
  | over => exact .tup (pl_cons (.wd (by decide)) pl_nil) (by simp)
theorem wo_pl {x : Wo} (h : x.1.length < 1000000) : Pl 2 (woD x) :=
  .tup (pl_cons (.tup (fun y hy => by
    obtain ⟨i, _, rfl⟩ := List.mem_map.mp hy
    exact .int) (by simpa using h)) (pl_cons Oc.pl pl_nil)) (by simp)
end Hb

set_option linter.all false
set_option autoImplicit false
set_option maxRecDepth 10000
set_option maxHeartbeats 4000000
/-! Hz: what is due by the law is what the work tells. -/
namespace Hb
open PySem L2 Sh Mi Tw
/-- one call of a work, by the law -/
theorem lcall_ok {P : Prog} {ds : List Deed} {h F : Nat} (hd : ∀ d ∈ ds, d.ok) (hdl : ds.length < 1000000) (hP : P.ok) {w : Nat} (hc : CalOk ds P.ps w (cost P h) (play P ds h)) (hr : CalL P ds w (cost P h) (play P ds h) F)
    {W : Work} {ns : List Int} {t : Tk} {f : Nat} {m : M} {ki si dd ti qi pi : Nat} (eW : P[w]? = some W) (hk : W.params = ns.length) (hn : ∀ v ∈ ns, Num v) (ht : t.told.length < ds.length) (hw : t.words.length + cost P (h + 1) w < 16777216) (hf : 22 + F ≤ f)
    (p : Qst P ds m ki si dd ti qi pi (ns ++ List.replicate (W.slots - W.params) 0) t) : ∃ d m' q', m_lw f 0 [.obj pi, .tup W.body.encs, .obj si, .obj ki] m = .ok d m' ∧ LD d (play P ds (h + 1) w ns t).1 ∧ Alk ds m' ki dd ti q' (play P ds (h + 1) w ns t).2 ∧ Fr [si, ki, ti, qi] m m' ∧ (q' = qi ∨ m.length ≤ q') := by
  have ok := hP.at_ w W eW
  have g := slots_good ok hk hn ht
  have hcost : cost P (h + 1) w = W.body.cost (cost P h) := by rw [cost, eW]
  rw [hcost] at hw
  obtain ⟨m', q', e1, p1, f1, h1⟩ := LutL.bd (b := W.body) (B := 21 + F) (k := f) (by omega) fun f' hf' => Bd.lawL hd hdl hP hc hr W.body f' m qi _ t (some (.tup W.body.encs)) none none ok.body g hw (by have := ok.dep; omega) p
  have inv := (Bd.inv hd hc W.body _ t ok.body g).2
  unfold play
  rw [eW]
  dsimp only
  rcases er : W.body.run ds (play P ds h) (ns ++ List.replicate (W.slots - W.params) 0) t with ⟨y, vs', t'⟩
  rw [er] at e1 p1 inv
  cases y with
  | go => exact ⟨_, m', q', e1, .inr ⟨rfl, rfl⟩, p1.ast, f1, h1⟩
  | leave => cases inv rfl
  | fault j => exact ⟨_, m', q', e1, .inl rfl, p1.ast, f1, h1⟩
  | fin j => exact ⟨_, m', q', e1, .inl rfl, p1.ast, f1, h1⟩
  | shut => exact ⟨_, m', q', e1, .inl rfl, p1.ast, f1, h1⟩
  | stop => exact ⟨_, m', q', e1, .inl rfl, p1.ast, f1, h1⟩
theorem play_L {P : Prog} {ds : List Deed} (hd : ∀ d ∈ ds, d.ok) (hdl : ds.length < 1000000) (hP : P.ok) : ∀ (h i : Nat), P.length ≤ h + i + 1 → CalL P ds i (cost P h) (play P ds h) (22 * h)
  | 0, i, hl => fun w W ns t f m ki si dd ti qi pi hw eW hk hn ht _ _ _ => by
    have := (List.getElem?_eq_some_iff.mp eW).1
    omega
  | h + 1, i, hl => fun w W ns t f m ki si dd ti qi pi hw eW hk hn ht hc hf p =>
    lcall_ok hd hdl hP (play_ok hd hP h w (by omega)) (play_L hd hdl hP h w (by omega)) eW hk hn ht hc (by omega) p
theorem lwalked_ok {P : Prog} {ds : List Deed} (hd : ∀ d ∈ ds, d.ok) (hdl : ds.length < 1000000) (hP : P.ok) {w : Nat} {W : Work} {ns : List Int} {t : Tk} {m : M} {ki si dd ti qi pi : Nat} (eW : P[w]? = some W) (hk : W.params = ns.length) (hn : ∀ v ∈ ns, Num v) (ht : t.told.length < ds.length) (hw : t.words.length + cost P 4 w < 16777216)
    (p : Qst P ds m ki si dd ti qi pi (ns ++ List.replicate (W.slots - W.params) 0) t) : ∃ d m' q', m_lw 140 0 [.obj pi, .tup W.body.encs, .obj si, .obj ki] m = .ok d m' ∧ LD d (play P ds 4 w ns t).1 ∧ Alk ds m' ki dd ti q' (play P ds 4 w ns t).2 ∧ Fr [si, ki, ti, qi] m m' ∧ (q' = qi ∨ m.length ≤ q') := by
  have := hP.l4
  exact lcall_ok hd hdl hP (play_ok hd hP 3 w (by omega)) (play_L hd hdl hP 3 w (by omega)) eW hk hn ht hw (by omega) p
theorem sx2 : HT.sIx 2 0 (some 1) = 1 := HT.sIx_nat _ _ 1
theorem sx1 : HT.sIx 1 0 (some 1) = 1 := HT.sIx_nat _ _ 1
theorem cut2 {x y : D} : cutD [x, y] (some 1) none = [y] := cutN (xs := [x, y]) (n := 1) (by simp)
theorem cut1 {x : D} : cutD [x] (some 1) none = [] := cutN (xs := [x]) (n := 1) (by simp)
theorem closedL {A0 A1 A2 : Option D} : ∀ (es : List Deed) (m : M) (j : Nat) (us : List Wo) (x4 : Option D), m[j]? = some (.lst (us.map woD)) → us.length + es.length < 1000000 →
    ∃ m' j' y4, loop (gN 4) lb__law_closed_0 (es.map Deed.enc) [A0, A1, A2, some (.obj j), x4] m = .nx [A0, A1, A2, some (.obj j'), y4] m' ∧ m'[j']? = some (.lst ((us ++ es.map Deed.rest).map woD)) ∧ Fr [] m m' ∧ (j' = j ∨ m.length ≤ j')
  | [], m, j, us, x4, h, hl => ⟨m, j, x4, rfl, by simpa using h, .refl, .inl rfl⟩
  | d :: es, m, j, us, x4, h, hl => by
    simp only [List.length_cons] at hl
    obtain ⟨m1, hm1⟩ : ∃ m1, m1 = m ++ [O.lst ((us ++ [d.rest]).map woD)] := ⟨_, rfl⟩
    have hnew : m1[m.length]? = some (.lst ((us ++ [d.rest]).map woD)) := by rw [hm1]; exact get_new
    have f1 : Fr [] m m1 := by rw [hm1]; exact Fr.refl.add _
    have l1 : m1.length = m.length + 1 := by rw [hm1]; simp
    obtain ⟨m', j', y4, e, hj, f, hq⟩ := closedL (A0 := A0) (A1 := A1) (A2 := A2) es m1 m.length (us ++ [d.rest]) (some d.enc) hnew (by simp; omega)
    have hb : lb__law_closed_0 [A0, A1, A2, some (.obj j), some d.enc] m = .nx [A0, A1, A2, some (.obj m.length), some d.enc] m1 := by
      have c : us.length ≤ 16777215 := by omega
      have c' : us.length + 1 ≤ 16777216 := by omega
      cases d with
      | ask a => simp [lb__law_closed_0, h, c, c', Deed.rest, woD, Oc.enc, sx1, sx2, cut1, cut2, hm1]
      | throw a => simp [lb__law_closed_0, h, c, c', Deed.rest, woD, Oc.enc, sx1, sx2, cut1, cut2, hm1]
      | shut => simp [lb__law_closed_0, h, c, c', Deed.rest, woD, Oc.enc, sx1, sx2, cut1, cut2, hm1]
    refine ⟨m', j', y4, by simp [loop, hb, e], by simpa using hj, f1.trans f, ?_⟩
    rcases hq with rfl | hq
    · exact .inr (Nat.le_refl _)
    · right; omega
theorem closed_ok {ds : List Deed} {m : M} {ki dd ti qi : Nat} {t : Tk} (h : Alk ds m ki dd ti qi t) {y : Way} (h1 : y ≠ .go) (h2 : y ≠ .leave) (hl : t.told.length ≤ ds.length) (hl' : y ≠ .stop → t.told.length < ds.length) (hdl : ds.length < 100000) :
    ∃ m' j, m__law_closed [.obj ki, lwD y] m = .ok (.obj j) m' ∧ m'[j]? = some (.lst ((match y with
      | .stop => restOf ds t.told
      | y => restOf ds (t.told ++ [(t.words, outOf ds[t.told.length]? y)])).map woD)) ∧ Fr [ki, ti] m m' ∧ (j = ti ∨ m.length ≤ j) := by
  have hi := h.dct
  have ht := h.ht
  have hd := h.hd
  have cut : ∀ us : List Wo, us.length ≤ ds.length → cutD (ds.map Deed.enc) (some (us.length : Int)) none = (ds.map Deed.enc).drop us.length := fun us hu => cutN (by simpa using hu)
  by_cases hs : y = .stop
  · subst hs
    obtain ⟨m', j', y4, e, hj, f, hq⟩ := closedL (A0 := some (.obj ki)) (A1 := some (.tup [.wd 27])) (A2 := none) (ds.drop t.told.length) m ti t.told none ht (by simp; omega)
    rw [List.map_drop] at e
    have c := cut t.told hl
    exact ⟨m', j', by simp [m__law_closed, mkF, b__law_closed, hi, ht, hd, c, e], hj, f.sub (by simp), hq⟩
  · have hlt := hl' hs
    obtain ⟨d, ed⟩ : ∃ d, ds[t.told.length]? = some d := ⟨_, List.getElem?_eq_getElem hlt⟩
    have hat : L2.atI (ds.map Deed.enc) (t.told.length : Int) = some d.enc := atI_nat (by simp [ed])
    obtain ⟨m1, q1, e1, a1, l1, f1⟩ := ltell_ok h (outOf (some d) y) (by omega)
    have hi1 := a1.dct
    have ht1 := a1.ht
    have hd1 := a1.hd
    have tl : (t.tell (outOf (some d) y)).told = t.told ++ [(t.words, outOf (some d) y)] := rfl
    have tl' : (t.tell (outOf (some d) y)).told.length = t.told.length + 1 := by simp [tl]
    have c := cut (t.tell (outOf (some d) y)).told (by omega)
    rw [ed]
    have c1 := cut (t.tell (outOf (some d) y)).told (by omega)
    rw [tl'] at c1
    obtain ⟨m', j', y4, e, hj, f, hq⟩ := closedL (A0 := some (.obj ki)) (A1 := some (lwD y)) (A2 := some (.bl (match d with | .shut => true | _ => false))) (ds.drop (t.told.length + 1)) m1 ti (t.tell (outOf (some d) y)).told none ht1 (by simp; omega)
    rw [List.map_drop] at e
    have fr : Fr [ki, ti] m m' := f1.up f (by simp)
    have hq' : j' = ti ∨ m.length ≤ j' := hq.imp id fun z => by have := f1.1; omega
    have ht1' : m1[ti]? = some (.lst ((t.told ++ [(t.words, outOf (some d) y)]).map woD)) := ht1
    simp only [Int.natCast_add, Int.natCast_one] at c1
    cases y with
    | go => exact absurd rfl h1
    | leave => exact absurd rfl h2
    | stop => exact absurd rfl hs
    | fault k =>
      have e9 : m__law_tell [.obj ki, .tup [.wd 7, .int k]] m = .ok .non m1 := e1
      refine ⟨m', j', ?_, by simpa [restOf, tl] using hj, fr, hq'⟩
      cases d <;> simp at e <;> simp [m__law_closed, mkF, b__law_closed, hi, ht, hd, hat, e9, hi1, ht1', hd1, c1, e]
    | shut =>
      have e9 : m__law_tell [.obj ki, .tup [.wd 2]] m = .ok .non m1 := e1
      refine ⟨m', j', ?_, by simpa [restOf, tl] using hj, fr, hq'⟩
      cases d <;> simp at e <;> simp [m__law_closed, mkF, b__law_closed, hi, ht, hd, hat, e9, hi1, ht1', hd1, c1, e]
    | fin k =>
      refine ⟨m', j', ?_, by simpa [restOf, tl] using hj, fr, hq'⟩
      cases d with
      | shut =>
        have e9 : m__law_tell [.obj ki, .tup [.wd 2]] m = .ok .non m1 := e1
        simp at e
        simp [m__law_closed, mkF, b__law_closed, hi, ht, hd, hat, e9, hi1, ht1', hd1, c1, e]
      | ask a =>
        have e9 : m__law_tell [.obj ki, .tup [.wd 5, .int k]] m = .ok .non m1 := e1
        simp at e
        simp [m__law_closed, mkF, b__law_closed, hi, ht, hd, hat, e9, hi1, ht1', hd1, c1, e]
      | throw a =>
        have e9 : m__law_tell [.obj ki, .tup [.wd 5, .int k]] m = .ok .non m1 := e1
        simp at e
        simp [m__law_closed, mkF, b__law_closed, hi, ht, hd, hat, e9, hi1, ht1', hd1, c1, e]
theorem due_ok {P : Prog} {ds : List Deed} {w : Nat} {ns : List Int} {m : M} {pi dd : Nat} (hP : P.ok) (hs : ∀ d ∈ ds, d.ok) (hdl : ds.length < 100000) (hp : P.ps[w]? = some ns.length) (hn : ∀ v ∈ ns, Num v) (hc : cost P 4 w < 16777216)
    (hm : m[pi]? = some (.lst (P.map Work.enc))) (hd : m[dd]? = some (.lst (ds.map Deed.enc))) :
    ∃ m' j, m__law_due [.obj pi, .int w, .tup (ns.map .int), .obj dd] m = .ok (.obj j) m' ∧ m'[j]? = some (.lst ((toldOf P w ns ds).map woD)) ∧ m.length ≤ j ∧ Fr [] m m' := by
  obtain ⟨W, eW, hk⟩ := ps_get hp
  have ok := hP.at_ w W eW
  have lp := get_lt hm
  have ld := get_lt hd
  have hwk : W.enc = .tup [.int W.params, .int W.slots, .tup W.body.encs] := rfl
  have hix : L2.atI (P.map Work.enc) (w : Int) = some W.enc := atI_nat (by simp [eW])
  obtain ⟨m1, hm1⟩ : ∃ m1, m1 = m ++ [O.lst (ds.map Deed.enc), .lst [], .lst [], .dct [(26, .obj m.length), (24, .obj (m.length + 1)), (25, .obj (m.length + 2))]] := ⟨_, rfl⟩
  have f1 : Fr [] m m1 := by rw [hm1]; exact Fr.refl.add _
  have l1 : m1.length = m.length + 4 := by rw [hm1]; simp
  have a1 : Alk ds m1 (m.length + 3) m.length (m.length + 1) (m.length + 2) ⟨[], []⟩ := ⟨by simp [hm1], by simp [hm1], by simp [hm1], by simp [hm1], by omega, by omega, by omega⟩
  have hd1 := f1.keeps (by simp) hd
  have hmm1 := f1.keeps (by simp) hm
  have s4 : sSet 4 (eDNew (dlCons 26 (eNew (lOf (eVar 3))) (dlCons 24 (eNew (lLst lNil)) (dlCons 25 (eNew (lLst lNil)) dlNil)))) [some (.obj pi), some (.int w), some (.tup (ns.map .int)), some (.obj dd), none, none, none, none, none, none] m = .nx [some (.obj pi), some (.int w), some (.tup (ns.map .int)), some (.obj dd), some (.obj (m.length + 3)), none, none, none, none, none] m1 := by
    simp [hd, hm1]
  have hX := nil_ne (k := 1) (m := m1 ++ [.lst []]) (get_add hd1) get_new deeds_pl (by decide)
  have a2 : Alk ds (m1 ++ [O.lst []]) (m.length + 3) m.length (m.length + 1) (m.length + 2) ⟨[], []⟩ := a1.fr (S := []) (Fr.refl.add _) (by simp) (by simp) (by simp) (by simp)
  have f2 : Fr [] m (m1 ++ [O.lst []]) := f1.add _
  have hdd2 : (m1 ++ [O.lst []])[dd]? = some (.lst (ds.map Deed.enc)) := get_add hd1
  have hmm2 : (m1 ++ [O.lst []])[pi]? = some (.lst (P.map Work.enc)) := get_add hmm1
  have l2 : (m1 ++ [O.lst []]).length = m.length + 5 := by simp [l1]
  obtain ⟨m2, hm2⟩ : ∃ m2, m2 = m1 ++ [O.lst []] := ⟨_, rfl⟩
  rw [← hm2] at hX a2 f2 hdd2 hmm2 l2
  show ∃ m' j, toR (b__law_due [some (.obj pi), some (.int w), some (.tup (ns.map .int)), some (.obj dd), none, none, none, none, none, none] m) = .ok (.obj j) m' ∧ _
  unfold b__law_due
  rw [seq_nx s4 rfl]
  cases hb : begins ds with
  | false =>
    obtain ⟨m', j, e, hj, f, hq⟩ := closed_ok a2 (y := .stop) (by simp) (by simp) (Nat.zero_le _) (fun z => absurd rfl z) hdl
    rw [told_0 hb]
    refine ⟨m', j, ?_, hj, by rcases hq with rfl | hq <;> omega, f2.up f (by simp)⟩
    simp at e
    cases ds with
    | nil => simp at hX; simp [← hm2, hX, e]
    | cons d ds =>
      simp at hX
      cases d with
      | ask a => cases hb
      | throw a => simp at hdd2; simp [← hm2, hX, hdd2, e]
      | shut => simp at hdd2; simp [← hm2, hX, hdd2, e]
  | true =>
    obtain ⟨h0, ht⟩ := told_1 (P := P) (w := w) (ns := ns) hb
    obtain ⟨d0, ds', hds⟩ : ∃ a ds', ds = .ask a :: ds' := by
      cases ds with
      | nil => cases hb
      | cons d ds => cases d with
        | ask a => exact ⟨a, ds, rfl⟩
        | throw a => cases hb
        | shut => cases hb
    have p2 := ok.p2
    have psl := ok.psl
    have s4' := ok.s4
    obtain ⟨m3, hm3⟩ : ∃ m3, m3 = m2 ++ [O.lst ((ns ++ List.replicate (W.slots - W.params) 0).map .int)] := ⟨_, rfl⟩
    have f3 : Fr [] m2 m3 := by rw [hm3]; exact Fr.refl.add _
    have p3 : Qst P ds m3 (m.length + 3) m2.length m.length (m.length + 1) (m.length + 2) pi (ns ++ List.replicate (W.slots - W.params) 0) ⟨[], []⟩ :=
      ⟨a2.fr f3 (by simp) (by simp) (by simp) (by simp), by rw [hm3]; simp, f3.keeps (by simp) hmm2, by omega, by omega, by omega, by omega, by omega, by omega⟩
    obtain ⟨d, m4, q4, e4, ldd, a4, f4, h4⟩ := lwalked_ok hs (by omega) hP eW hk hn (t := ⟨[], []⟩) h0 (by simpa using hc) p3
    obtain ⟨i1, i2, i3, i4, i5⟩ := walked_inv hs hP hp hn (t := ⟨[], []⟩) h0
    rw [ht]
    rcases ep : play P ds 4 w ns ⟨[], []⟩ with ⟨y, t⟩
    rw [ep] at ldd a4 i1 i2 i4 i5
    dsimp only at ldd a4 i1 i2 i4 i5
    obtain ⟨m5, j, e5, hj, f5, hq⟩ := closed_ok a4 i4 i5 i2 i1 hdl
    have l3 : m3.length = m.length + 6 := by rw [hm3]; simp [l2]
    have l4 := f4.1
    have l5 := f5.1
    have fr4 : Fr [] m m4 := (f2.trans f3).up f4 fun k hk hl => by
      simp at hk; omega
    refine ⟨m5, j, ?_, by cases y <;> exact hj, by rcases hq with rfl | hq <;> omega, fr4.up f5 fun k hk hl => by
      simp at hk; omega⟩
    have hk1 : (W.slots : Int) - (W.params : Int) = ((W.slots - W.params : Nat) : Int) := by omega
    have hk4 : ns.length + (W.slots - W.params) ≤ 16777216 := by omega
    have hR : ∀ x5 x9, lRep (lLst (lCons (eC (.int 0)) lNil)) (eOp gSub (eVar 7) (eVar 6)) [some (.obj pi), some (.int w), some (.tup (ns.map .int)), some (.obj dd), some (.obj (m.length + 3)), x5, some (.int W.params), some (.int W.slots), some (.tup W.body.encs), x9] m2 = .ok (List.replicate (W.slots - W.params) (.int 0)) m2 := fun x5 x9 => lRep_nat (m1 := m2) (by simp) (by simp [hk1]) (by omega)
    have hm3' : m2 ++ [O.lst (List.map D.int ns ++ List.replicate (W.slots - W.params) (.int 0))] = m3 := by rw [hm3]; simp
    subst hds
    simp at hX hdd2
    rcases ldd with rfl | ⟨rfl, rfl⟩
    · cases y with
      | go => exact absurd rfl i4
      | leave => exact absurd rfl i5
      | fault k => simp at e4 e5; simp [← hm2, hX, hdd2, hmm2, hix, hwk, -lRep_eq, hR, hk4, hm3', e4, e5]
      | fin k => simp at e4 e5; simp [← hm2, hX, hdd2, hmm2, hix, hwk, -lRep_eq, hR, hk4, hm3', e4, e5]
      | shut => simp at e4 e5; simp [← hm2, hX, hdd2, hmm2, hix, hwk, -lRep_eq, hR, hk4, hm3', e4, e5]
      | stop => simp at e4 e5; simp [← hm2, hX, hdd2, hmm2, hix, hwk, -lRep_eq, hR, hk4, hm3', e4, e5]
    · simp at e4 e5; simp [← hm2, hX, hdd2, hmm2, hix, hwk, -lRep_eq, hR, hk4, hm3', e4, e5]
end Hb

set_option linter.all false
set_option autoImplicit false
set_option maxRecDepth 10000
set_option maxHeartbeats 4000000
/-! Hd: the bodies that the law draws. -/
namespace Hb
open PySem L2 Sh Mi Tw
abbrev Shp := List (Nat × Nat)
def shD (x : Nat × Nat) : D := .tup [.int x.1, .int x.2]
/-- how often, at most, a round's body is gone through, all rounds that are left around it -/
def Tm (i : Nat) : Nat → Nat
  | 0 => 1
  | 1 => if i = 0 then 9 else 2
  | _ => if i = 0 then 18 else 4
theorem Tm_mono {i : Nat} : ∀ {a b : Nat}, a ≤ b → Tm i a ≤ Tm i b := by
  intro a b h
  match a, b with
  | 0, 0 => exact Nat.le_refl _
  | 0, 1 => simp only [Tm]; split <;> omega
  | 0, b + 2 => simp only [Tm]; split <;> omega
  | 1, 0 => omega
  | 1, 1 => exact Nat.le_refl _
  | 1, b + 2 => simp only [Tm]; split <;> omega
  | a + 2, 0 => omega
  | a + 2, 1 => omega
  | a + 2, b + 2 => exact Nat.le_refl _
theorem Tm_pos {i a : Nat} : 1 ≤ Tm i a := Tm_mono (a := 0) (Nat.zero_le _)
theorem top9 {e : Rk} : e.top ≤ 9 := by
  cases e with
  | num i => simp only [Rk.top]; omega
  | slot k => exact Nat.le_refl _
  | op w a b => exact Nat.le_refl _
structure Bx (xs : List Int) (S : Shp) (m : M) (r b sh i L R H : Nat) : Prop where
  box : m[b]? = some (.lst [.int i, .obj sh, .int L, .int R, .int H])
  shp : m[sh]? = some (.lst (S.map shD))
  row : Row xs r m
  br : b ≠ r
  bs : b ≠ sh
  rs : sh ≠ r
  r2 : R ≤ 2
section
variable {xs : List Int} {S : Shp} {m m' : M} {r b sh i L R H : Nat}
theorem Bx.rw (h : Bx xs S m r b sh i L R H) (w : Rw xs r m m') : Bx xs S m' r b sh i L R H :=
  ⟨w.keeps h.br h.box, w.keeps h.rs h.shp, w.row, h.br, h.bs, h.rs, h.r2⟩
theorem Bx.put (h : Bx xs S m r b sh i L R H) {L' R' H' : Nat} (h2 : R' ≤ 2) {o : O} (ho : o = .lst [.int i, .obj sh, .int L', .int R', .int H']) : Bx xs S (m.set b o) r b sh i L' R' H' ∧ Fr [r, b] m (m.set b o) := by
  subst ho
  exact ⟨⟨get_set h.box, by rw [List.getElem?_set_ne h.bs]; exact h.shp, h.row.set _ h.br, h.br, h.bs, h.rs, h2⟩, Fr.refl.set _ fun _ => by simp⟩
theorem Row.frr {S' : List Nat} (h : Row xs r m) (f : Fr S' m m') (hr : r ∉ S') : Row xs r m' := by
  obtain ⟨a, b, c, h0, e⟩ := h
  exact ⟨a, b, c, h0, f.keeps hr e⟩
theorem Bx.fr {S' : List Nat} (h : Bx xs S m r b sh i L R H) (f : Fr S' m m') (h1 : r ∉ S') (h2 : b ∉ S') (h3 : sh ∉ S') : Bx xs S m' r b sh i L R H :=
  ⟨f.keeps h2 h.box, f.keeps h3 h.shp, h.row.frr f h1, h.br, h.bs, h.rs, h.r2⟩
end
structure Dr (xs : List Int) (S : Shp) (r b sh i : Nat) (m m' : M) (L R H L' R' H' cnt e : Nat) (cost : (Nat → Nat) → Nat) : Prop where
  bx : Bx xs S m' r b sh i L' R' H'
  fr : Fr [r, b] m m'
  cnt : cnt + L' ≤ L + e
  hr : R' ≤ R
  hh : H' ≤ H
  cst : ∀ (c : Nat → Nat) (C : Nat), (∀ w, i < w → c w ≤ C) → ∃ k, k + (L' + C * H') = L + C * H ∧ cost c ≤ Tm i R * (k + e)
section
variable {xs : List Int} {S : Shp} {m m1 m2 : M} {r b sh i L R H L1 R1 H1 L2 R2 H2 : Nat}
theorem Dr.seq {n1 n2 e1 e2 : Nat} {c1 c2 : (Nat → Nat) → Nat} (h : Dr xs S r b sh i m m1 L R H L1 R1 H1 n1 e1 c1) (h' : Dr xs S r b sh i m1 m2 L1 R1 H1 L2 R2 H2 n2 e2 c2) : Dr xs S r b sh i m m2 L R H L2 R2 H2 (n1 + n2) (e1 + e2) (fun c => c1 c + c2 c) := by
  refine ⟨h'.bx, h.fr.trans h'.fr, by have := h.cnt; have := h'.cnt; omega, Nat.le_trans h'.hr h.hr, Nat.le_trans h'.hh h.hh, fun c C hc => ?_⟩
  obtain ⟨k1, a1, b1⟩ := h.cst c C hc
  obtain ⟨k2, a2, b2⟩ := h'.cst c C hc
  refine ⟨k1 + k2, by omega, ?_⟩
  have : Tm i R1 * (k2 + e2) ≤ Tm i R * (k2 + e2) := Nat.mul_le_mul_right _ (Tm_mono h.hr)
  have e : Tm i R * (k1 + k2 + (e1 + e2)) = Tm i R * (k1 + e1) + Tm i R * (k2 + e2) := by rw [← Nat.mul_add]; congr 1; omega
  rw [e]
  omega
theorem Dr.up {n1 n2 e1 e2 : Nat} {c1 c2 : (Nat → Nat) → Nat} (h : Dr xs S r b sh i m m1 L R H L1 R1 H1 n1 e1 c1) (hn : n2 + e1 ≤ n1 + e2) (he : e1 ≤ e2) (hc : ∀ c, c2 c ≤ c1 c + (e2 - e1)) : Dr xs S r b sh i m m1 L R H L1 R1 H1 n2 e2 c2 := by
  refine ⟨h.bx, h.fr, by have := h.cnt; omega, h.hr, h.hh, fun c C hcc => ?_⟩
  obtain ⟨k, a, d⟩ := h.cst c C hcc
  refine ⟨k, a, ?_⟩
  have e : Tm i R * (k + e2) = Tm i R * (k + e1) + Tm i R * (e2 - e1) := by rw [← Nat.mul_add]; congr 1; omega
  have p : 1 * (e2 - e1) ≤ Tm i R * (e2 - e1) := Nat.mul_le_mul_right _ Tm_pos
  have := hc c
  rw [e]
  omega
theorem Dr.refl (h : Bx xs S m r b sh i L R H) : Dr xs S r b sh i m m L R H L R H 0 0 (fun _ => 0) :=
  ⟨h, .refl, by omega, Nat.le_refl _, Nat.le_refl _, fun c C _ => ⟨0, by omega, Nat.zero_le _⟩⟩
theorem Dr.rw (h : Bx xs S m r b sh i L R H) (w : Rw xs r m m1) : Dr xs S r b sh i m m1 L R H L R H 0 0 (fun _ => 0) :=
  ⟨h.rw w, w.frq (by simp), by omega, Nat.le_refl _, Nat.le_refl _, fun c C _ => ⟨0, by omega, Nat.zero_le _⟩⟩
/-- a step that costs nothing that is counted -/
theorem Dr.one (h : Bx xs S m r b sh i L R H) (w : Rw xs r m m1) {c2 : (Nat → Nat) → Nat} (hc : ∀ c, c2 c ≤ 1) : Dr xs S r b sh i m m1 L R H L R H 1 1 c2 :=
  (Dr.rw h w).up (by omega) (by omega) fun c => by have := hc c; simpa using this
end
/-- what a body that is drawn is -/
def BodyP (xs : List Int) (S : Shp) (r b sh i n d : Nat) : Prop := ∀ (f : Nat) (inner : Bool) (many : Nat) (m : M) (L R H : Nat), 3 * d + 2 ≤ f → many ≤ 6 → Bx xs S m r b sh i L R H →
  ∃ (B : Bd) (m' : M) (L' R' H' : Nat), m_bd f 0 [.obj r, .obj b, .int d, .bl inner, .int many] m = .ok (.tup B.encs) m' ∧ B.ok (S.map Prod.fst) i n inner ∧ B.dep ≤ d + 1 ∧ Dr xs S r b sh i m m' L R H L' R' H' B.cnt 0 (fun c => B.cost c)
theorem bd0 {f : Nat} : m_bd (f + 1) 0 = mkF 5 7 (b__law_body (m_bd f)) := rfl
theorem bd1 {f : Nat} : m_bd (f + 1) 1 = mkF 4 9 (b__law_drawn (m_bd f)) := rfl
theorem bd2 {f : Nat} : m_bd (f + 1) 2 = mkF 5 7 (b__law_try (m_bd f)) := rfl
@[simp] theorem at5 {a b c d e : D} : L2.atI [a, b, c, d, e] 4 = some e := rfl
theorem ix5 {k : Nat} {xs : List D} (h : xs.length = 5) (hk : k < 5) : ixN xs.length (k : Int) = some k := by rw [h]; exact ixN_k hk
theorem kp_at {n : Nat} {v : Int} (hn : n ≤ 4) (h : 0 ≤ v) (h' : v < 1 + n) : ∃ k : Option Nat, kOk n k ∧ L2.atI [D.non, .int 0, .int 1, .int 2, .int 3] v = some (kD k) := by
  have : v = 0 ∨ v = 1 ∨ v = 2 ∨ v = 3 ∨ v = 4 := by omega
  obtain rfl | rfl | rfl | rfl | rfl := this
  · exact ⟨none, fun i z => (by cases z), rfl⟩
  · exact ⟨some 0, fun i z => (by cases z; omega), rfl⟩
  · exact ⟨some 1, fun i z => (by cases z; omega), rfl⟩
  · exact ⟨some 2, fun i z => (by cases z; omega), rfl⟩
  · exact ⟨some 3, fun i z => (by cases z; omega), rfl⟩
theorem argsD {xs : List Int} {r n : Nat} (hn : 0 < n) (hn4 : n ≤ 4) {p : List D} {τ : Sl} (h0 : τ[0]? = some (some (.obj r))) (h6 : τ[6]? = some (some (.int n))) (hτ : τ.length = 9) : ∀ (ys acc : List D) (m : M), acc.length + ys.length < 100 → Row xs r m →
    ∃ (es : List Rk) (m' : M), compG (okS (p, none)) 8 tYs (eCall 3 (m_gr 6 0) (lCons (eVar 0) (lCons (eVar 6) (lCons (eC (.int 1)) lNil)))) τ ys acc m = .ok (acc ++ es.map Rk.enc) m' ∧ es.length = ys.length ∧ (∀ e ∈ es, e.ok n 3) ∧ Rw xs r m m'
  | [], acc, m, _, h => ⟨[], m, by rw [compG_nil okS_none]; simp, rfl, by simp, .refl h⟩
  | y :: ys, acc, m, hl, h => by
    simp only [List.length_cons] at hl
    obtain ⟨e, m1, e1, q1, R1, k1⟩ := reckoning_ok (n := n) hn (by omega) 1 6 m (by omega) h
    obtain ⟨es, m2, e2, l2, q2, R2⟩ := argsD hn hn4 (p := p) h0 h6 hτ ys (acc ++ [e.enc]) m1 (by simp; omega) R1.row
    have s0 : ∀ x : D, (τ.set 8 (some x))[0]? = some (some (.obj r)) := fun x => by rw [List.getElem?_set_ne (by decide)]; exact h0
    have s6 : ∀ x : D, (τ.set 8 (some x))[6]? = some (some (.int n)) := fun x => by rw [List.getElem?_set_ne (by decide)]; exact h6
    have hh : acc.length < 16777216 := by omega
    refine ⟨e :: es, m2, ?_, by simp [l2], fun z hz => ?_, R1.trans R2⟩
    · rw [compG_cons okS_none]
      have e1 : m_gr 6 0 [.obj r, .int n, .int 1] m = .ok e.enc m1 := e1
      simp [s0, s6, e1, hh]
      simpa using e2
    · rcases List.mem_cons.mp hz with rfl | hz
      · exact Rk.ok_mono q1 (by omega)
      · exact q2 z hz
/-- what a drawn step hands to -/
theorem lent_ok {xs : List Int} {S : Shp} {m : M} {r b sh i n L R H p : Nat} (hS : ∀ x ∈ S, x.1 ≤ 2) (hi : S[i]? = some (p, n)) (hn : 0 < n) (hn4 : n ≤ 4) (hS4 : S.length ≤ 4) (h : Bx xs S m r b sh i L R H) {e : Rk} (he : e.ok n 3) {k : Option Nat} (hk : kOk n k) {inner : Bool} :
    ∃ (s : Stp) (m' : M) (H' : Nat), m__law_lent [.obj r, .obj b, e.enc, kD k] m = .ok s.enc m' ∧ s.ok (S.map Prod.fst) i n inner ∧ s.dep = 1 ∧ Dr xs S r b sh i m m' L R H L R H' s.cnt 1 (fun c => s.cost c) := by
  have li := (List.getElem?_eq_some_iff.mp hi).1
  have hb := h.box
  have hs := h.shp
  have hat : L2.atI (S.map shD) (i : Int) = some (shD (p, n)) := atI_nat (by simp [hi])
  by_cases hl : (S.length : Int) - 1 - i = 0 ∨ H = 0
  · refine ⟨.say e, m, H, ?_, he, rfl, (Dr.one h (.refl h.row) fun c => Nat.le_refl 1)⟩
    rcases hl with hl | hl
    · simp [m__law_lent, mkF, b__law_lent, hb, hs, hl, Stp.enc]
    · have hl : (H : Int) = 0 := by omega
      simp [m__law_lent, mkF, b__law_lent, hb, hs, hl, Stp.enc]
  · have hl1 : ¬ (S.length : Int) - 1 - i = 0 := fun z => hl (.inl z)
    have hl2 : ¬ (H : Int) = 0 := fun z => hl (.inr (by omega))
    obtain ⟨H0, rfl⟩ : ∃ x, H = x + 1 := ⟨H - 1, by omega⟩
    have hl3 : ¬ (H0 : Int) + 1 = 0 := by omega
    have hput : (((H0 + 1 : Nat) : Int)) - 1 = (H0 : Int) := by omega
    obtain ⟨b1, f1⟩ := h.put (L' := L) (R' := R) (H' := H0) h.r2 rfl
    obtain ⟨m1, hm1⟩ : ∃ m1, m1 = m.set b (.lst [.int i, .obj sh, .int L, .int R, .int H0]) := ⟨_, rfl⟩
    rw [← hm1] at b1 f1
    obtain ⟨v, m2, e2, l2, u2, R2, k2⟩ := taken_ok (many := (S.length : Int) - 1 - i) b1.row (by omega) (by omega)
    have b2 := b1.rw R2
    obtain ⟨w, hw, hwi, hwl⟩ : ∃ w : Nat, (i : Int) + 1 + v = (w : Int) ∧ i < w ∧ w < S.length := ⟨(i + 1 + v).toNat, by omega, by omega, by omega⟩
    have hatw : L2.atI (S.map shD) (w : Int) = some (shD S[w]) := atI_nat (by simp [hwl])
    have hp2 := hS S[w] (List.getElem_mem _)
    obtain ⟨es, m3, e3, l3, q3, R3⟩ := argsD (r := r) hn hn4 (p := rangeFrom 0 S[w].1) (τ := [some (.obj r), some (.obj b), some e.enc, some (kD k), some (.int ((S.length : Int) - 1 - i)), some (.int w), some (.int n), none, none]) rfl rfl rfl (rangeFrom 0 S[w].1) [] m2 (by simp [rangeFrom_len]; omega) b2.row
    rw [rangeFrom_len] at l3
    rw [List.nil_append] at e3
    have b3 := b2.rw R3
    have hb1 := b1.box
    have hs1 := b1.shp
    have hb2 := b2.box
    have hs2 := b2.shp
    have hR : ∀ K, iR (eOp gIx (eOp gIx (eOp gIx (eVar 1) (eC (.int 1))) (eVar 5)) (eC (.int 0))) [some (.obj r), some (.obj b), some e.enc, some K, some (.int ((S.length : Int) - 1 - i)), some (.int w), some (.int n), none, none] m2 = .ok (rangeFrom 0 S[w].1, none) m2 := fun K => iR_nat (by simp [hb2, hs2, hatw, shD]) (by omega)
    refine ⟨.hand w es k, m3 ++ [.lst (es.map Rk.enc)], H0, ?_, ⟨hwi, by rw [List.getElem?_map, List.getElem?_eq_getElem hwl, l3]; rfl, q3, hk⟩, rfl, ?_⟩
    · have s1 : (sSet 4 (eOp gSub (eOp gSub (eCB gLen (lCons (eOp gIx (eVar 1) (eC (.int 1))) lNil)) (eC (.int 1))) (eOp gIx (eVar 1) (eC (.int 0))))) [some (.obj r), some (.obj b), some e.enc, some (kD k), none, none, none, none, none] m = .nx [some (.obj r), some (.obj b), some e.enc, some (kD k), some (.int ((S.length : Int) - 1 - i)), none, none, none, none] m := by simp [hb, hs]
      have hix : ixN 5 4 = some 4 := rfl
      have hget : S[w]? = some S[w] := List.getElem?_eq_getElem hwl
      show toR (b__law_lent [some (.obj r), some (.obj b), some e.enc, some (kD k), none, none, none, none, none] m) = _
      unfold b__law_lent
      rw [seq_nx s1 (seq_nx (τ1 := [some (.obj r), some (.obj b), some e.enc, some (kD k), some (.int ((S.length : Int) - 1 - i)), none, none, none, none]) (m1 := m) (by simp [hb, hl1, hl3]) (seq_nx (τ1 := [some (.obj r), some (.obj b), some e.enc, some (kD k), some (.int ((S.length : Int) - 1 - i)), none, none, none, none]) (m1 := m1) (by simp [hb, hix, hm1]) (seq_nx (τ1 := [some (.obj r), some (.obj b), some e.enc, some (kD k), some (.int ((S.length : Int) - 1 - i)), some (.int w), none, none, none]) (m1 := m2) (by simp [hb1, e2, hw]) (seq_nx (τ1 := [some (.obj r), some (.obj b), some e.enc, some (kD k), some (.int ((S.length : Int) - 1 - i)), some (.int w), some (.int n), none, none]) (m1 := m2) (by simp [hb2, hs2, hat, shD]) rfl))))]
      simp [-iR_eq, hR, e3, Stp.enc]
    · have b4 : Bx xs S (m3 ++ [.lst (es.map Rk.enc)]) r b sh i L R H0 := b3.fr (S' := []) (Fr.refl.add _) (by simp) (by simp) (by simp)
      refine ⟨b4, ((f1.trans (R2.frq (by simp))).trans (R3.frq (by simp))).add _, by simp only [Stp.cnt]; omega, Nat.le_refl _, by omega, fun c C hc => ⟨C, by rw [Nat.mul_add, Nat.mul_one]; omega, ?_⟩⟩
      have := hc w hwi
      have p : 1 * (C + 1) ≤ Tm i R * (C + 1) := Nat.mul_le_mul_right _ Tm_pos
      simp only [Stp.cost]
      omega
end Hb

set_option linter.all false
set_option autoImplicit false
set_option maxRecDepth 10000
set_option maxHeartbeats 4000000
/-! Hd2: steps and bodies that the law draws. -/
namespace Hb
open PySem L2 Sh Mi Tw
section
variable {xs : List Int} {S : Shp} {r b sh i n L R H : Nat}
theorem try_ok {d f : Nat} {m : M} {inner : Bool} {k : Option Nat} (hk : kOk n k) (IH : BodyP xs S r b sh i n d) (hf : 3 * d + 2 ≤ f) (h : Bx xs S m r b sh i L R H) :
    ∃ (s : Stp) (m' : M) (L' R' H' : Nat), m_bd (f + 1) 2 [.obj r, .obj b, .int d, .bl inner, kD k] m = .ok s.enc m' ∧ s.ok (S.map Prod.fst) i n inner ∧ s.dep ≤ d + 2 ∧ Dr xs S r b sh i m m' L R H L' R' H' s.cnt 1 (fun c => s.cost c) := by
  obtain ⟨A, m1, L1, R1, H1, e1, o1, d1, D1⟩ := IH f inner 3 m L R H hf (by omega) h
  obtain ⟨v, m2, e2, l2, u2, R2, k2⟩ := taken_ok D1.bx.row (many := 3) (by decide) (by decide)
  have D2 := D1.seq (Dr.rw D1.bx R2)
  have e1' : m_bd f 0 [.obj r, .obj b, .int d, .bl inner, .int 3] m = .ok (.tup A.encs) m1 := e1
  by_cases hv : 0 < v
  · obtain ⟨C, m3, L3, R3, H3, e3, o3, d3, D3⟩ := IH f inner 2 m2 L1 R1 H1 hf (by omega) D2.bx
    obtain ⟨Z, m4, L4, R4, H4, e4, o4, d4, D4⟩ := IH f inner 2 m3 L3 R3 H3 hf (by omega) D3.bx
    have e3' : m_bd f 0 [.obj r, .obj b, .int d, .bl inner, .int 2] m2 = .ok (.tup C.encs) m3 := e3
    have e4' : m_bd f 0 [.obj r, .obj b, .int d, .bl inner, .int 2] m3 = .ok (.tup Z.encs) m4 := e4
    refine ⟨.tri A (.yes k C) Z, m4, L4, R4, H4, by simp [bd2, mkF, b__law_try, e1', e2, hv, e3', e4', Stp.enc, Ct.enc], ⟨o1, ⟨hk, o3⟩, o4⟩, by simp only [Stp.dep, Ct.dep]; omega, ((D2.seq D3).seq D4).up ?_ (by omega) fun c => ?_⟩
    · simp only [Stp.cnt, Ct.cnt]; omega
    · simp only [Stp.cost, Ct.cost]; omega
  · obtain ⟨Z, m4, L4, R4, H4, e4, o4, d4, D4⟩ := IH f inner 2 m2 L1 R1 H1 hf (by omega) D2.bx
    have e4' : m_bd f 0 [.obj r, .obj b, .int d, .bl inner, .int 2] m2 = .ok (.tup Z.encs) m4 := e4
    refine ⟨.tri A .no Z, m4, L4, R4, H4, by simp [bd2, mkF, b__law_try, e1', e2, hv, e4', Stp.enc, Ct.enc], ⟨o1, True.intro, o4⟩, by simp only [Stp.dep, Ct.dep]; omega, (D2.seq D4).up ?_ (by omega) fun c => ?_⟩
    · simp only [Stp.cnt, Ct.cnt]; omega
    · simp only [Stp.cost, Ct.cost]; omega
theorem Tm_round {i R0 t : Nat} (h2 : R0 + 1 ≤ 2) (ht : t ≤ if R0 = 0 ∧ i = 0 then 9 else 2) : t * Tm i R0 ≤ Tm i (R0 + 1) := by
  match R0 with
  | 0 =>
    simp only [Tm]
    by_cases hi : i = 0
    · simp [hi] at ht ⊢; exact ht
    · simp [hi] at ht ⊢; exact ht
  | 1 =>
    simp only [Tm]
    have ht : t ≤ 2 := by simpa using ht
    by_cases hi : i = 0
    · simp [hi]; omega
    · simp [hi]; omega
  | R0 + 2 => omega
/-- a step that is drawn -/
def StepP (xs : List Int) (S : Shp) (r b sh i n deep : Nat) : Prop := ∀ (f : Nat) (inner : Bool) (m : M) (L R H : Nat), 3 * deep + 1 ≤ f → Bx xs S m r b sh i L R H →
  ∃ (s : Stp) (m' : M) (L' R' H' : Nat), m_bd f 1 [.obj r, .obj b, .int deep, .bl inner] m = .ok s.enc m' ∧ s.ok (S.map Prod.fst) i n inner ∧ s.dep ≤ deep + 1 ∧ Dr xs S r b sh i m m' L R H L' R' H' s.cnt 1 (fun c => s.cost c)
theorem drawn_ok {p deep : Nat} (hS : ∀ x ∈ S, x.1 ≤ 2) (hi : S[i]? = some (p, n)) (hn : 0 < n) (hn4 : n ≤ 4) (hS4 : S.length ≤ 4) (IH : ∀ d, deep = d + 1 → BodyP xs S r b sh i n d) : StepP xs S r b sh i n deep := by
  intro f inner m L R H hf h
  obtain ⟨f, rfl⟩ : ∃ g, f = g + 1 := ⟨f - 1, by omega⟩
  have hb := h.box
  have hs := h.shp
  have hat : L2.atI (S.map shD) (i : Int) = some (shD (p, n)) := atI_nat (by simp [hi])
  obtain ⟨v, m1, e1, l1, u1, R1, k1⟩ := taken_ok h.row (many := 4) (by decide) (by decide)
  obtain ⟨dv, rfl⟩ : ∃ j : Nat, v = (j : Int) := ⟨v.toNat, by omega⟩
  obtain ⟨e, m2, e2, q2, R2, k2⟩ := reckoning_ok (n := n) hn (by omega) dv 6 m1 (by omega) R1.row
  have he : e.ok n 3 := Rk.ok_mono q2 (by omega)
  obtain ⟨v3, m3, e3, l3, u3, R3, k3⟩ := taken_ok R2.row (many := 1 + n) (by omega) (by omega)
  obtain ⟨k, hk, ek⟩ := kp_at hn4 l3 u3
  obtain ⟨w, m4, e4, l4, u4, R4, k4⟩ := taken_ok R3.row (many := if 0 < deep then 17 else 11) (by split <;> omega) (by split <;> omega)
  have R14 : Rw xs r m m4 := ((R1.trans R2).trans R3).trans R4
  have h4 := h.rw R14
  have D4 : Dr xs S r b sh i m m4 L R H L R H 0 0 (fun _ => 0) := Dr.rw h R14
  have hb4 := h4.box
  have s1 : (sSet 4 (eOp gIx (eOp gIx (eOp gIx (eVar 1) (eC (.int 1))) (eOp gIx (eVar 1) (eC (.int 0)))) (eC (.int 1)))) [some (.obj r), some (.obj b), some (.int deep), some (.bl inner), none, none, none, none, none] m = .nx [some (.obj r), some (.obj b), some (.int deep), some (.bl inner), some (.int n), none, none, none, none] m := by simp [hb, hs, hat, shD]
  have s2 : (sSet 5 (eCall 3 (m_gr 6 0) (lCons (eVar 0) (lCons (eVar 4) (lCons (eCall 2 m__law_taken (lCons (eVar 0) (lCons (eC (.int 4)) lNil))) lNil))))) [some (.obj r), some (.obj b), some (.int deep), some (.bl inner), some (.int n), none, none, none, none] m = .nx [some (.obj r), some (.obj b), some (.int deep), some (.bl inner), some (.int n), some e.enc, none, none, none] m2 := by simp [e1, e2]
  have s3 : (sSet 6 (eIxL (lLst (lCons (eC .non) (lCons (eC (.int 0)) (lCons (eC (.int 1)) (lCons (eC (.int 2)) (lCons (eC (.int 3)) lNil)))))) (eCall 2 m__law_taken (lCons (eVar 0) (lCons (eOp gAdd (eC (.int 1)) (eVar 4)) lNil))))) [some (.obj r), some (.obj b), some (.int deep), some (.bl inner), some (.int n), some e.enc, none, none, none] m2 = .nx [some (.obj r), some (.obj b), some (.int deep), some (.bl inner), some (.int n), some e.enc, some (kD k), none, none] m3 := by simp [e3, ek]
  have s4 : (sSet 7 (eCall 2 m__law_taken (lCons (eVar 0) (lCons (eIxL (lLst (lCons (eC (.int 11)) (lCons (eC (.int 17)) lNil))) (eCB gInt (lCons (eOp gGt (eVar 2) (eC (.int 0))) lNil))) lNil)))) [some (.obj r), some (.obj b), some (.int deep), some (.bl inner), some (.int n), some e.enc, some (kD k), none, none] m3 = .nx [some (.obj r), some (.obj b), some (.int deep), some (.bl inner), some (.int n), some e.enc, some (kD k), some (.int w), none] m4 := by
    by_cases hd0 : 0 < deep
    · have hd1 : (0 : Int) < (deep : Int) := by omega
      rw [if_pos hd0] at e4
      simp [hd0, e4]
    · have hd1 : ¬ (0 : Int) < (deep : Int) := by omega
      rw [if_neg hd0] at e4
      simp [hd0, e4]
  have goal : ∀ {s : Stp} {m' : M}, (toR ((sSeq (sIf (tB (eOp gLt (eVar 7) (eC (.int 2)))) (sRet (eTup (lCons (eC (.wd 15)) (lCons (eCall 2 m__law_taken (lCons (eVar 0) (lCons (eVar 4) lNil))) (lCons (eVar 5) lNil))))) sNx) _) [some (.obj r), some (.obj b), some (.int deep), some (.bl inner), some (.int n), some e.enc, some (kD k), some (.int w), none] m4) = .ok s.enc m') → m_bd (f + 1) 1 [.obj r, .obj b, .int deep, .bl inner] m = .ok s.enc m' := fun {s m'} z => by
    show toR (b__law_drawn (m_bd f) [some (.obj r), some (.obj b), some (.int deep), some (.bl inner), none, none, none, none, none] m) = _
    unfold b__law_drawn
    rw [seq_nx s1 (seq_nx s2 (seq_nx s3 (seq_nx s4 rfl)))]
    exact z
  clear s1 s2 s3 s4 e4
  by_cases c2 : w < 2
  · obtain ⟨j, m5, e5, l5, u5, R5, k5⟩ := taken_ok h4.row (many := (n : Int)) (by omega) (by omega)
    obtain ⟨j, rfl⟩ : ∃ x : Nat, j = (x : Int) := ⟨j.toNat, by omega⟩
    exact ⟨.set j e, m5, L, R, H, goal (by simp [c2, e5, Stp.enc]), ⟨by omega, he⟩, by simp only [Stp.dep]; omega, Dr.one h (R14.trans R5) fun c => Nat.zero_le _⟩
  by_cases c4 : w < 4
  · exact ⟨.say e, m4, L, R, H, goal (by simp [c2, c4, Stp.enc]), he, by simp only [Stp.dep]; omega, Dr.one h R14 fun c => Nat.le_refl _⟩
  by_cases c7 : w < 7
  · have c8 : ¬ w = 8 := by omega
    exact ⟨.give e k, m4, L, R, H, goal (by simp [c2, c4, c7, c8, Stp.enc]), ⟨he, hk⟩, by simp only [Stp.dep]; omega, Dr.one h R14 fun c => Nat.zero_le _⟩
  by_cases c7' : w = 7
  · subst c7'
    obtain ⟨j, m5, e5, l5, u5, R5, k5⟩ := taken_ok h4.row (many := 2) (by decide) (by decide)
    have : j = 0 ∨ j = 1 := by omega
    obtain rfl | rfl := this
    · exact ⟨.fault e, m5, L, R, H, goal (by simp [e5, Stp.enc]), he, by simp only [Stp.dep]; omega, Dr.one h (R14.trans R5) fun c => Nat.zero_le _⟩
    · exact ⟨.fin e, m5, L, R, H, goal (by simp [e5, Stp.enc]), he, by simp only [Stp.dep]; omega, Dr.one h (R14.trans R5) fun c => Nat.zero_le _⟩
  by_cases c8 : w = 8
  · subst c8
    cases inner with
    | false => exact ⟨.say e, m4, L, R, H, goal (by simp [Stp.enc]), he, by simp only [Stp.dep]; omega, Dr.one h R14 fun c => Nat.le_refl _⟩
    | true => exact ⟨.leave, m4, L, R, H, goal (by simp [Stp.enc]), rfl, by simp only [Stp.dep]; omega, Dr.one h R14 fun c => Nat.zero_le _⟩
  by_cases c11 : w < 11
  · obtain ⟨s, m5, H', e5, o5, d5, D5⟩ := lent_ok (inner := inner) hS hi hn hn4 hS4 h4 he hk
    exact ⟨s, m5, L, R, H', goal (by simp [c2, c4, c7, c7', c8, c11, e5]), o5, by omega, (D4.seq D5).up (by omega) (by omega) fun c => by omega⟩
  obtain ⟨d, rfl⟩ : ∃ d, deep = d + 1 := ⟨deep - 1, by
    have : 0 < deep := by
      refine Nat.pos_of_ne_zero fun z => ?_
      subst z
      simp at u4
      omega
    omega⟩
  have IH := IH d rfl
  have hd1 : (((d + 1 : Nat) : Int)) - 1 = (d : Int) := by omega
  have hd2 : (d : Int) + 1 - 1 = (d : Int) := by omega
  have ifc : (w < 13 ∨ (w = 13 ∧ R = 0)) → ∃ (s : Stp) (m' : M) (L' R' H' : Nat), m_bd (f + 1) 1 [.obj r, .obj b, .int ((d + 1 : Nat) : Int), .bl inner] m = .ok s.enc m' ∧ s.ok (S.map Prod.fst) i n inner ∧ s.dep ≤ d + 1 + 1 ∧ Dr xs S r b sh i m m' L R H L' R' H' s.cnt 1 (fun c => s.cost c) := by
    intro hw
    obtain ⟨A, m5, L5, R5, H5, e5, o5, d5, D5⟩ := IH f inner 3 m4 L R H (by omega) (by omega) h4
    obtain ⟨Z, m6, L6, R6, H6, e6, o6, d6, D6⟩ := IH f inner 2 m5 L5 R5 H5 (by omega) (by omega) D5.bx
    have e5' : m_bd f 0 [.obj r, .obj b, .int d, .bl inner, .int 3] m4 = .ok (.tup A.encs) m5 := e5
    have e6' : m_bd f 0 [.obj r, .obj b, .int d, .bl inner, .int 2] m5 = .ok (.tup Z.encs) m6 := e6
    refine ⟨.ife e A Z, m6, L6, R6, H6, goal ?_, ⟨he, o5, o6⟩, by simp only [Stp.dep]; omega, ((D4.seq D5).seq D6).up (by simp only [Stp.cnt]; omega) (by omega) fun c => by simp only [Stp.cost]; omega⟩
    rcases hw with hw | ⟨hw, hR⟩
    · simp [c2, c4, c7, c7', c8, c11, hw, hd1, hd2, e5', e6', Stp.enc]
    · subst hw; subst hR
      simp at hb4
      simp [hb4, hd1, hd2, e5', e6', Stp.enc]
  by_cases c13 : w < 13
  · exact ifc (.inl c13)
  by_cases c13' : w = 13
  · by_cases hR : R = 0
    · exact ifc (.inr ⟨c13', hR⟩)
    · subst c13'
      obtain ⟨R0, rfl⟩ : ∃ x, R = x + 1 := ⟨R - 1, by omega⟩
      have hr2 := h.r2
      obtain ⟨b5, f5⟩ := h4.put (L' := L) (R' := R0) (H' := H) (by omega) rfl
      obtain ⟨m5, hm5⟩ : ∃ m5, m5 = m4.set b (.lst [.int i, .obj sh, .int L, .int R0, .int H]) := ⟨_, rfl⟩
      rw [← hm5] at b5 f5
      obtain ⟨y, m6, e6, l6, u6, R6, k6⟩ := taken_ok b5.row (many := 3) (by decide) (by decide)
      have b6 := b5.rw R6
      obtain ⟨A, m7, L7, R7, H7, e7, o7, d7, D7⟩ := IH f true 3 m6 L R0 H (by omega) (by omega) b6
      have e7' : m_bd f 0 [.obj r, .obj b, .int d, .bl true, .int 3] m6 = .ok (.tup A.encs) m7 := e7
      have hb5 := b5.box
      have hb6 := b6.box
      have hix : ixN 5 3 = some 3 := rfl
      have hR0 : ¬ (R0 : Int) + 1 = 0 := by omega
      simp only [Int.natCast_add, Int.natCast_one] at hb4
      have fin : ∀ ee : Rk, ee.ok n 3 → ee.top ≤ (if R0 = 0 ∧ i = 0 then 9 else 2) → Dr xs S r b sh i m m7 L (R0 + 1) H L7 R7 H7 (Stp.round ee A).cnt 1 (fun c => (Stp.round ee A).cost c) := by
        intro ee hee ht
        refine ⟨D7.bx, ((D4.fr.trans f5).trans (R6.frq (by simp))).trans D7.fr, by have := D7.cnt; simp only [Stp.cnt]; omega, by have := D7.hr; omega, D7.hh, fun c C hc => ?_⟩
        obtain ⟨q, a, z⟩ := D7.cst c C hc
        refine ⟨q, a, ?_⟩
        simp only [Stp.cost]
        have t1 := Nat.mul_le_mul_left ee.top z
        have t2 := Nat.mul_le_mul_right q (Tm_round hr2 ht)
        have t3 : ee.top * (Tm i R0 * (q + 0)) = ee.top * Tm i R0 * q := by rw [Nat.add_zero, Nat.mul_assoc]
        have t4 : Tm i (R0 + 1) * q ≤ Tm i (R0 + 1) * (q + 1) := Nat.mul_le_mul_left _ (by omega)
        omega
      by_cases hz : R0 = 0 ∧ i = 0
      · obtain ⟨rfl, rfl⟩ := hz
        refine ⟨.round e A, m7, L7, R7, H7, goal ?_, ⟨he, o7⟩, by simp only [Stp.dep]; omega, fin e he (by simpa using top9)⟩
        simp at hb4 hb5 hb6 hm5
        simp [hb4, hix, ← hm5, e6, hb6, hd1, hd2, e7', Stp.enc]
      · refine ⟨.round (.num y) A, m7, L7, R7, H7, goal ?_, ⟨⟨l6, by omega⟩, o7⟩, by simp only [Stp.dep]; omega, fin (.num y) ⟨l6, by omega⟩ (by rw [if_neg hz]; simp only [Rk.top]; omega)⟩
        by_cases hz1 : R0 = 0
        · have hz2 : ¬ i = 0 := fun z => hz ⟨hz1, z⟩
          subst hz1
          simp at hb4 hb5 hb6 hm5
          simp [hb4, hix, ← hm5, e6, hb6, hz2, hd1, hd2, e7', Stp.enc, Rk.enc]
        · have hz2 : ¬ R0 = 0 := hz1
          simp [hb4, hR0, hix, ← hm5, e6, hb6, hz2, hd1, hd2, e7', Stp.enc, Rk.enc]
  · obtain ⟨f', rfl⟩ : ∃ g, f = g + 1 := ⟨f - 1, by omega⟩
    obtain ⟨s, m5, L5, R5, H5, e5, o5, d5, D5⟩ := try_ok (f := f') (inner := inner) hk IH (by omega) h4
    exact ⟨s, m5, L5, R5, H5, goal (by simp [c2, c4, c7, c7', c8, c11, c13, c13', hd1, hd2, e5]), o5, d5, (D4.seq D5).up (by omega) (by omega) fun c => by omega⟩
end
end Hb

set_option linter.all false
set_option autoImplicit false
set_option maxRecDepth 10000
set_option maxHeartbeats 4000000
/-! Hd3: bodies that the law draws, by their depth. -/
namespace Hb
open PySem L2 Sh Mi Tw
section
variable {xs : List Int} {S : Shp} {r b sh i n : Nat}
theorem bodyL {d f q : Nat} {inner : Bool} {A4 : Option D} (SP : StepP xs S r b sh i n d) (hf : 3 * d + 1 ≤ f) (hqr : q ≠ r) (hqb : q ≠ b) (hqs : q ≠ sh) : ∀ (ys acc : List D) (m : M) (L R H : Nat) (x6 : Option D), acc.length + ys.length < 1000 → Bx xs S m r b sh i L R H → m[q]? = some (.lst acc) →
    ∃ (B : Bd) (m' : M) (L' R' H' : Nat) (y6 : Option D), loop (gN 6) (lb__law_body_0 (m_bd f)) ys [some (.obj r), some (.obj b), some (.int d), some (.bl inner), A4, some (.obj q), x6] m = .nx [some (.obj r), some (.obj b), some (.int d), some (.bl inner), A4, some (.obj q), y6] m' ∧ m'[q]? = some (.lst (acc ++ B.encs)) ∧ B.ok (S.map Prod.fst) i n inner ∧ B.dep ≤ d + 1 ∧
      Bx xs S m' r b sh i L' R' H' ∧ Fr [r, b, q] m m' ∧ B.cnt + L' ≤ L ∧ R' ≤ R ∧ H' ≤ H ∧ (∀ (c : Nat → Nat) (C : Nat), (∀ w, i < w → c w ≤ C) → ∃ k, k + (L' + C * H') = L + C * H ∧ B.cost c ≤ Tm i R * k)
  | [], acc, m, L, R, H, x6, hl, h, hq => ⟨.nil, m, L, R, H, x6, rfl, by simpa [Bd.encs] using hq, True.intro, by simp only [Bd.dep]; omega, h, .refl, by simp only [Bd.cnt]; omega, Nat.le_refl _, Nat.le_refl _, fun c C _ => ⟨0, by omega, by simp only [Bd.cost]; omega⟩⟩
  | y :: ys, acc, m, L, R, H, x6, hl, h, hq => by
    simp only [List.length_cons] at hl
    have hb := h.box
    by_cases hL : L = 0
    · obtain ⟨B, m', L', R', H', y6, e, r'⟩ := bodyL (inner := inner) (A4 := A4) SP hf hqr hqb hqs ys acc m L R H (some y) (by omega) h hq
      refine ⟨B, m', L', R', H', y6, ?_, r'⟩
      rw [← e]
      subst hL
      simp at hb
      simp [loop, lb__law_body_0, hb]
    · obtain ⟨L0, rfl⟩ : ∃ x, L = x + 1 := ⟨L - 1, by omega⟩
      obtain ⟨b1, f1⟩ := h.put (L' := L0) (R' := R) (H' := H) h.r2 rfl
      obtain ⟨m1, hm1⟩ : ∃ m1, m1 = m.set b (.lst [.int i, .obj sh, .int L0, .int R, .int H]) := ⟨_, rfl⟩
      rw [← hm1] at b1 f1
      obtain ⟨s, m2, L2, R2, H2, e2, o2, d2, D2⟩ := SP f inner m1 L0 R H hf b1
      have q1 : m1[q]? = some (.lst acc) := f1.keeps (by simp; omega) hq
      have q2 : m2[q]? = some (.lst acc) := D2.fr.keeps (by simp; omega) q1
      have b3 : Bx xs S (m2.set q (.lst (acc ++ [s.enc]))) r b sh i L2 R2 H2 := D2.bx.fr (S' := [q]) (Fr.refl.set _ fun _ => by simp) (by simp; omega) (by simp; omega) (by simp; omega)
      obtain ⟨B, m', L', R', H', y6, e, hq', oB, dB, bB, fB, cB, rB, hB, kB⟩ := bodyL (inner := inner) (A4 := A4) SP hf hqr hqb hqs ys (acc ++ [s.enc]) (m2.set q (.lst (acc ++ [s.enc]))) L2 R2 H2 (some y) (by simp; omega) b3 (get_set q2)
      have hix : ixN 5 2 = some 2 := rfl
      have hacc : acc.length < 16777216 := by omega
      simp only [Int.natCast_add, Int.natCast_one] at hb
      have cn := D2.cnt
      have hr := D2.hr
      have hh := D2.hh
      refine ⟨.cons s B, m', L', R', H', y6, ?_, by simpa [Bd.encs] using hq', ⟨o2, oB⟩, by simp only [Bd.dep]; omega, bB, ?_, by simp only [Bd.cnt]; omega, by omega, by omega, fun c C hc => ?_⟩
      · rw [← e]
        have hL1 : (0 : Int) < (L0 : Int) + 1 := by omega
        have : lb__law_body_0 (m_bd f) [some (.obj r), some (.obj b), some (.int d), some (.bl inner), A4, some (.obj q), some y] m = .nx [some (.obj r), some (.obj b), some (.int d), some (.bl inner), A4, some (.obj q), some y] (m2.set q (.lst (acc ++ [s.enc]))) := by
          simp [lb__law_body_0, hb, hL1, hix, ← hm1, e2, q1, q2, hacc]
        simp [loop, this]
      · refine (f1.sub (by simp)).trans ((D2.fr.sub (by simp)).trans (Fr.trans (Fr.refl.set _ fun _ => by simp) fB))
      · obtain ⟨k1, a1, z1⟩ := D2.cst c C hc
        obtain ⟨k2, a2, z2⟩ := kB c C hc
        refine ⟨k1 + 1 + k2, by omega, ?_⟩
        have : Tm i R2 * k2 ≤ Tm i R * k2 := Nat.mul_le_mul_right _ (Tm_mono hr)
        have e : Tm i R * (k1 + 1 + k2) = Tm i R * (k1 + 1) + Tm i R * k2 := by rw [← Nat.mul_add]
        rw [e]
        simp only [Bd.cost]
        omega
theorem body_of {d : Nat} (hi : i < S.length) (SP : StepP xs S r b sh i n d) : BodyP xs S r b sh i n d := by
  intro f inner many m L R H hf hm h
  obtain ⟨f, rfl⟩ : ∃ g, f = g + 1 := ⟨f - 1, by omega⟩
  have lr := h.row.lt
  have lb := get_lt h.box
  have ls := get_lt h.shp
  have f0 : Fr [] m (m ++ [O.lst []]) := Fr.refl.add _
  have h1 : Bx xs S (m ++ [O.lst []]) r b sh i L R H := h.fr f0 (by simp) (by simp) (by simp)
  obtain ⟨v, m1, e1, l1, u1, R1, k1⟩ := taken_ok h1.row (many := (many : Int) + 1) (by omega) (by omega)
  obtain ⟨k, rfl⟩ : ∃ k : Nat, v = (k : Int) := ⟨v.toNat, by omega⟩
  have q1 : m1[m.length]? = some (.lst []) := R1.keeps (by omega) get_new
  obtain ⟨B, m', L', R', H', y6, e, hq, oB, dB, bB, fB, cB, rB, hB, kB⟩ := bodyL (f := f) (inner := inner) (A4 := some (.int many)) (q := m.length) SP (by omega) (by omega) (by omega) (by omega) (rangeFrom 0 k) [] m1 L R H none (by simp [rangeFrom_len]; omega) (h1.rw R1) q1
  have hR : iR (eCall 2 m__law_taken (lCons (eVar 0) (lCons (eOp gAdd (eVar 4) (eC (.int 1))) lNil))) [some (.obj r), some (.obj b), some (.int d), some (.bl inner), some (.int many), some (.obj m.length), none] (m ++ [.lst []]) = .ok (rangeFrom 0 k, none) m1 := iR_nat (by simp [e1]) (by omega)
  refine ⟨B, m', L', R', H', by simp [bd0, mkF, b__law_body, -iR_eq, hR, e, hq], oB, dB, ⟨bB, ?_, by omega, rB, hB, fun c C hc => ?_⟩⟩
  · have hl : m.length + 1 ≤ m1.length := by have := R1.len; simpa using this
    refine ⟨by have := fB.1; omega, fun j hj nj => ?_⟩
    simp at nj
    rw [fB.2 j (by omega) (by simp; omega), R1.other (by omega) (by simp; omega), List.getElem?_append_left hj]
  · obtain ⟨k, a, z⟩ := kB c C hc
    exact ⟨k, a, by simpa using z⟩
theorem body_ok {p : Nat} (hS : ∀ x ∈ S, x.1 ≤ 2) (hi : S[i]? = some (p, n)) (hn : 0 < n) (hn4 : n ≤ 4) (hS4 : S.length ≤ 4) : ∀ d, BodyP xs S r b sh i n d
  | 0 => body_of (List.getElem?_eq_some_iff.mp hi).1 (drawn_ok hS hi hn hn4 hS4 fun d z => by omega)
  | d + 1 => body_of (List.getElem?_eq_some_iff.mp hi).1 (drawn_ok hS hi hn hn4 hS4 fun d' z => by
    have : d = d' := by omega
    subst this
    exact body_ok hS hi hn hn4 hS4 d)
end
end Hb

set_option linter.all false
set_option autoImplicit false
set_option maxRecDepth 10000
set_option maxHeartbeats 4000000
/-! Ht: the towers that the law draws. -/
namespace Hb
open PySem L2 Sh Mi Tw
def Kt : Nat → Nat
  | 0 => 0
  | t + 1 => 2 * Kt t + 3
structure Tow (n t : Nat) (s : Stp) : Prop where
  ok : ∀ (ps : List Nat) (i : Nat) (r : Bool), s.ok ps i n r
  dep : s.dep ≤ t + 1
  cnt : s.cnt ≤ 1 + 4 * t
  cost : ∀ c, s.cost c ≤ Kt t
  hd : ∃ a rest, s.enc = .tup (.wd a :: rest) ∧ (a = 17 ∨ a = 20 ∨ a = 22)
theorem wd_at2 : wds0[16]? = some (Str.ofString "say") ∧ wds0[8]? = some (Str.ofString "num") ∧ wds0[17]? = some (Str.ofString "give") ∧ wds0[20]? = some (Str.ofString "round") ∧ wds0[22]? = some (Str.ofString "try") := ⟨rfl, rfl, rfl, rfl, rfl⟩
theorem c2 : PyData.canLay0 (.str (Str.ofString "say")) = true ∧ PyData.canLay0 (.str (Str.ofString "num")) = true ∧ PyData.canLay0 (.str (Str.ofString "give")) = true ∧ PyData.canLay0 (.str (Str.ofString "round")) = true ∧ PyData.canLay0 (.str (Str.ofString "try")) = true := by decide +kernel
theorem s3 : (Str.ofString "give" == Str.ofString "say") = false ∧ (Str.ofString "round" == Str.ofString "say") = false ∧ (Str.ofString "try" == Str.ofString "say") = false := by decide +kernel
theorem gne_of {m : M} {x y : D} {p q : PyData} {b : Bool} (h1 : dat wds0 m x = some p) (h2 : dat wds0 m y = some q) (s1 : SeqAt.shaped p = true) (s2 : SeqAt.shaped q = true) (e : PyData.eqv p q = b) : gNeD wds0 m x y = some (.bl (!b)) := by
  unfold gNeD
  rw [h1, h2]
  simp [s1, s2, e]
def wordT (j : Int) : Stp := .say (.num j)
theorem word_dat {m : M} {j : Int} : dat wds0 m (.tup [(wordT j).enc]) = some (.tuple [.tuple [.str (Str.ofString "say"), .tuple [.str (Str.ofString "num"), .int j]]]) := by
  simp [dat, datR, datAll, wordT, Stp.enc, Rk.enc, wd_at2]
theorem word_shp {j : Int} : SeqAt.shaped (.tuple [.tuple [.str (Str.ofString "say"), .tuple [.str (Str.ofString "num"), .int j]]]) = true := by
  obtain ⟨a, b, _⟩ := c2
  refine shp ?_ (by simp [PyData.depth, PyData.depthAll])
  simp only [PyData.canLay0, PyData.canLayAll0] at a b ⊢
  simp [a, b]
theorem word_eq {m : M} {j : Int} : gNeD wds0 m (.tup [(wordT j).enc]) (.tup [(wordT j).enc]) = some (.bl false) :=
  gne_of (b := true) word_dat word_dat word_shp word_shp (SeqAt.eqv_refl _ (by
    obtain ⟨a, b, _⟩ := c2
    simp only [PyData.canLay0, PyData.canLayAll0] at a b ⊢
    simp [a, b]))
theorem word_ne {n t : Nat} {s : Stp} {m : M} {j : Int} (h : Tow n t s) (ht : t ≤ 6) : gNeD wds0 m (.tup [s.enc]) (.tup [(wordT j).enc]) = some (.bl true) := by
  have pl := Stp.pl (ps := []) (i := 0) (n := n) (fun w k z => by cases z) s (h.ok [] 0 true) (by have := h.cnt; omega)
  obtain ⟨a, rest, e, ha⟩ := h.hd
  rw [e] at pl ⊢
  have hd := h.dep
  have pl' : Pl 25 (.tup (.wd a :: rest)) := pl.up (by omega)
  have pr : ∀ x ∈ rest, Pl 24 x := by
    cases pl' with
    | tup hx _ => exact fun x hm => hx x (List.mem_cons_of_mem _ hm)
  obtain ⟨ps, p1, p2, p3⟩ := pl_all rest fun x hx => pl_dat (pr x hx)
  have core : ∀ X : Str, wds0[a]? = some X → PyData.canLay0 (.str X) = true → (X == Str.ofString "say") = false → gNeD wds0 m (.tup [.tup (.wd a :: rest)]) (.tup [(wordT j).enc]) = some (.bl true) := by
    intro X hX hc hne
    refine gne_of (b := false) (p := .tuple [.tuple (.str X :: ps)]) ?_ word_dat ?_ word_shp ?_
    · simp [dat, datR, datAll, hX, p3]
    · refine shp ?_ (by simp [PyData.depth, PyData.depthAll]; omega)
      simp only [PyData.canLay0, PyData.canLayAll0] at hc ⊢
      simp [hc, p1]
    · simp [PyData.eqv, PyData.eqvAll, hne]
  obtain ⟨w1, w2, w3, w4, w5⟩ := wd_at2
  obtain ⟨l1, l2, l3, l4, l5⟩ := c2
  obtain ⟨n1, n2, n3⟩ := s3
  obtain rfl | rfl | rfl := ha
  · exact core _ w3 l3 n1
  · exact core _ w4 l4 n2
  · exact core _ w5 l5 n3
theorem cut43 {a b c d : D} : cutD [a, b, c, d] none (some 3) = [a, b, c] := by
  unfold cutD
  rw [HT.sIx_none, show HT.sIx [a, b, c, d].length [a, b, c, d].length (some 3) = 3 from HT.sIx_nat _ _ 3]
  rfl
theorem tow_one {xs : List Int} {r n : Nat} {A1 x6 x5 : Option D} {m : M} {j : Nat} {sort : Int} {s : Stp} (hn : 0 < n) (hj : j < 6) (h : Row xs r m) (T : Tow n j s) :
    ∃ (s' : Stp) (m' : M) (y5 y6 : Option D), lb__law_tower_v2_0 [some (.obj r), A1, some s.enc, some (.int sort), some (.int j), x5, x6] m = .nx [some (.obj r), A1, some s'.enc, some (.int sort), some (.int j), y5, y6] m' ∧ Tow n (j + 1) s' ∧ Rw xs r m m' := by
  obtain ⟨w, hw⟩ : ∃ w, w = (10 : Int) + j := ⟨_, rfl⟩
  have hwn : Num w := ⟨by omega, by omega⟩
  have wok : ∀ (ps : List Nat) (i : Nat) (r : Bool), (wordT w).ok ps i n r := fun _ _ _ => hwn
  have wc : ∀ c, (wordT w).cost c = 1 := fun _ => rfl
  have wd1 : (wordT w).dep = 1 := rfl
  have wn1 : (wordT w).cnt = 1 := rfl
  have dp : 1 ≤ s.dep := by cases s <;> simp only [Stp.dep] <;> omega
  have hcost := T.cost
  have hcnt := T.cnt
  have hdep := T.dep
  by_cases hc : sort = 1 ∨ (sort = 2 ∧ (j : Int) % 2 = 1)
  · obtain ⟨v, m1, e1, l1, u1, R1, k1⟩ := taken_ok h (many := 2) (by decide) (by decide)
    refine ⟨.round (.num (1 + v)) (.cons s (.cons (wordT w) .nil)), m1, some (wordT w).enc, x6, ?_, ⟨fun ps i r => ⟨⟨by omega, by omega⟩, T.ok _ _ _, wok _ _ _, True.intro⟩, by simp only [Stp.dep, Bd.dep, wd1]; omega, by simp only [Stp.cnt, Bd.cnt, wn1]; omega, fun c => ?_, 20, _, rfl, .inr (.inl rfl)⟩, R1⟩
    · rcases hc with rfl | ⟨rfl, hc⟩
      · simp [lb__law_tower_v2_0, ← hw, e1, Stp.enc, Rk.enc, Bd.encs, wordT]
      · simp [lb__law_tower_v2_0, ← hw, hc, e1, Stp.enc, Rk.enc, Bd.encs, wordT]
    · have h1 := hcost c
      have ht : (Rk.num (1 + v)).top ≤ 2 := by simp only [Rk.top]; omega
      have := Nat.mul_le_mul ht (show s.cost c + (1 + 0) ≤ Kt j + 1 by omega)
      simp only [Stp.cost, Bd.cost, wc, Kt]
      omega
  · have hc1 : ¬ sort = 1 := fun z => hc (.inl z)
    have hc2 : ¬ (sort = 2 ∧ (j : Int) % 2 = 1) := fun z => hc (.inr z)
    obtain ⟨v, m1, e1, l1, u1, R1, k1⟩ := taken_ok h (many := 2) (by decide) (by decide)
    obtain ⟨v2, m2, e2, l2, u2, R2, k2⟩ := taken_ok R1.row (many := 2) (by decide) (by decide)
    obtain ⟨ct, hct, cok, cdep, ccnt, ccost⟩ : ∃ ct : Ct, L2.atI [D.non, .tup [.int 0, .tup [(wordT w).enc]]] v = some ct.enc ∧ (∀ (ps : List Nat) (i : Nat) (r : Bool), ct.ok ps i n r) ∧ ct.dep ≤ 1 ∧ ct.cnt ≤ 1 ∧ (∀ c, ct.cost c ≤ 1) := by
      have : v = 0 ∨ v = 1 := by omega
      obtain rfl | rfl := this
      · exact ⟨.no, rfl, fun _ _ _ => True.intro, by simp only [Ct.dep]; omega, by simp only [Ct.cnt]; omega, fun c => by simp only [Ct.cost]; omega⟩
      · exact ⟨.yes (some 0) (.cons (wordT w) .nil), rfl, fun _ _ _ => ⟨fun i z => by cases z; exact hn, wok _ _ _, True.intro⟩, by simp only [Ct.dep, Bd.dep, wd1]; omega, by simp only [Ct.cnt, Bd.cnt, wn1]; omega, fun c => by simp only [Ct.cost, Bd.cost, wc]; omega⟩
    have hct' : L2.atI [D.non, .tup [.int 0, .tup [.tup [.wd 16, .tup [.wd 8, .int w]]]]] v = some ct.enc := hct
    have : v2 = 0 ∨ v2 = 1 := by omega
    obtain rfl | rfl := this
    · refine ⟨.tri (.cons s .nil) ct (.cons (wordT w) .nil), m2, some (wordT w).enc, some ct.enc, ?_, ⟨fun ps i r => ⟨⟨T.ok _ _ _, True.intro⟩, cok _ _ _, wok _ _ _, True.intro⟩, by simp only [Stp.dep, Bd.dep, wd1]; omega, by simp only [Stp.cnt, Bd.cnt, wn1]; omega, fun c => ?_, 22, _, rfl, .inr (.inr rfl)⟩, R1.trans R2⟩
      · have ne := word_ne (m := m2) (j := w) T (by omega)
        have ne : gNeD wds0 m2 (.tup [s.enc]) (.tup [.tup [.wd 16, .tup [.wd 8, .int w]]]) = some (.bl true) := ne
        by_cases hs2 : sort = 2
        · have hc3 : ¬ (j : Int) % 2 = 1 := fun z => hc2 ⟨hs2, z⟩
          subst hs2
          simp [lb__law_tower_v2_0, ← hw, hc3, e1, hct', e2, ne, cut43, Stp.enc, Rk.enc, Bd.encs, wordT]
        · simp [lb__law_tower_v2_0, ← hw, hc1, hs2, e1, hct', e2, ne, cut43, Stp.enc, Rk.enc, Bd.encs, wordT]
      · have h1 := hcost c
        have h2 := ccost c
        simp only [Stp.cost, Bd.cost, wc, Kt]
        omega
    · refine ⟨.tri (.cons (wordT w) .nil) ct (.cons (wordT w) (.cons s .nil)), m2, some (wordT w).enc, some ct.enc, ?_, ⟨fun ps i r => ⟨⟨wok _ _ _, True.intro⟩, cok _ _ _, wok _ _ _, T.ok _ _ _, True.intro⟩, by simp only [Stp.dep, Bd.dep, wd1]; omega, by simp only [Stp.cnt, Bd.cnt, wn1]; omega, fun c => ?_, 22, _, rfl, .inr (.inr rfl)⟩, R1.trans R2⟩
      · have ne := word_eq (m := m2) (j := w)
        have ne : gNeD wds0 m2 (.tup [.tup [.wd 16, .tup [.wd 8, .int w]]]) (.tup [.tup [.wd 16, .tup [.wd 8, .int w]]]) = some (.bl false) := ne
        by_cases hs2 : sort = 2
        · have hc3 : ¬ (j : Int) % 2 = 1 := fun z => hc2 ⟨hs2, z⟩
          subst hs2
          simp [lb__law_tower_v2_0, ← hw, hc3, e1, hct', e2, ne, Stp.enc, Rk.enc, Bd.encs, wordT]
        · simp [lb__law_tower_v2_0, ← hw, hc1, hs2, e1, hct', e2, ne, Stp.enc, Rk.enc, Bd.encs, wordT]
      · have h1 := hcost c
        have h2 := ccost c
        simp only [Stp.cost, Bd.cost, wc, Kt]
        omega
end Hb

set_option linter.all false
set_option autoImplicit false
set_option maxRecDepth 10000
set_option maxHeartbeats 4000000
/-! Ht2: the tower as a body; the bound of a program's words. -/
namespace Hb
open PySem L2 Sh Mi Tw
theorem towL {xs : List Int} {r n : Nat} {A1 : Option D} {sort : Int} (hn : 0 < n) : ∀ (k j : Nat) (s : Stp) (m : M) (x4 x5 x6 : Option D), j + k ≤ 6 → Row xs r m → Tow n j s →
    ∃ (s' : Stp) (m' : M) (y4 y5 y6 : Option D), loop (gN 4) lb__law_tower_v2_0 (rangeFrom j k) [some (.obj r), A1, some s.enc, some (.int sort), x4, x5, x6] m = .nx [some (.obj r), A1, some s'.enc, some (.int sort), y4, y5, y6] m' ∧ Tow n (j + k) s' ∧ Rw xs r m m'
  | 0, j, s, m, x4, x5, x6, hj, h, T => ⟨s, m, x4, x5, x6, rfl, T, .refl h⟩
  | k + 1, j, s, m, x4, x5, x6, hj, h, T => by
    obtain ⟨s1, m1, y5, y6, e1, T1, R1⟩ := tow_one (A1 := A1) (x5 := x5) (x6 := x6) (sort := sort) hn (by omega) h T
    obtain ⟨s2, m2, z4, z5, z6, e2, T2, R2⟩ := towL (A1 := A1) (sort := sort) hn k (j + 1) s1 m1 (some (.int j)) y5 y6 (by omega) R1.row T1
    refine ⟨s2, m2, z4, z5, z6, ?_, by rw [show j + (k + 1) = j + 1 + k by omega]; exact T2, R1.trans R2⟩
    rw [range_succ]
    simp only [Int.natCast_add, Int.natCast_one] at e2
    simp [loop, e1, e2]
theorem Kt_le {t : Nat} (h : t ≤ 6) : Kt t ≤ 189 := by
  have : t = 0 ∨ t = 1 ∨ t = 2 ∨ t = 3 ∨ t = 4 ∨ t = 5 ∨ t = 6 := by omega
  obtain rfl | rfl | rfl | rfl | rfl | rfl | rfl := this <;> decide
def repB (s : Stp) : Nat → Bd → Bd
  | 0, b => b
  | k + 1, b => .cons s (repB s k b)
theorem repB_encs {s : Stp} {b : Bd} : ∀ k, (repB s k b).encs = List.replicate k s.enc ++ b.encs
  | 0 => rfl
  | k + 1 => by simp [repB, Bd.encs, repB_encs k, List.replicate_succ]
theorem repB_ok {s : Stp} {b : Bd} {ps : List Nat} {i n : Nat} {r : Bool} (h : s.ok ps i n r) (h' : b.ok ps i n r) : ∀ k, (repB s k b).ok ps i n r
  | 0 => h'
  | k + 1 => ⟨h, repB_ok h h' k⟩
theorem repB_dep {s : Stp} {b : Bd} (h : s.dep ≤ 1) (h' : b.dep ≤ 1) : ∀ k, (repB s k b).dep ≤ 1
  | 0 => h'
  | k + 1 => by have := repB_dep h h' k; simp only [repB, Bd.dep]; omega
theorem repB_cnt {s : Stp} {b : Bd} (h : s.cnt = 1) : ∀ k, (repB s k b).cnt = k + b.cnt
  | 0 => by simp [repB]
  | k + 1 => by have := repB_cnt (b := b) h k; simp only [repB, Bd.cnt]; omega
theorem repB_cost {s : Stp} {b : Bd} {c : Nat → Nat} (h : s.cost c ≤ 1) : ∀ k, (repB s k b).cost c ≤ k + b.cost c
  | 0 => by simp [repB]
  | k + 1 => by have := repB_cost (b := b) h k; simp only [repB, Bd.cost]; omega
theorem tower_ok {xs : List Int} {r n : Nat} {m : M} (hn : 0 < n) (h : Row xs r m) :
    ∃ (B : Bd) (m' : M), m__law_tower_v2 [.obj r, .int 22] m = .ok (.tup B.encs) m' ∧ (∀ (ps : List Nat) (i : Nat), B.ok ps i n false) ∧ B.dep ≤ 7 ∧ B.cnt ≤ 40 ∧ (∀ c, B.cost c ≤ 190) ∧ Rw xs r m m' := by
  obtain ⟨v, m1, e1, l1, u1, R1, k1⟩ := taken_ok h (many := 2) (by decide) (by decide)
  obtain ⟨k0, hk0, kok⟩ : ∃ k0 : Option Nat, L2.atI [D.non, .int 0] v = some (kD k0) ∧ kOk n k0 := by
    have : v = 0 ∨ v = 1 := by omega
    obtain rfl | rfl := this
    · exact ⟨none, rfl, fun i z => by cases z⟩
    · exact ⟨some 0, rfl, fun i z => by cases z; exact hn⟩
  obtain ⟨sort, m2, e2, l2, u2, R2, k2⟩ := taken_ok R1.row (many := 4) (by decide) (by decide)
  have R12 := R1.trans R2
  have gok : ∀ (ps : List Nat) (i : Nat) (r : Bool), (Stp.give (.slot 0) k0).ok ps i n r := fun ps i r => ⟨hn, kok⟩
  have s2 : (sSet 2 (eTup (lCons (eC (.wd 17)) (lCons (eTup (lCons (eC (.wd 9)) (lCons (eC (.int 0)) lNil))) (lCons (eIxL (lLst (lCons (eC .non) (lCons (eC (.int 0)) lNil))) (eCall 2 m__law_taken (lCons (eVar 0) (lCons (eC (.int 2)) lNil)))) lNil))))) [some (.obj r), some (.int 22), none, none, none, none, none] m = .nx [some (.obj r), some (.int 22), some (Stp.give (.slot 0) k0).enc, none, none, none, none] m1 := by
    simp [e1, hk0, Stp.enc, Rk.enc]
  have s3 : (sSet 3 (eCall 2 m__law_taken (lCons (eVar 0) (lCons (eC (.int 4)) lNil)))) [some (.obj r), some (.int 22), some (Stp.give (.slot 0) k0).enc, none, none, none, none] m1 = .nx [some (.obj r), some (.int 22), some (Stp.give (.slot 0) k0).enc, some (.int sort), none, none, none] m2 := by simp [e2]
  by_cases hs : sort = 3
  · subst hs
    obtain ⟨v3, m3, e3, l3, u3, R3, k3⟩ := taken_ok R2.row (many := 3) (by decide) (by decide)
    obtain ⟨st, hst, sok, sdep, scnt, scost⟩ : ∃ st : Stp, L2.atI [(Stp.give (.slot 0) k0).enc, .tup [.wd 16, .tup [.wd 8, .int 1]], .tup [.wd 15, .int 0, .tup [.wd 10, .tup [.wd 9, .int 0], .tup [.wd 8, .int 1]]]] v3 = some st.enc ∧ (∀ (ps : List Nat) (i : Nat) (r : Bool), st.ok ps i n r) ∧ st.dep ≤ 1 ∧ st.cnt = 1 ∧ (∀ c, st.cost c ≤ 1) := by
      have : v3 = 0 ∨ v3 = 1 ∨ v3 = 2 := by omega
      obtain rfl | rfl | rfl := this
      · exact ⟨.give (.slot 0) k0, rfl, gok, by simp only [Stp.dep]; omega, rfl, fun c => by simp only [Stp.cost]; omega⟩
      · exact ⟨.say (.num 1), rfl, fun _ _ _ => ⟨by decide, by decide⟩, by simp only [Stp.dep]; omega, rfl, fun c => by simp only [Stp.cost]; omega⟩
      · exact ⟨.set 0 (.op .plus (.slot 0) (.num 1)), rfl, fun _ _ _ => ⟨hn, hn, ⟨by decide, by decide⟩⟩, by simp only [Stp.dep]; omega, rfl, fun c => by simp only [Stp.cost]; omega⟩
    obtain ⟨q, m4, e4, l4, u4, R4, k4⟩ := taken_ok R3.row (many := 20) (by decide) (by decide)
    obtain ⟨q, rfl⟩ : ∃ x : Nat, q = (x : Int) := ⟨q.toNat, by omega⟩
    obtain ⟨z, m5, e5, l5, u5, R5, k5⟩ := taken_ok R4.row (many := 3) (by decide) (by decide)
    refine ⟨repB st q (.cons (.say (.slot 0)) (.cons (.fin (.num z)) .nil)), m5, ?_, fun ps i => repB_ok (s := st) (b := .cons (.say (.slot 0)) (.cons (.fin (.num z)) .nil)) (ps := ps) (i := i) (n := n) (r := false) (sok _ _ _) ⟨hn, ⟨l5, by omega⟩, True.intro⟩ q, by have := repB_dep (b := .cons (.say (.slot 0)) (.cons (.fin (.num z)) .nil)) sdep (by simp only [Bd.dep, Stp.dep]; omega) q; omega, by rw [repB_cnt scnt]; simp only [Bd.cnt, Stp.cnt]; omega, fun c => by have := repB_cost (b := .cons (.say (.slot 0)) (.cons (.fin (.num z)) .nil)) (scost c) q; simp only [Bd.cost, Stp.cost] at this; omega, ((R12.trans R3).trans R4).trans R5⟩
    show toR (b__law_tower_v2 [some (.obj r), some (.int 22), none, none, none, none, none] m) = _
    unfold b__law_tower_v2
    rw [seq_nx s2 (seq_nx s3 rfl)]
    have c1 : (q : Int) ≤ 1000 := by omega
    have c3 : q ≤ 1000 := by omega
    have c2 : q + 2 ≤ 1000 := by omega
    have hst : L2.atI [D.tup [.wd 17, .tup [.wd 9, .int 0], kD k0], .tup [.wd 16, .tup [.wd 8, .int 1]], .tup [.wd 15, .int 0, .tup [.wd 10, .tup [.wd 9, .int 0], .tup [.wd 8, .int 1]]]] v3 = some st.enc := hst
    simp [e3, hst, e4, e5, c1, c2, c3, repB_encs, Bd.encs, Stp.enc, Rk.enc]
  · obtain ⟨v3, m3, e3, l3, u3, R3, k3⟩ := taken_ok R2.row (many := 5) (by decide) (by decide)
    obtain ⟨k, hk⟩ : ∃ k : Nat, 2 + v3 = (k : Int) := ⟨(2 + v3).toNat, by omega⟩
    have T0 : Tow n 0 (.give (.slot 0) k0) := ⟨gok, by simp only [Stp.dep]; omega, by simp only [Stp.cnt]; omega, fun c => by simp only [Stp.cost]; omega, 17, _, rfl, .inl rfl⟩
    obtain ⟨s', m4, y4, y5, y6, e4, T, R4⟩ := towL (A1 := some (.int 22)) (sort := sort) hn k 0 (.give (.slot 0) k0) m3 none none none (by omega) R3.row T0
    have hd := T.dep
    have hc := T.cnt
    have kt := Kt_le (t := 0 + k) (by omega)
    refine ⟨.cons s' (.cons (.say (.slot 0)) .nil), m4, ?_, fun ps i => ⟨T.ok _ _ _, hn, True.intro⟩, by simp only [Bd.dep, Stp.dep]; omega, by simp only [Bd.cnt, Stp.cnt]; omega, fun c => by have := T.cost c; simp only [Bd.cost, Stp.cost]; omega, (R12.trans R3).trans R4⟩
    show toR (b__law_tower_v2 [some (.obj r), some (.int 22), none, none, none, none, none] m) = _
    unfold b__law_tower_v2
    rw [seq_nx s2 (seq_nx s3 rfl)]
    have hR : iR (eOp gAdd (eC (.int 2)) (eCall 2 m__law_taken (lCons (eVar 0) (lCons (eC (.int 5)) lNil)))) [some (.obj r), some (.int 22), some (.tup [.wd 17, .tup [.wd 9, .int 0], kD k0]), some (.int sort), none, none, none] m2 = .ok (rangeFrom 0 k, none) m3 := iR_nat (by simp [e3, hk]) (by omega)
    have e4 : loop (gN 4) lb__law_tower_v2_0 (rangeFrom 0 k) [some (.obj r), some (.int 22), some (.tup [.wd 17, .tup [.wd 9, .int 0], kD k0]), some (.int sort), none, none, none] m3 = _ := e4
    simp [hs, -iR_eq, hR, e4, Bd.encs, Stp.enc, Rk.enc]
/-- the most words of a work, by those of the later works -/
def WB (i : Nat) (W : Work) : Prop := ∀ (c : Nat → Nat) (C : Nat), (∀ w, i < w → c w ≤ C) → W.body.cost c ≤ (if i = 0 then 18 else 4) * (48 + 2 * C)
theorem cost_le {P : Prog} (h4 : P.length ≤ 4) (hW : ∀ (i : Nat) (W : Work), P[i]? = some W → WB i W) : ∀ h w, cost P h w ≤ 505440 := by
  have none4 : ∀ h w, 4 ≤ w → cost P h w = 0 := fun h w hw => by
    cases h with
    | zero => rfl
    | succ h => simp only [cost]; rw [List.getElem?_eq_none (by omega)]
  have down : ∀ (i C : Nat), (∀ h w, i < w → cost P h w ≤ C) → ∀ h, cost P h i ≤ (if i = 0 then 18 else 4) * (48 + 2 * C) := fun i C hC h => by
    cases h with
    | zero => exact Nat.zero_le _
    | succ h =>
      simp only [cost]
      cases e : P[i]? with
      | none => exact Nat.zero_le _
      | some W => exact hW i W e (cost P h) C (hC h)
  have a3 : ∀ h w, 2 < w → cost P h w ≤ 192 := fun h w hw => by
    by_cases h3 : w = 3
    · subst h3
      exact down 3 0 (fun h w hw => by rw [none4 h w (by omega)]; omega) h
    · rw [none4 h w (by omega)]; omega
  have a2 : ∀ h w, 1 < w → cost P h w ≤ 1728 := fun h w hw => by
    by_cases h3 : w = 2
    · subst h3; exact down 2 192 a3 h
    · have := a3 h w (by omega); omega
  have a1 : ∀ h w, 0 < w → cost P h w ≤ 14016 := fun h w hw => by
    by_cases h3 : w = 1
    · subst h3; exact down 1 1728 a2 h
    · have := a2 h w (by omega); omega
  intro h w
  by_cases h3 : w = 0
  · subst h3; exact down 0 14016 a1 h
  · have := a1 h w (by omega); omega
end Hb

set_option linter.all false
set_option autoImplicit false
set_option maxRecDepth 10000
set_option maxHeartbeats 4000000
/-! Hg: the program that the law draws. -/
namespace Hb
open PySem L2 Sh Mi Tw
def ShOk (x : Nat × Nat) : Prop := x.1 ≤ 2 ∧ 1 ≤ x.2 ∧ x.2 ≤ 4 ∧ x.1 ≤ x.2
theorem shapesL {xs : List Int} {r q : Nat} {A1 x5 x6 x7 x8 x9 : Option D} (hq : q ≠ r) : ∀ (ys : List D) (acc : List D) (m : M) (x3 x4 : Option D), acc.length + ys.length < 100 → Row xs r m → m[q]? = some (.lst acc) →
    ∃ (S : Shp) (m' : M) (y3 y4 : Option D), loop (gN 3) lb__law_program_0 ys [some (.obj r), A1, some (.obj q), x3, x4, x5, x6, x7, x8, x9] m = .nx [some (.obj r), A1, some (.obj q), y3, y4, x5, x6, x7, x8, x9] m' ∧ m'[q]? = some (.lst (acc ++ S.map shD)) ∧ S.length = ys.length ∧ (∀ x ∈ S, ShOk x) ∧ Row xs r m' ∧ Fr [r, q] m m'
  | [], acc, m, x3, x4, hl, h, ha => ⟨[], m, x3, x4, rfl, by simpa using ha, rfl, by simp, h, .refl⟩
  | y :: ys, acc, m, x3, x4, hl, h, ha => by
    simp only [List.length_cons] at hl
    obtain ⟨v, m1, e1, l1, u1, R1, k1⟩ := taken_ok h (many := 4) (by decide) (by decide)
    obtain ⟨n, hn⟩ : ∃ n : Nat, 1 + v = (n : Int) := ⟨(1 + v).toNat, by omega⟩
    obtain ⟨p, m2, e2, l2, u2, R2, k2⟩ := taken_ok R1.row (many := if (n : Int) + 1 < 3 then (n : Int) + 1 else 3) (by split <;> omega) (by split <;> omega)
    obtain ⟨p, rfl⟩ : ∃ x : Nat, p = (x : Int) := ⟨p.toNat, by omega⟩
    have hp2 : p ≤ 2 ∧ p ≤ n := by split at u2 <;> omega
    have a2 := (R1.trans R2).keeps hq ha
    have a0 := R1.keeps hq ha
    obtain ⟨S, m', y3, y4, e, a, lS, oS, R, f⟩ := shapesL (A1 := A1) (x5 := x5) (x6 := x6) (x7 := x7) (x8 := x8) (x9 := x9) hq ys (acc ++ [shD (p, n)]) (m2.set q (.lst (acc ++ [shD (p, n)]))) (some y) (some (.int n)) (by simp; omega) (R2.row.set _ hq) (get_set a2)
    have hacc : acc.length < 16777216 := by omega
    have hb : lb__law_program_0 [some (.obj r), A1, some (.obj q), some y, x4, x5, x6, x7, x8, x9] m = .nx [some (.obj r), A1, some (.obj q), some y, some (.int n), x5, x6, x7, x8, x9] (m2.set q (.lst (acc ++ [shD (p, n)]))) := by
      simp [lb__law_program_0, e1, hn, e2, a0, a2, hacc, shD]
    refine ⟨(p, n) :: S, m', y3, y4, by simp [loop, hb, e], by simpa using a, by simp [lS], fun x hx => ?_, R, (((R1.trans R2).frq (by simp)).set _ fun _ => by simp).trans f⟩
    rcases List.mem_cons.mp hx with rfl | hx
    · exact ⟨hp2.1, by show 1 ≤ n; omega, by show n ≤ 4; omega, hp2.2⟩
    · exact oS x hx
theorem four {v : Int} (h : 0 ≤ v) (h' : v < 4) : ∃ L : Nat, L ≤ 40 ∧ L2.atI [D.int 6, .int 12, .int 24, .int 40] v = some (.int L) := by
  have : v = 0 ∨ v = 1 ∨ v = 2 ∨ v = 3 := by omega
  obtain rfl | rfl | rfl | rfl := this
  · exact ⟨6, by omega, rfl⟩
  · exact ⟨12, by omega, rfl⟩
  · exact ⟨24, by omega, rfl⟩
  · exact ⟨40, by omega, rfl⟩
theorem three2 {v : Int} (h : 0 ≤ v) (h' : v < 3) : ∃ d : Nat, d ≤ 6 ∧ L2.atI [D.int 2, .int 3, .int 6] v = some (.int d) := by
  have : v = 0 ∨ v = 1 ∨ v = 2 := by omega
  obtain rfl | rfl | rfl := this
  · exact ⟨2, by omega, rfl⟩
  · exact ⟨3, by omega, rfl⟩
  · exact ⟨6, by omega, rfl⟩
theorem five {v : Int} (h : 0 ≤ v) (h' : v < 5) : ∃ d : Nat, 1 ≤ d ∧ d ≤ 4 ∧ L2.atI [D.int 1, .int 2, .int 2, .int 3, .int 4] v = some (.int d) := by
  have : v = 0 ∨ v = 1 ∨ v = 2 ∨ v = 3 ∨ v = 4 := by omega
  obtain rfl | rfl | rfl | rfl | rfl := this
  · exact ⟨1, by omega, by omega, rfl⟩
  · exact ⟨2, by omega, by omega, rfl⟩
  · exact ⟨2, by omega, by omega, rfl⟩
  · exact ⟨3, by omega, by omega, rfl⟩
  · exact ⟨4, by omega, by omega, rfl⟩
theorem work_drawn {xs : List Int} {S : Shp} {r sh q i : Nat} {p n : Nat} {m : M} {acc : List D} {x3 x4 x7 x8 x9 : Option D} (hS : ∀ x ∈ S, ShOk x) (hS4 : S.length ≤ 4) (hi : S[i]? = some (p, n)) (hqr : q ≠ r) (hqs : q ≠ sh) (hrs : sh ≠ r) (hl : acc.length < 100) (h : Row xs r m) (hs : m[sh]? = some (.lst (S.map shD))) (hq : m[q]? = some (.lst acc)) :
    ∃ (W : Work) (m' : M) (y7 y8 y9 : Option D), lb__law_program_1 [some (.obj r), some (.int 40), some (.obj sh), x3, x4, some (.obj q), some (.int i), x7, x8, x9] m = .nx [some (.obj r), some (.int 40), some (.obj sh), x3, x4, some (.obj q), some (.int i), y7, y8, y9] m' ∧ W.params = p ∧ W.ok (S.map Prod.fst) i ∧ WB i W ∧ Row xs r m' ∧ m'[q]? = some (.lst (acc ++ [W.enc])) ∧ Fr [r, q] m m' := by
  have pn := hS (p, n) (List.mem_of_getElem? hi)
  obtain ⟨pn1, pn2, pn3, pn4⟩ := pn
  dsimp only at pn1 pn2 pn3 pn4
  have lr := h.lt
  have lq := get_lt hq
  have ls := get_lt hs
  obtain ⟨v, m1, e1, l1, u1, R1, k1⟩ := taken_ok h (many := 4) (by decide) (by decide)
  obtain ⟨L, hL, eL⟩ := four l1 u1
  obtain ⟨m2, hm2⟩ : ∃ m2, m2 = m1 ++ [O.lst [.int i, .obj sh, .int L, .int ((2 : Nat) : Int), .int ((2 : Nat) : Int)]] := ⟨_, rfl⟩
  have f2 : Fr [] m1 m2 := by rw [hm2]; exact Fr.refl.add _
  have bx : Bx xs S m2 r m1.length sh i L 2 2 := ⟨by rw [hm2]; exact get_new, f2.keeps (by simp) (R1.keeps hrs hs), by rw [hm2]; exact R1.row.add _, by omega, by omega, hrs, by omega⟩
  have hLm : (if (L : Int) < 40 then (L : Int) else 40) = (L : Int) := by split <;> omega
  obtain ⟨v3, m3, e3, l3, u3, R3, k3⟩ := taken_ok bx.row (many := 3) (by decide) (by decide)
  obtain ⟨dd, hd, ed⟩ := three2 l3 u3
  obtain ⟨B, m4, L', R', H', e4, o4, d4, D4⟩ := body_ok (r := r) (b := m1.length) (sh := sh) (i := i) (xs := xs) (fun x hx => (hS x hx).1) hi (by omega) pn3 hS4 dd 30 false 6 m3 L 2 2 (by omega) (by omega) (bx.rw R3)
  have e4' : m_bd 30 0 [.obj r, .obj m1.length, .int dd, .bl false, .int 6] m3 = .ok (.tup B.encs) m4 := e4
  obtain ⟨v5, m5, e5, l5, u5, R5, k5⟩ := taken_ok D4.bx.row (many := 6) (by decide) (by decide)
  have q2 : m2[q]? = some (.lst acc) := f2.keeps (by simp) (R1.keeps hqr hq)
  have q3 := R3.keeps hqr q2
  have q4 := D4.fr.keeps (k := q) (by simp; omega) q3
  have q5 := R5.keeps hqr q4
  have s5 := (D4.bx.rw R5).shp
  have n1 := R1.len
  have n2 : m2.length = m1.length + 1 := by rw [hm2]; simp
  have n3 := R3.len
  have n4 := D4.fr.1
  have n5 := R5.len
  have F5 : Fr [r, q] m m5 := by
    refine ⟨by omega, fun k hk nk => ?_⟩
    simp at nk
    rw [R5.other nk.1 (by omega), D4.fr.2 k (by omega) (by simp; omega), R3.other nk.1 (by omega), f2.2 k (by omega) (by simp), R1.other nk.1 hk]
  have hacc : acc.length < 16777216 := by omega
  have t1 : (sSet 7 (eNew (lLst (lCons (eVar 6) (lCons (eVar 2) (lCons (eCB gMin (lCons (eVar 1) (lCons (eIxL (lLst (lCons (eC (.int 6)) (lCons (eC (.int 12)) (lCons (eC (.int 24)) (lCons (eC (.int 40)) lNil))))) (eCall 2 m__law_taken (lCons (eVar 0) (lCons (eC (.int 4)) lNil)))) lNil))) (lCons (eC (.int 2)) (lCons (eC (.int 2)) lNil)))))))) [some (.obj r), some (.int 40), some (.obj sh), x3, x4, some (.obj q), some (.int i), x7, x8, x9] m = .nx [some (.obj r), some (.int 40), some (.obj sh), x3, x4, some (.obj q), some (.int i), some (.obj m1.length), x8, x9] m2 := by
    simp [e1, eL, hLm, hm2]
  have t2 : (sSet 8 (eIxL (lLst (lCons (eC (.int 2)) (lCons (eC (.int 3)) (lCons (eC (.int 6)) lNil)))) (eCall 2 m__law_taken (lCons (eVar 0) (lCons (eC (.int 3)) lNil))))) [some (.obj r), some (.int 40), some (.obj sh), x3, x4, some (.obj q), some (.int i), some (.obj m1.length), x8, x9] m2 = .nx [some (.obj r), some (.int 40), some (.obj sh), x3, x4, some (.obj q), some (.int i), some (.obj m1.length), some (.int dd), x9] m3 := by
    simp [e3, ed]
  have t3 : (sSet 9 (eCall 5 (m_bd 30 0) (lCons (eVar 0) (lCons (eVar 7) (lCons (eVar 8) (lCons (eC (.bl false)) (lCons (eC (.int 6)) lNil))))))) [some (.obj r), some (.int 40), some (.obj sh), x3, x4, some (.obj q), some (.int i), some (.obj m1.length), some (.int dd), x9] m3 = .nx [some (.obj r), some (.int 40), some (.obj sh), x3, x4, some (.obj q), some (.int i), some (.obj m1.length), some (.int dd), some (.tup B.encs)] m4 := by
    simp [e4']
  have hat : L2.atI (S.map shD) (i : Int) = some (shD (p, n)) := atI_nat (by simp [hi])
  -- the last of it, with the body that came
  have fin : ∀ (Z : Bd) (m6 : M), Rw xs r m5 m6 → Z.ok (S.map Prod.fst) i n false → Z.dep ≤ 7 → Z.cnt ≤ 40 → WB i ⟨p, n, Z⟩ →
      (sIf (tAnd (tB (eOp gGt (eVar 1) (eC (.int 20)))) (tB (eOp gEq (eCall 2 m__law_taken (lCons (eVar 0) (lCons (eC (.int 6)) lNil))) (eC (.int 5))))) (sSet 9 (eCall 2 m__law_tower_v2 (lCons (eVar 0) (lCons (eC (.int 22)) lNil)))) sNx) [some (.obj r), some (.int 40), some (.obj sh), x3, x4, some (.obj q), some (.int i), some (.obj m1.length), some (.int dd), some (.tup B.encs)] m4 = .nx [some (.obj r), some (.int 40), some (.obj sh), x3, x4, some (.obj q), some (.int i), some (.obj m1.length), some (.int dd), some (.tup Z.encs)] m6 →
      ∃ (W : Work) (m' : M) (y7 y8 y9 : Option D), lb__law_program_1 [some (.obj r), some (.int 40), some (.obj sh), x3, x4, some (.obj q), some (.int i), x7, x8, x9] m = .nx [some (.obj r), some (.int 40), some (.obj sh), x3, x4, some (.obj q), some (.int i), y7, y8, y9] m' ∧ W.params = p ∧ W.ok (S.map Prod.fst) i ∧ WB i W ∧ Row xs r m' ∧ m'[q]? = some (.lst (acc ++ [W.enc])) ∧ Fr [r, q] m m' := by
    intro Z m6 R6 zok zd zc zb t4
    have q6 := R6.keeps hqr q5
    have s6 := R6.keeps hrs s5
    refine ⟨⟨p, n, Z⟩, m6.set q (.lst (acc ++ [.tup [.int p, .int n, .tup Z.encs]])), some (.obj m1.length), some (.int dd), some (.tup Z.encs), ?_, rfl, ⟨pn2, pn3, pn1, pn4, zok, zd, zc⟩, zb, R6.row.set _ hqr, get_set q6, (F5.trans (R6.frq (by simp))).set _ fun _ => by simp⟩
    unfold lb__law_program_1
    rw [seq_nx t1 (seq_nx t2 (seq_nx t3 (seq_nx t4 rfl)))]
    simp [q6, s6, hat, shD, hacc]
  by_cases h5 : v5 = 5
  · subst h5
    obtain ⟨Z, m6, e6, zok, zd, zc, zb, R6⟩ := tower_ok (n := n) (by omega) R5.row
    refine fin Z m6 R6 (zok _ _) zd zc (fun c C _ => ?_) (by simp [e5, e6])
    have := zb c
    dsimp only
    split <;> omega
  · refine fin B m5 (.refl R5.row) o4 (by omega) (by have := D4.cnt; omega) (fun c C hc => ?_) (by simp [e5, h5])
    obtain ⟨k, a, b⟩ := D4.cst c C hc
    have : Tm i 2 = if i = 0 then 18 else 4 := rfl
    rw [this] at b
    have hk : k ≤ 40 + 2 * C := by rw [Nat.mul_comm C 2] at a; omega
    dsimp only at b ⊢
    split at b <;> split <;> omega
theorem worksL {xs : List Int} {S : Shp} {r sh q : Nat} (hS : ∀ x ∈ S, ShOk x) (hS4 : S.length ≤ 4) (hqr : q ≠ r) (hqs : q ≠ sh) (hrs : sh ≠ r) {x3 x4 : Option D} : ∀ (k j : Nat) (acc : List D) (m : M) (x6 x7 x8 x9 : Option D), j + k = S.length → acc.length + k < 100 → Row xs r m → m[sh]? = some (.lst (S.map shD)) → m[q]? = some (.lst acc) →
    ∃ (Ws : List Work) (m' : M) (y6 y7 y8 y9 : Option D), loop (gN 6) lb__law_program_1 (rangeFrom j k) [some (.obj r), some (.int 40), some (.obj sh), x3, x4, some (.obj q), x6, x7, x8, x9] m = .nx [some (.obj r), some (.int 40), some (.obj sh), x3, x4, some (.obj q), y6, y7, y8, y9] m' ∧ m'[q]? = some (.lst (acc ++ Ws.map Work.enc)) ∧ Ws.map (·.params) = (S.drop j).map Prod.fst ∧ (∀ (t : Nat) (W : Work), Ws[t]? = some W → W.ok (S.map Prod.fst) (j + t) ∧ WB (j + t) W) ∧ Row xs r m' ∧ Fr [r, q] m m'
  | 0, j, acc, m, x6, x7, x8, x9, hj, hl, h, hs, hq => ⟨[], m, x6, x7, x8, x9, rfl, by simpa using hq, by rw [List.drop_of_length_le (by omega)]; rfl, fun t W z => by simp at z, h, .refl⟩
  | k + 1, j, acc, m, x6, x7, x8, x9, hj, hl, h, hs, hq => by
    obtain ⟨⟨p, n⟩, hi⟩ : ∃ x, S[j]? = some x := ⟨_, List.getElem?_eq_getElem (by omega)⟩
    obtain ⟨W, m1, y7, y8, y9, e1, wp, wo, wb, R1, q1, f1⟩ := work_drawn (x3 := x3) (x4 := x4) (x7 := x7) (x8 := x8) (x9 := x9) hS hS4 hi hqr hqs hrs (by omega) h hs hq
    obtain ⟨Ws, m', z6, z7, z8, z9, e2, q2, ps2, o2, R2, f2⟩ := worksL hS hS4 hqr hqs hrs (x3 := x3) (x4 := x4) k (j + 1) (acc ++ [W.enc]) m1 (some (.int j)) y7 y8 y9 (by omega) (by simp; omega) R1 (f1.keeps (by simp; omega) hs) q1
    refine ⟨W :: Ws, m', z6, z7, z8, z9, ?_, by simpa using q2, ?_, fun t W' z => ?_, R2, f1.trans f2⟩
    · rw [range_succ]
      simp only [Int.natCast_add, Int.natCast_one] at e2
      simp [loop, e1, e2]
    · rw [List.drop_eq_getElem_cons (by omega), List.map_cons, List.map_cons, ps2, wp]
      have : S[j] = (p, n) := by rw [List.getElem?_eq_getElem (by omega)] at hi; exact Option.some.inj hi
      rw [this]
    · cases t with
      | zero => simp at z; subst z; exact ⟨wo, wb⟩
      | succ t =>
        have := o2 t W' (by simpa using z)
        rw [show j + (t + 1) = j + 1 + t by omega]; exact this
theorem program_ok {xs : List Int} {r : Nat} {m : M} (h : Row xs r m) :
    ∃ (P : Prog) (m' : M) (q : Nat), m__law_program [.obj r, .int 40] m = .ok (.obj q) m' ∧ m'[q]? = some (.lst (P.map Work.enc)) ∧ P.ok ∧ (∀ h w, cost P h w ≤ 505440) ∧ m.length ≤ q ∧ Rw xs r m m' := by
  have lr := h.lt
  obtain ⟨m1, hm1⟩ : ∃ m1, m1 = m ++ [O.lst []] := ⟨_, rfl⟩
  have h1 : Row xs r m1 := by rw [hm1]; exact h.add _
  have l1 : m1.length = m.length + 1 := by rw [hm1]; simp
  obtain ⟨v, m2, e2, l2, u2, R2, k2⟩ := taken_ok h1 (many := 5) (by decide) (by decide)
  obtain ⟨d, hd1, hd4, ed⟩ := five l2 u2
  have a1 : m1[m.length]? = some (.lst []) := by rw [hm1]; exact get_new
  have a2 := R2.keeps (k := m.length) (by omega) a1
  obtain ⟨S, m3, y3, y4, e3, a3, lS, oS, R3, f3⟩ := shapesL (A1 := some (.int 40)) (q := m.length) (x5 := none) (x6 := none) (x7 := none) (x8 := none) (x9 := none) (by omega) (rangeFrom 0 d) [] m2 none none (by simp [rangeFrom_len]; omega) R2.row a2
  rw [rangeFrom_len] at lS
  rw [List.nil_append] at a3
  obtain ⟨m4, hm4⟩ : ∃ m4, m4 = m3 ++ [O.lst []] := ⟨_, rfl⟩
  have h4 : Row xs r m4 := by rw [hm4]; exact R3.add _
  have l4 : m4.length = m3.length + 1 := by rw [hm4]; simp
  have l3 := f3.1
  have a4 : m4[m.length]? = some (.lst (S.map shD)) := by rw [hm4]; exact get_add a3
  have b4 : m4[m3.length]? = some (.lst []) := by rw [hm4]; exact get_new
  obtain ⟨Ws, m5, y6, y7, y8, y9, e5, q5, ps5, o5, R5, f5⟩ := worksL (r := r) (sh := m.length) (q := m3.length) (x3 := y3) (x4 := y4) oS (by omega) (by omega) (by omega) (by omega) S.length 0 [] m4 none none none none (by omega) (by simp; omega) h4 a4 b4
  rw [List.nil_append] at q5
  rw [List.drop_zero] at ps5
  have lW : Ws.length = S.length := by have := congrArg List.length ps5; simpa using this
  have pP : Prog.ps Ws = S.map Prod.fst := ps5
  have ok : Prog.ok Ws := ⟨by omega, by omega, fun i W z => by have := (o5 i W z).1; rw [pP]; simpa using this⟩
  refine ⟨Ws, m5, m3.length, ?_, q5, ok, cost_le (by omega) fun i W z => by simpa using (o5 i W z).2, by omega, R5, by have := f5.1; omega, fun k hk nk => ?_⟩
  · have hR1 : iR (eIxL (lLst (lCons (eC (.int 1)) (lCons (eC (.int 2)) (lCons (eC (.int 2)) (lCons (eC (.int 3)) (lCons (eC (.int 4)) lNil)))))) (eCall 2 m__law_taken (lCons (eVar 0) (lCons (eC (.int 5)) lNil)))) [some (.obj r), some (.int 40), some (.obj m.length), none, none, none, none, none, none, none] m1 = .ok (rangeFrom 0 d, none) m2 := iR_nat (by simp [e2, ed]) (by omega)
    have hR2 : iR (eCB gLen (lCons (eVar 2) lNil)) [some (.obj r), some (.int 40), some (.obj m.length), y3, y4, some (.obj m3.length), none, none, none, none] m4 = .ok (rangeFrom 0 S.length, none) m4 := iR_nat (by simp [a4]) (by omega)
    simp only [Int.natCast_zero] at e5
    simp [m__law_program, mkF, b__law_program, ← hm1, -iR_eq, hR1, e3, ← hm4, hR2, e5]
  · rw [f5.2 k (by omega) (by simp; omega), hm4, List.getElem?_append_left (by omega), f3.2 k (by omega) (by simp; omega), R2.other nk (by omega), hm1, List.getElem?_append_left hk]
end Hb

set_option linter.all false
set_option autoImplicit false
set_option maxRecDepth 10000
set_option maxHeartbeats 4000000
/-! Hk: a turn of the law, and the law. -/
namespace Hb
open PySem L2 Sh Mi Tw
theorem rest_len {ds : List Deed} {us : List Wo} (h : us.length ≤ ds.length) : (restOf ds us).length = ds.length := by
  simp [restOf]; omega
theorem rest_words {ds : List Deed} {us : List Wo} {B : Nat} (h : ∀ x ∈ us, x.1.length ≤ B) : ∀ x ∈ restOf ds us, x.1.length ≤ B := fun x hx => by
  simp only [restOf, List.mem_append, List.mem_map] at hx
  rcases hx with hx | ⟨d, _, rfl⟩
  · exact h x hx
  · cases d <;> exact Nat.zero_le _
theorem told_ok {P : Prog} {ds : List Deed} {w : Nat} {ns : List Int} (hP : P.ok) (hs : ∀ d ∈ ds, d.ok) (hp : P.ps[w]? = some ns.length) (hn : ∀ v ∈ ns, Num v) :
    (toldOf P w ns ds).length = ds.length ∧ ∀ x ∈ toldOf P w ns ds, x.1.length ≤ cost P 4 w := by
  cases hb : begins ds with
  | false =>
    rw [told_0 hb]
    exact ⟨rest_len (Nat.zero_le _), rest_words (by simp)⟩
  | true =>
    obtain ⟨h0, ht⟩ := told_1 (P := P) (w := w) (ns := ns) hb
    obtain ⟨i1, i2, i3, i4, i5⟩ := walked_inv hs hP hp hn (t := ⟨[], []⟩) h0
    have tb := walked_TB hs hP hp hn (t := ⟨[], []⟩) (B := cost P 4 w) h0 (by simp) (fun x hx => by simp at hx)
    have wd : (play P ds 4 w ns ⟨[], []⟩).2.words.length ≤ cost P 4 w := by
      have l4 := hP.l4
      cases w with
      | succ w =>
        have := (play_ok hs hP 4 w (by omega) (w + 1) ns ⟨[], []⟩ (by omega) hp hn h0).2.2.1
        simpa using this
      | zero =>
        obtain ⟨W, e, hk⟩ := ps_get hp
        have ok := hP.at_ 0 W e
        have p := (Bd.inv hs (play_ok hs hP 3 0 (by omega)) W.body _ ⟨[], []⟩ ok.body (slots_good ok hk hn h0)).1.words
        have hcost : cost P 4 0 = W.body.cost (cost P 3) := by rw [cost, e]
        rw [hcost]
        unfold play
        rw [e]
        dsimp only
        rcases e2 : W.body.run ds (play P ds 3) (ns ++ List.replicate (W.slots - W.params) 0) ⟨[], []⟩ with ⟨y, vs', t'⟩
        rw [e2] at p
        have p2 : t'.words.length ≤ W.body.cost (cost P 3) := by simpa using p
        clear p e2
        cases y <;> exact p2
    rw [ht]
    rcases ep : play P ds 4 w ns ⟨[], []⟩ with ⟨y, t⟩
    rw [ep] at i1 i2 tb wd
    dsimp only at i1 i2 tb wd
    have snoc : ∀ o : Oc, t.told.length < ds.length → (restOf ds (t.told ++ [(t.words, o)])).length = ds.length ∧ ∀ x ∈ restOf ds (t.told ++ [(t.words, o)]), x.1.length ≤ cost P 4 w := fun o hl =>
      ⟨rest_len (by simp; omega), rest_words fun x hx => by
        simp only [List.mem_append, List.mem_singleton] at hx
        rcases hx with hx | rfl
        · exact tb x hx
        · exact wd⟩
    cases y with
    | stop => exact ⟨rest_len i2, rest_words tb⟩
    | go => exact snoc _ (i1 fun z => by cases z)
    | leave => exact snoc _ (i1 fun z => by cases z)
    | fault j => exact snoc _ (i1 fun z => by cases z)
    | fin j => exact snoc _ (i1 fun z => by cases z)
    | shut => exact snoc _ (i1 fun z => by cases z)
theorem eight {v : Int} (h : 0 ≤ v) (h' : v < 8) : ∃ d : Int, 0 ≤ d ∧ d < 90 ∧ L2.atI [D.int 12, .int 60] (v / 7) = some (.int d) := by
  have : v / 7 = 0 ∨ v / 7 = 1 := by omega
  rcases this with e | e
  · exact ⟨12, by omega, by omega, by rw [e]; rfl⟩
  · exact ⟨60, by omega, by omega, by rw [e]; rfl⟩
theorem get_add' {m m' g : M} {k : Nat} {o : O} (h : m' = m ++ g) (e : m[k]? = some o) : m'[k]? = some o := by rw [h]; exact get_add e
theorem callE2 {F : List D → M → R D} {i : Nat} {fa fb : Sl → M → R D} {A B d : D} {τ : Sl} {m m1 m2 m3 : M} (ha : fa τ m = .ok A m1) (hb : fb τ m1 = .ok B m2) (h : F [A, B] m2 = .ok d m3) : sSet i (eCall 2 F (lCons fa (lCons fb lNil))) τ m = .nx (τ.set i (some d)) m3 := by simp [ha, hb, h]
theorem callV4 {F : List D → M → R D} {i a b c e : Nat} {A B C E d : D} {τ : Sl} {m m1 : M} (ha : τ[a]? = some (some A)) (hb : τ[b]? = some (some B)) (hc : τ[c]? = some (some C)) (he : τ[e]? = some (some E)) (h : F [A, B, C, E] m = .ok d m1) : sSet i (eCall 4 F (lCons (eVar a) (lCons (eVar b) (lCons (eVar c) (lCons (eVar e) lNil))))) τ m = .nx (τ.set i (some d)) m1 := by simp [ha, hb, hc, he, h]
theorem turn_ok {xs : List Int} {r q : Nat} {P : Prog} {S x3 x4 x5 x6 x7 x8 x9 : Option D} {m : M} (hP : P.ok) (hC : ∀ h w, cost P h w ≤ 505440) (hqr : q ≠ r) (h : Row xs r m) (hq : m[q]? = some (.lst (P.map Work.enc))) :
    ∃ m' y4 y5 y6 y7 y8 y9, lb_law_k04_0 [S, some (.obj r), some (.obj q), x3, x4, x5, x6, x7, x8, x9] m = .nx [S, some (.obj r), some (.obj q), x3, y4, y5, y6, y7, y8, y9] m' ∧ Row xs r m' ∧ m'[q]? = some (.lst (P.map Work.enc)) := by
  have l1 := hP.l1
  have l4 := hP.l4
  obtain ⟨v, m1, e1, g1, u1, R1, _⟩ := taken_ok h (many := (P.length : Int)) (by omega) (by omega)
  obtain ⟨w, rfl⟩ : ∃ w : Nat, v = (w : Int) := ⟨v.toNat, by omega⟩
  have q1 := R1.keeps hqr hq
  obtain ⟨W, eW⟩ : ∃ W, P[w]? = some W := ⟨_, List.getElem?_eq_getElem (show w < P.length by omega)⟩
  have ok := hP.at_ w W eW
  have hix : L2.atI (P.map Work.enc) (w : Int) = some W.enc := atI_nat (by simp [eW])
  have hwk : W.enc = .tup [.int W.params, .int W.slots, .tup W.body.encs] := rfl
  obtain ⟨ns, m2, e2, nl, nn, R2⟩ := numbers_ok (n := W.params) (by have := ok.p2; omega) R1.row
  have q2 := R2.keeps hqr q1
  have hp : P.ps[w]? = some ns.length := by unfold Prog.ps; rw [List.getElem?_map, eW, nl]; rfl
  obtain ⟨z, m3, e3, g3, u3, R3, _⟩ := taken_ok R2.row (many := 8) (by decide) (by decide)
  obtain ⟨dn, d0, d9, ed⟩ := eight g3 u3
  obtain ⟨ds, m4, j, e4, J4, dl, dk, gj, R4⟩ := deeds_ok d0 d9 R3.row
  have q4 := R4.keeps hqr (R3.keeps hqr q2)
  have dl' : ds.length < 100000 := by omega
  have hc := hC 4 w
  have lq0 := get_lt hq
  have ln1 := R1.len
  have ln2 := R2.len
  have ln3 := R3.len
  have ln4 := R4.len
  have lr4 := R4.row.lt
  obtain ⟨m5, u, e5, U5, gu, f5⟩ := due_ok hP dk dl' hp nn (by omega) q4 J4
  have q5 := f5.keeps (by simp) q4
  have J5 := f5.keeps (by simp) J4
  have w5 : Row xs r m5 := R4.row.frr f5 (by simp)
  have n5 := f5.1
  obtain ⟨m6, hm6⟩ : ∃ m6, m6 = m5 ++ [O.lst (P.map Work.enc), O.lst (ds.map Deed.enc), O.lst [.obj m5.length, .obj (m5.length + 1)]] := ⟨_, rfl⟩
  have q6 := get_add' hm6 q5
  have J6 := get_add' hm6 J5
  have U6 := get_add' hm6 U5
  have Q6 : m6[m5.length]? = some (.lst (P.map Work.enc)) := by rw [hm6]; simp
  have D6 : m6[m5.length + 1]? = some (.lst (ds.map Deed.enc)) := by rw [hm6]; simp
  have H6 : m6[m5.length + 2]? = some (.lst [.obj m5.length, .obj (m5.length + 1)]) := by rw [hm6]; simp
  have n6 : m6.length = m5.length + 3 := by rw [hm6]; simp
  have w6 : Row xs r m6 := by rw [hm6]; exact w5.add _
  obtain ⟨m7, t1, e7, T7, g7, f7⟩ := played_ok hP dk dl' hp nn (by omega) Q6 D6
  have q7 := f7.keeps (by simp) q6
  have J7 := f7.keeps (by simp) J6
  have U7 := f7.keeps (by simp) U6
  have Q7 := f7.keeps (by simp) Q6
  have D7 := f7.keeps (by simp) D6
  have H7 := f7.keeps (by simp) H6
  have w7 : Row xs r m7 := w6.frr f7 (by simp)
  have n7 := f7.1
  obtain ⟨tl, tw⟩ := told_ok hP dk hp nn
  have plT : ∀ x ∈ (toldOf P w ns ds).map woD, Pl 2 x := fun x hx => by
    obtain ⟨y, hy, rfl⟩ := List.mem_map.mp hx
    exact wo_pl (by have := tw y hy; omega)
  have al : ((toldOf P w ns ds).map woD).length < 1000000 := by rw [List.length_map, tl]; omega
  have A7 : m_ga2 8 0 [.obj t1, .obj u] m7 = .ok (.bl true) m7 := alike_lst (f := 7) T7 U7 al plT (by decide)
  obtain ⟨m8, hm8⟩ : ∃ m8, m8 = m7 ++ [O.lst [.obj q, .obj j]] := ⟨_, rfl⟩
  have N8 : m8[m7.length]? = some (.lst [.obj q, .obj j]) := by rw [hm8]; exact get_new
  have q8 := get_add' hm8 q7
  have J8 := get_add' hm8 J7
  have U8 := get_add' hm8 U7
  have Q8 := get_add' hm8 Q7
  have D8 := get_add' hm8 D7
  have H8 := get_add' hm8 H7
  have T8 := get_add' hm8 T7
  have w8 : Row xs r m8 := by rw [hm8]; exact w7.add _
  have X8 : gNeD wds0 m8 (.obj (m5.length + 2)) (.obj m7.length) = some (.bl false) := handed_ok H8 N8 Q8 q8 D8 J8 (k := 27) (Prog.pl hP) (fun x hx => (deeds_pl x hx).up (by omega)) (by decide)
  have lt1 := get_lt T7
  have lu := get_lt U5
  have lj := get_lt J5
  have lq := get_lt q5
  have lr := w5.lt
  obtain ⟨m9, hm9⟩ : ∃ m9, m9 = m8.set t1 (.lst []) := ⟨_, rfl⟩
  have f9 : Fr [t1] m8 m9 := by rw [hm9]; exact Fr.refl.set _ fun _ => by simp
  have q9 := f9.keeps (by simp; omega) q8
  have U9 := f9.keeps (by simp; omega) U8
  have Q9 := f9.keeps (by simp; omega) Q8
  have D9 := f9.keeps (by simp; omega) D8
  have H9 := f9.keeps (by simp; omega) H8
  have w9 : Row xs r m9 := w8.frr f9 (by simp; omega)
  obtain ⟨m10, t2, e10, T10, g10, f10⟩ := played_ok hP dk dl' hp nn (by omega) Q9 D9
  have U10 := f10.keeps (by simp) U9
  have A10 : m_ga2 8 0 [.obj t2, .obj u] m10 = .ok (.bl true) m10 := alike_lst (f := 7) T10 U10 al plT (by decide)
  refine ⟨m10, some (.int w), some (.tup (ns.map .int)), some (.obj j), some (.obj u), some (.obj (m5.length + 2)), some (.obj t1), ?_, w9.frr f10 (by simp), f10.keeps (by simp) q9⟩
  unfold lb_law_k04_0
  refine seq_nx (τ1 := [S, some (.obj r), some (.obj q), x3, some (.int w), x5, x6, x7, x8, x9]) (m1 := m1) (by simp [hq, e1]) ?_
  refine seq_nx (τ1 := [S, some (.obj r), some (.obj q), x3, some (.int w), some (.tup (ns.map .int)), x6, x7, x8, x9]) (m1 := m2) (callE2 (i := 5) (m1 := m1) (m2 := m1) rfl (by simp [q1, hix, hwk]) e2) ?_
  refine seq_nx (τ1 := [S, some (.obj r), some (.obj q), x3, some (.int w), some (.tup (ns.map .int)), some (.obj j), x7, x8, x9]) (m1 := m4) (callE2 (i := 6) (m1 := m2) (m2 := m3) rfl (by simp [e3, ed]) e4) ?_
  refine seq_nx (τ1 := [S, some (.obj r), some (.obj q), x3, some (.int w), some (.tup (ns.map .int)), some (.obj j), some (.obj u), x8, x9]) (m1 := m5) (callV4 (i := 7) (a := 2) (b := 4) (c := 5) (e := 6) rfl rfl rfl rfl e5) ?_
  have J5' : (m5 ++ [O.lst (P.map Work.enc)])[j]? = some (.lst (ds.map Deed.enc)) := get_add J5
  refine seq_nx (τ1 := [S, some (.obj r), some (.obj q), x3, some (.int w), some (.tup (ns.map .int)), some (.obj j), some (.obj u), some (.obj (m5.length + 2)), x9]) (m1 := m6) (by simp [q5, J5', hm6]) ?_
  refine seq_nx (τ1 := [S, some (.obj r), some (.obj q), x3, some (.int w), some (.tup (ns.map .int)), some (.obj j), some (.obj u), some (.obj (m5.length + 2)), some (.obj t1)]) (m1 := m7) (by simp [H6, e7]) ?_
  refine seq_nx (τ1 := [S, some (.obj r), some (.obj q), x3, some (.int w), some (.tup (ns.map .int)), some (.obj j), some (.obj u), some (.obj (m5.length + 2)), some (.obj t1)]) (m1 := m8) (by simp [A7, ← hm8, X8]) ?_
  refine seq_nx (τ1 := [S, some (.obj r), some (.obj q), x3, some (.int w), some (.tup (ns.map .int)), some (.obj j), some (.obj u), some (.obj (m5.length + 2)), some (.obj t1)]) (m1 := m9) (by simp [T8, hm9]) ?_
  simp [H9, e10, A10]
theorem turnsL {xs : List Int} {r q : Nat} {P : Prog} {S : Option D} (hP : P.ok) (hC : ∀ h w, cost P h w ≤ 505440) (hqr : q ≠ r) : ∀ (ys : List D) (x3 x4 x5 x6 x7 x8 x9 : Option D) (m : M), Row xs r m → m[q]? = some (.lst (P.map Work.enc)) →
    ∃ m' τ', loop (gN 3) lb_law_k04_0 ys [S, some (.obj r), some (.obj q), x3, x4, x5, x6, x7, x8, x9] m = .nx τ' m'
  | [], _, _, _, _, _, _, _, m, _, _ => ⟨m, _, rfl⟩
  | y :: ys, x3, x4, x5, x6, x7, x8, x9, m, h, hq => by
    obtain ⟨m1, y4, y5, y6, y7, y8, y9, e, h1, q1⟩ := turn_ok (S := S) (x3 := some y) (x4 := x4) (x5 := x5) (x6 := x6) (x7 := x7) (x8 := x8) (x9 := x9) hP hC hqr h hq
    obtain ⟨m2, τ2, e2⟩ := turnsL (S := S) hP hC hqr ys (some y) y4 y5 y6 y7 y8 y9 m1 h1 q1
    refine ⟨m2, τ2, ?_⟩
    rw [loop]
    show (match lb_law_k04_0 [S, some (.obj r), some (.obj q), some y, x4, x5, x6, x7, x8, x9] m with
      | .nx τ2 m2 => loop (gN 3) lb_law_k04_0 ys τ2 m2
      | .ct τ2 m2 => loop (gN 3) lb_law_k04_0 ys τ2 m2
      | .bk τ2 m2 => .nx τ2 m2
      | s => s) = _
    rw [e]
    exact e2
theorem callC {F : List D → M → R D} {i p : Nat} {a b d : D} {τ : Sl} {m m1 : M} (hp : τ[p]? = some (some a)) (h : F [a, b] m = .ok d m1) : sSet i (eCall 2 F (lCons (eVar p) (lCons (eC b) lNil))) τ m = .nx (τ.set i (some d)) m1 := by simp [hp, h]
theorem law_true (ns : List Int) (hl : ns.length ≤ 63) (hb : ∀ z ∈ ns, Builtin.Int.intBits z ≤ 1048576) : ∃ m, m_law_k04 [.frl (ns.map D.int)] [] = .ok (.bl true) m := by
  have h : Row ns 0 [.lst [.frl (ns.map .int), .int 0, .int 0, .int 0]] := ⟨0, 0, 0, by decide, rfl⟩
  obtain ⟨P, m1, q, e1, q1, hP, hC, gq, R1⟩ := program_ok h
  have gq' : 1 ≤ q := gq
  obtain ⟨m', τ', e⟩ := turnsL (S := some (.frl (ns.map .int))) hP hC (show q ≠ 0 by omega) (rangeFrom 0 3) none none none none none none none m1 R1.row q1
  refine ⟨m', ?_⟩
  have hI : ∀ (τ : Sl) (m : M), iR (eC (.int 3)) τ m = .ok (rangeFrom 0 3, none) m := fun τ m => iR_nat (n := 3) rfl (by decide)
  show toR (b_law_k04 _ _) = _
  unfold b_law_k04
  rw [seq_nx (τ1 := [some (.frl (ns.map .int)), some (.obj 0), none, none, none, none, none, none, none, none]) (m1 := [.lst [.frl (ns.map .int), .int 0, .int 0, .int 0]]) (by simp) (seq_nx (τ1 := [some (.frl (ns.map .int)), some (.obj 0), some (.obj q), none, none, none, none, none, none, none]) (m1 := m1) (callC (i := 2) (p := 1) rfl e1) (seq_nx (τ1 := τ') (m1 := m') (by rw [sFor_eq, hI]; exact e) rfl))]
  rfl
end Hb

set_option linter.all false
set_option autoImplicit false
namespace K04
open PySem L2 Sh Mi
theorem law_true (ns : List Int) (hl : ns.length ≤ 63) (hb : ∀ z ∈ ns, Builtin.Int.intBits z ≤ 1048576) : ∃ m, m_law_k04 [.frl (ns.map D.int)] [] = .ok (.bl true) m := Hb.law_true ns hl hb
end K04

set_option Elab.async false
set_option linter.all false
set_option autoImplicit false
set_option maxRecDepth 100000
set_option maxHeartbeats 4000000
namespace K04
open PySem PySem.Spec PyProof.Rows L2 Sh Mi
theorem all_mk {l : PySem.W.OpenLaw} {w : World} {K : PySem.W.Frag} {h : Heap} {mg : Str → Option Value} {fa : Addr} (X : K.In h) (G : h.Ns mainGlobals mg) (hfa : mg "law" = some (.ref fa))
    {cc0 : Addr} {PP0 : Addr} (hT : ∀ P ∈ [PP0], h.get? P = some (PySem.W.tabObj #[]))
    {a0 a1 a2 a3 a4 a5 a6 a7 a8 a9 a10 a11 a12 a13 a14 a15 a16 a17 a18 a19 a20 a21 a22 a23 a24 a25 a26 a27 a28 a29 a30 a31 a32 a33 a34 a35 a36 a37 a38 a39 a40 a41 a42 a43 a44 a45 a46 a47 a48 a49 a50 a51 a52 a53 a54 a55 a56 a57 a58 a59 : Addr} {e0 e1 e2 : Addr} {x0 x1 : Addr}
    {od0 od1 od2 od3 od4 od5 od6 od7 od8 od9 od10 od11 od12 od13 od14 od15 od16 od17 od18 od19 od20 od21 od22 od23 od24 od25 od26 od27 od28 od29 od30 od31 od32 od33 od34 od35 od36 od37 od38 od39 od40 od41 od42 od43 od44 od45 od46 od47 od48 od49 od50 od51 od52 od53 od54 od55 od56 od57 od58 od59 an0 an1 an2 an3 an4 an5 an6 an7 an8 an9 an10 an11 an12 an13 an14 an15 an16 an17 an18 an19 an20 an21 an22 an23 an24 an25 an26 an27 an28 an29 an30 an31 an32 an33 an34 an35 an36 an37 an38 an39 an40 an41 an42 an43 an44 an45 an46 an47 an48 an49 an50 an51 an52 an53 an54 an55 an56 an57 an58 an59 : Option Addr} {sl0 sl1 sl2 sl3 sl4 sl5 sl6 sl7 sl8 sl9 sl10 sl11 sl12 sl13 sl14 sl15 sl16 sl17 sl18 sl19 sl20 sl21 sl22 sl23 sl24 sl25 sl26 sl27 sl28 sl29 sl30 sl31 sl32 sl33 sl34 sl35 sl36 sl37 sl38 sl39 sl40 sl41 sl42 sl43 sl44 sl45 sl46 sl47 sl48 sl49 sl50 sl51 sl52 sl53 sl54 sl55 sl56 sl57 sl58 sl59 : Array (Option Value)} {oc0 kV0 dc0 pm0 cd0 ct0 oc1 kV1 dc1 pm1 cd1 ct1 oc2 kV2 dc2 pm2 cd2 ct2 oc3 kV3 dc3 pm3 cd3 ct3 oc4 kV4 dc4 pm4 cd4 ct4 oc5 kV5 dc5 pm5 cd5 ct5 oc6 kV6 dc6 pm6 cd6 ct6 oc7 kV7 dc7 pm7 cd7 ct7 oc8 kV8 dc8 pm8 cd8 ct8 oc9 kV9 dc9 pm9 cd9 ct9 oc10 kV10 dc10 pm10 cd10 ct10 oc11 kV11 dc11 pm11 cd11 ct11 oc12 kV12 dc12 pm12 cd12 ct12 oc13 kV13 dc13 pm13 cd13 ct13 oc14 kV14 dc14 pm14 cd14 ct14 oc15 kV15 dc15 pm15 cd15 ct15 oc16 kV16 dc16 pm16 cd16 ct16 oc17 kV17 dc17 pm17 cd17 ct17 oc18 kV18 dc18 pm18 cd18 ct18 oc19 kV19 dc19 pm19 cd19 ct19 oc20 kV20 dc20 pm20 cd20 ct20 oc21 kV21 dc21 pm21 cd21 ct21 oc22 kV22 dc22 pm22 cd22 ct22 oc23 kV23 dc23 pm23 cd23 ct23 oc24 kV24 dc24 pm24 cd24 ct24 oc25 kV25 dc25 pm25 cd25 ct25 oc26 kV26 dc26 pm26 cd26 ct26 oc27 kV27 dc27 pm27 cd27 ct27 oc28 kV28 dc28 pm28 cd28 ct28 oc29 kV29 dc29 pm29 cd29 ct29 oc30 kV30 dc30 pm30 cd30 ct30 oc31 kV31 dc31 pm31 cd31 ct31 oc32 kV32 dc32 pm32 cd32 ct32 oc33 kV33 dc33 pm33 cd33 ct33 oc34 kV34 dc34 pm34 cd34 ct34 oc35 kV35 dc35 pm35 cd35 ct35 oc36 kV36 dc36 pm36 cd36 ct36 oc37 kV37 dc37 pm37 cd37 ct37 oc38 kV38 dc38 pm38 cd38 ct38 oc39 kV39 dc39 pm39 cd39 ct39 oc40 kV40 dc40 pm40 cd40 ct40 oc41 kV41 dc41 pm41 cd41 ct41 oc42 kV42 dc42 pm42 cd42 ct42 oc43 kV43 dc43 pm43 cd43 ct43 oc44 kV44 dc44 pm44 cd44 ct44 oc45 kV45 dc45 pm45 cd45 ct45 oc46 kV46 dc46 pm46 cd46 ct46 oc47 kV47 dc47 pm47 cd47 ct47 oc48 kV48 dc48 pm48 cd48 ct48 oc49 kV49 dc49 pm49 cd49 ct49 oc50 kV50 dc50 pm50 cd50 ct50 oc51 kV51 dc51 pm51 cd51 ct51 oc52 kV52 dc52 pm52 cd52 ct52 oc53 kV53 dc53 pm53 cd53 ct53 oc54 kV54 dc54 pm54 cd54 ct54 oc55 kV55 dc55 pm55 cd55 ct55 oc56 kV56 dc56 pm56 cd56 ct56 oc57 kV57 dc57 pm57 cd57 ct57 oc58 kV58 dc58 pm58 cd58 ct58 oc59 kV59 dc59 pm59 cd59 ct59 : Value}
    {t_MOST t_MOST_AROUND_RECKONING t_MOST_AROUND_STEP t_MOST_PARAMS t_MOST_SLOTS t_MOST_STEPS t_MOST_WORKS t_WRAP : Tok}
    (qc_MOST : PySem.W.nsIn K mainGlobals "MOST" = some (some (.int 999 t_MOST)))
    (qc_MOST_AROUND_RECKONING : PySem.W.nsIn K mainGlobals "MOST_AROUND_RECKONING" = some (some (.int 3 t_MOST_AROUND_RECKONING)))
    (qc_MOST_AROUND_STEP : PySem.W.nsIn K mainGlobals "MOST_AROUND_STEP" = some (some (.int 6 t_MOST_AROUND_STEP)))
    (qc_MOST_PARAMS : PySem.W.nsIn K mainGlobals "MOST_PARAMS" = some (some (.int 2 t_MOST_PARAMS)))
    (qc_MOST_SLOTS : PySem.W.nsIn K mainGlobals "MOST_SLOTS" = some (some (.int 4 t_MOST_SLOTS)))
    (qc_MOST_STEPS : PySem.W.nsIn K mainGlobals "MOST_STEPS" = some (some (.int 40 t_MOST_STEPS)))
    (qc_MOST_WORKS : PySem.W.nsIn K mainGlobals "MOST_WORKS" = some (some (.int 4 t_MOST_WORKS)))
    (qc_WRAP : PySem.W.nsIn K mainGlobals "WRAP" = some (some (.int 1000 t_WRAP)))
    (qz_bool : PySem.W.nsIn K mainGlobals "bool" = some none)
    (qz_int : PySem.W.nsIn K mainGlobals "int" = some none)
    (qz_isinstance : PySem.W.nsIn K mainGlobals "isinstance" = some none)
    (qz_len : PySem.W.nsIn K mainGlobals "len" = some none)
    (qz_list : PySem.W.nsIn K mainGlobals "list" = some none)
    (qz_min : PySem.W.nsIn K mainGlobals "min" = some none)
    (qz_range : PySem.W.nsIn K mainGlobals "range" = some none)
    (qz_str : PySem.W.nsIn K mainGlobals "str" = some none)
    (qz_tuple : PySem.W.nsIn K mainGlobals "tuple" = some none)
    (qg__law_alike : PySem.W.nsIn K mainGlobals "_law_alike" = some (some (.ref a0)))
    (l0 : K.lookup a0 = some ⟨oc0, od0, .func (PySem.W.fnOf "_law_alike" "_law_alike" (defArgs st__law_alike) (defBody st__law_alike) (defScope st__law_alike) .none kV0 dc0 pm0 an0 cd0 ct0), sl0⟩)
    (c0 : PySem.W.codeIn K cd0 "_law_alike" = true)
    (k0 : PySem.W.keepIn K (.ref a0) = true)
    (qg__law_taken : PySem.W.nsIn K mainGlobals "_law_taken" = some (some (.ref a1)))
    (l1 : K.lookup a1 = some ⟨oc1, od1, .func (PySem.W.fnOf "_law_taken" "_law_taken" (defArgs st__law_taken) (defBody st__law_taken) (defScope st__law_taken) .none kV1 dc1 pm1 an1 cd1 ct1), sl1⟩)
    (c1 : PySem.W.codeIn K cd1 "_law_taken" = true)
    (k1 : PySem.W.keepIn K (.ref a1) = true)
    (qg__law_deeds : PySem.W.nsIn K mainGlobals "_law_deeds" = some (some (.ref a2)))
    (l2 : K.lookup a2 = some ⟨oc2, od2, .func (PySem.W.fnOf "_law_deeds" "_law_deeds" (defArgs st__law_deeds) (defBody st__law_deeds) (defScope st__law_deeds) .none kV2 dc2 pm2 an2 cd2 ct2), sl2⟩)
    (c2 : PySem.W.codeIn K cd2 "_law_deeds" = true)
    (k2 : PySem.W.keepIn K (.ref a2) = true)
    (qg__law_tell : PySem.W.nsIn K mainGlobals "_law_tell" = some (some (.ref a3)))
    (l3 : K.lookup a3 = some ⟨oc3, od3, .func (PySem.W.fnOf "_law_tell" "_law_tell" (defArgs st__law_tell) (defBody st__law_tell) (defScope st__law_tell) .none kV3 dc3 pm3 an3 cd3 ct3), sl3⟩)
    (c3 : PySem.W.codeIn K cd3 "_law_tell" = true)
    (k3 : PySem.W.keepIn K (.ref a3) = true)
    (qg__law_closed : PySem.W.nsIn K mainGlobals "_law_closed" = some (some (.ref a4)))
    (l4 : K.lookup a4 = some ⟨oc4, od4, .func (PySem.W.fnOf "_law_closed" "_law_closed" (defArgs st__law_closed) (defBody st__law_closed) (defScope st__law_closed) .none kV4 dc4 pm4 an4 cd4 ct4), sl4⟩)
    (c4 : PySem.W.codeIn K cd4 "_law_closed" = true)
    (k4 : PySem.W.keepIn K (.ref a4) = true)
    (qg__law_gift : PySem.W.nsIn K mainGlobals "_law_gift" = some (some (.ref a5)))
    (l5 : K.lookup a5 = some ⟨oc5, od5, .func (PySem.W.fnOf "_law_gift" "_law_gift" (defArgs st__law_gift) (defBody st__law_gift) (defScope st__law_gift) .none kV5 dc5 pm5 an5 cd5 ct5), sl5⟩)
    (c5 : PySem.W.codeIn K cd5 "_law_gift" = true)
    (k5 : PySem.W.keepIn K (.ref a5) = true)
    (qg__law_given : PySem.W.nsIn K mainGlobals "_law_given" = some (some (.ref a6)))
    (l6 : K.lookup a6 = some ⟨oc6, od6, .func (PySem.W.fnOf "_law_given" "_law_given" (defArgs st__law_given) (defBody st__law_given) (defScope st__law_given) .none kV6 dc6 pm6 an6 cd6 ct6), sl6⟩)
    (c6 : PySem.W.codeIn K cd6 "_law_given" = true)
    (k6 : PySem.W.keepIn K (.ref a6) = true)
    (qg__law_reckoned : PySem.W.nsIn K mainGlobals "_law_reckoned" = some (some (.ref a7)))
    (l7 : K.lookup a7 = some ⟨oc7, od7, .func (PySem.W.fnOf "_law_reckoned" "_law_reckoned" (defArgs st__law_reckoned) (defBody st__law_reckoned) (defScope st__law_reckoned) .none kV7 dc7 pm7 an7 cd7 ct7), sl7⟩)
    (c7 : PySem.W.codeIn K cd7 "_law_reckoned" = true)
    (k7 : PySem.W.keepIn K (.ref a7) = true)
    (qg__law_walk : PySem.W.nsIn K mainGlobals "_law_walk" = some (some (.ref a8)))
    (l8 : K.lookup a8 = some ⟨oc8, od8, .func (PySem.W.fnOf "_law_walk" "_law_walk" (defArgs st__law_walk) (defBody st__law_walk) (defScope st__law_walk) .none kV8 dc8 pm8 an8 cd8 ct8), sl8⟩)
    (c8 : PySem.W.codeIn K cd8 "_law_walk" = true)
    (k8 : PySem.W.keepIn K (.ref a8) = true)
    (qg__law_step : PySem.W.nsIn K mainGlobals "_law_step" = some (some (.ref a9)))
    (l9 : K.lookup a9 = some ⟨oc9, od9, .func (PySem.W.fnOf "_law_step" "_law_step" (defArgs st__law_step) (defBody st__law_step) (defScope st__law_step) .none kV9 dc9 pm9 an9 cd9 ct9), sl9⟩)
    (c9 : PySem.W.codeIn K cd9 "_law_step" = true)
    (k9 : PySem.W.keepIn K (.ref a9) = true)
    (qg__law_rounds : PySem.W.nsIn K mainGlobals "_law_rounds" = some (some (.ref a10)))
    (l10 : K.lookup a10 = some ⟨oc10, od10, .func (PySem.W.fnOf "_law_rounds" "_law_rounds" (defArgs st__law_rounds) (defBody st__law_rounds) (defScope st__law_rounds) .none kV10 dc10 pm10 an10 cd10 ct10), sl10⟩)
    (c10 : PySem.W.codeIn K cd10 "_law_rounds" = true)
    (k10 : PySem.W.keepIn K (.ref a10) = true)
    (qg__law_handed : PySem.W.nsIn K mainGlobals "_law_handed" = some (some (.ref a11)))
    (l11 : K.lookup a11 = some ⟨oc11, od11, .func (PySem.W.fnOf "_law_handed" "_law_handed" (defArgs st__law_handed) (defBody st__law_handed) (defScope st__law_handed) .none kV11 dc11 pm11 an11 cd11 ct11), sl11⟩)
    (c11 : PySem.W.codeIn K cd11 "_law_handed" = true)
    (k11 : PySem.W.keepIn K (.ref a11) = true)
    (qg__law_tried : PySem.W.nsIn K mainGlobals "_law_tried" = some (some (.ref a12)))
    (l12 : K.lookup a12 = some ⟨oc12, od12, .func (PySem.W.fnOf "_law_tried" "_law_tried" (defArgs st__law_tried) (defBody st__law_tried) (defScope st__law_tried) .none kV12 dc12 pm12 an12 cd12 ct12), sl12⟩)
    (c12 : PySem.W.codeIn K cd12 "_law_tried" = true)
    (k12 : PySem.W.keepIn K (.ref a12) = true)
    (qg__law_due : PySem.W.nsIn K mainGlobals "_law_due" = some (some (.ref a13)))
    (l13 : K.lookup a13 = some ⟨oc13, od13, .func (PySem.W.fnOf "_law_due" "_law_due" (defArgs st__law_due) (defBody st__law_due) (defScope st__law_due) .none kV13 dc13 pm13 an13 cd13 ct13), sl13⟩)
    (c13 : PySem.W.codeIn K cd13 "_law_due" = true)
    (k13 : PySem.W.keepIn K (.ref a13) = true)
    (qg__law_numbers : PySem.W.nsIn K mainGlobals "_law_numbers" = some (some (.ref a14)))
    (l14 : K.lookup a14 = some ⟨oc14, od14, .func (PySem.W.fnOf "_law_numbers" "_law_numbers" (defArgs st__law_numbers) (defBody st__law_numbers) (defScope st__law_numbers) .none kV14 dc14 pm14 an14 cd14 ct14), sl14⟩)
    (c14 : PySem.W.codeIn K cd14 "_law_numbers" = true)
    (k14 : PySem.W.keepIn K (.ref a14) = true)
    (qg__law_reckoning : PySem.W.nsIn K mainGlobals "_law_reckoning" = some (some (.ref a15)))
    (l15 : K.lookup a15 = some ⟨oc15, od15, .func (PySem.W.fnOf "_law_reckoning" "_law_reckoning" (defArgs st__law_reckoning) (defBody st__law_reckoning) (defScope st__law_reckoning) .none kV15 dc15 pm15 an15 cd15 ct15), sl15⟩)
    (c15 : PySem.W.codeIn K cd15 "_law_reckoning" = true)
    (k15 : PySem.W.keepIn K (.ref a15) = true)
    (qg__law_lent : PySem.W.nsIn K mainGlobals "_law_lent" = some (some (.ref a16)))
    (l16 : K.lookup a16 = some ⟨oc16, od16, .func (PySem.W.fnOf "_law_lent" "_law_lent" (defArgs st__law_lent) (defBody st__law_lent) (defScope st__law_lent) .none kV16 dc16 pm16 an16 cd16 ct16), sl16⟩)
    (c16 : PySem.W.codeIn K cd16 "_law_lent" = true)
    (k16 : PySem.W.keepIn K (.ref a16) = true)
    (qg__law_body : PySem.W.nsIn K mainGlobals "_law_body" = some (some (.ref a17)))
    (l17 : K.lookup a17 = some ⟨oc17, od17, .func (PySem.W.fnOf "_law_body" "_law_body" (defArgs st__law_body) (defBody st__law_body) (defScope st__law_body) .none kV17 dc17 pm17 an17 cd17 ct17), sl17⟩)
    (c17 : PySem.W.codeIn K cd17 "_law_body" = true)
    (k17 : PySem.W.keepIn K (.ref a17) = true)
    (qg__law_drawn : PySem.W.nsIn K mainGlobals "_law_drawn" = some (some (.ref a18)))
    (l18 : K.lookup a18 = some ⟨oc18, od18, .func (PySem.W.fnOf "_law_drawn" "_law_drawn" (defArgs st__law_drawn) (defBody st__law_drawn) (defScope st__law_drawn) .none kV18 dc18 pm18 an18 cd18 ct18), sl18⟩)
    (c18 : PySem.W.codeIn K cd18 "_law_drawn" = true)
    (k18 : PySem.W.keepIn K (.ref a18) = true)
    (qg__law_try : PySem.W.nsIn K mainGlobals "_law_try" = some (some (.ref a19)))
    (l19 : K.lookup a19 = some ⟨oc19, od19, .func (PySem.W.fnOf "_law_try" "_law_try" (defArgs st__law_try) (defBody st__law_try) (defScope st__law_try) .none kV19 dc19 pm19 an19 cd19 ct19), sl19⟩)
    (c19 : PySem.W.codeIn K cd19 "_law_try" = true)
    (k19 : PySem.W.keepIn K (.ref a19) = true)
    (qg__law_tower : PySem.W.nsIn K mainGlobals "_law_tower" = some (some (.ref a20)))
    (l20 : K.lookup a20 = some ⟨oc20, od20, .func (PySem.W.fnOf "_law_tower" "_law_tower" (defArgs st__law_tower) (defBody st__law_tower) (defScope st__law_tower) .none kV20 dc20 pm20 an20 cd20 ct20), sl20⟩)
    (c20 : PySem.W.codeIn K cd20 "_law_tower" = true)
    (k20 : PySem.W.keepIn K (.ref a20) = true)
    (qg__law_program : PySem.W.nsIn K mainGlobals "_law_program" = some (some (.ref a21)))
    (l21 : K.lookup a21 = some ⟨oc21, od21, .func (PySem.W.fnOf "_law_program" "_law_program" (defArgs st__law_program) (defBody st__law_program) (defScope st__law_program) .none kV21 dc21 pm21 an21 cd21 ct21), sl21⟩)
    (c21 : PySem.W.codeIn K cd21 "_law_program" = true)
    (k21 : PySem.W.keepIn K (.ref a21) = true)
    (l22 : K.lookup a22 = some ⟨oc22, od22, .func (PySem.W.fnOf "__init__" "Asker.__init__" (defArgs st_Asker___init__) (defBody st_Asker___init__) (defScope st_Asker___init__) .none kV22 dc22 pm22 an22 cd22 ct22), sl22⟩)
    (c22 : PySem.W.codeIn K cd22 "Asker.__init__" = true)
    (k22 : PySem.W.keepIn K (.ref a22) = true)
    (l23 : K.lookup a23 = some ⟨oc23, od23, .func (PySem.W.fnOf "begins" "Asker.begins" (defArgs st_Asker_begins) (defBody st_Asker_begins) (defScope st_Asker_begins) .none kV23 dc23 pm23 an23 cd23 ct23), sl23⟩)
    (c23 : PySem.W.codeIn K cd23 "Asker.begins" = true)
    (k23 : PySem.W.keepIn K (.ref a23) = true)
    (l24 : K.lookup a24 = some ⟨oc24, od24, .func (PySem.W.fnOf "tell" "Asker.tell" (defArgs st_Asker_tell) (defBody st_Asker_tell) (defScope st_Asker_tell) .none kV24 dc24 pm24 an24 cd24 ct24), sl24⟩)
    (c24 : PySem.W.codeIn K cd24 "Asker.tell" = true)
    (k24 : PySem.W.keepIn K (.ref a24) = true)
    (l25 : K.lookup a25 = some ⟨oc25, od25, .func (PySem.W.fnOf "do_the_rest" "Asker.do_the_rest" (defArgs st_Asker_do_the_rest) (defBody st_Asker_do_the_rest) (defScope st_Asker_do_the_rest) .none kV25 dc25 pm25 an25 cd25 ct25), sl25⟩)
    (c25 : PySem.W.codeIn K cd25 "Asker.do_the_rest" = true)
    (k25 : PySem.W.keepIn K (.ref a25) = true)
    (l26 : K.lookup a26 = some ⟨oc26, od26, .func (PySem.W.fnOf "deed" "Asker.deed" (defArgs st_Asker_deed) (defBody st_Asker_deed) (defScope st_Asker_deed) .none kV26 dc26 pm26 an26 cd26 ct26), sl26⟩)
    (c26 : PySem.W.codeIn K cd26 "Asker.deed" = true)
    (k26 : PySem.W.keepIn K (.ref a26) = true)
    (l27 : K.lookup a27 = some ⟨oc27, od27, .func (PySem.W.fnOf "see_out" "Asker.see_out" (defArgs st_Asker_see_out) (defBody st_Asker_see_out) (defScope st_Asker_see_out) .none kV27 dc27 pm27 an27 cd27 ct27), sl27⟩)
    (c27 : PySem.W.codeIn K cd27 "Asker.see_out" = true)
    (k27 : PySem.W.keepIn K (.ref a27) = true)
    (l28 : K.lookup a28 = some ⟨oc28, od28, .func (PySem.W.fnOf "__init__" "Walk.__init__" (defArgs st_Walk___init__) (defBody st_Walk___init__) (defScope st_Walk___init__) .none kV28 dc28 pm28 an28 cd28 ct28), sl28⟩)
    (c28 : PySem.W.codeIn K cd28 "Walk.__init__" = true)
    (k28 : PySem.W.keepIn K (.ref a28) = true)
    (l29 : K.lookup a29 = some ⟨oc29, od29, .func (PySem.W.fnOf "say" "Asker.say" (defArgs st_Asker_say) (defBody st_Asker_say) (defScope st_Asker_say) .none kV29 dc29 pm29 an29 cd29 ct29), sl29⟩)
    (c29 : PySem.W.codeIn K cd29 "Asker.say" = true)
    (k29 : PySem.W.keepIn K (.ref a29) = true)
    (l30 : K.lookup a30 = some ⟨oc30, od30, .func (PySem.W.fnOf "take" "Asker.take" (defArgs st_Asker_take) (defBody st_Asker_take) (defScope st_Asker_take) .none kV30 dc30 pm30 an30 cd30 ct30), sl30⟩)
    (c30 : PySem.W.codeIn K cd30 "Asker.take" = true)
    (k30 : PySem.W.keepIn K (.ref a30) = true)
    (l31 : K.lookup a31 = some ⟨oc31, od31, .func (PySem.W.fnOf "keep" "Walk.keep" (defArgs st_Walk_keep) (defBody st_Walk_keep) (defScope st_Walk_keep) .none kV31 dc31 pm31 an31 cd31 ct31), sl31⟩)
    (c31 : PySem.W.codeIn K cd31 "Walk.keep" = true)
    (k31 : PySem.W.keepIn K (.ref a31) = true)
    (l32 : K.lookup a32 = some ⟨oc32, od32, .func (PySem.W.fnOf "give" "Walk.give" (defArgs st_Walk_give) (defBody st_Walk_give) (defScope st_Walk_give) .none kV32 dc32 pm32 an32 cd32 ct32), sl32⟩)
    (c32 : PySem.W.codeIn K cd32 "Walk.give" = true)
    (k32 : PySem.W.keepIn K (.ref a32) = true)
    (qg_reckoned_of_two : PySem.W.nsIn K mainGlobals "reckoned_of_two" = some (some (.ref a33)))
    (l33 : K.lookup a33 = some ⟨oc33, od33, .func (PySem.W.fnOf "reckoned_of_two" "reckoned_of_two" (defArgs st_reckoned_of_two) (defBody st_reckoned_of_two) (defScope st_reckoned_of_two) .none kV33 dc33 pm33 an33 cd33 ct33), sl33⟩)
    (c33 : PySem.W.codeIn K cd33 "reckoned_of_two" = true)
    (k33 : PySem.W.keepIn K (.ref a33) = true)
    (qg_reckoned : PySem.W.nsIn K mainGlobals "reckoned" = some (some (.ref a34)))
    (l34 : K.lookup a34 = some ⟨oc34, od34, .func (PySem.W.fnOf "reckoned" "reckoned" (defArgs st_reckoned) (defBody st_reckoned) (defScope st_reckoned) .none kV34 dc34 pm34 an34 cd34 ct34), sl34⟩)
    (c34 : PySem.W.codeIn K cd34 "reckoned" = true)
    (k34 : PySem.W.keepIn K (.ref a34) = true)
    (l35 : K.lookup a35 = some ⟨oc35, od35, .func (PySem.W.fnOf "reckon" "Walk.reckon" (defArgs st_Walk_reckon) (defBody st_Walk_reckon) (defScope st_Walk_reckon) .none kV35 dc35 pm35 an35 cd35 ct35), sl35⟩)
    (c35 : PySem.W.codeIn K cd35 "Walk.reckon" = true)
    (k35 : PySem.W.keepIn K (.ref a35) = true)
    (qg_walked : PySem.W.nsIn K mainGlobals "walked" = some (some (.ref a36)))
    (l36 : K.lookup a36 = some ⟨oc36, od36, .func (PySem.W.fnOf "walked" "walked" (defArgs st_walked) (defBody st_walked) (defScope st_walked) .none kV36 dc36 pm36 an36 cd36 ct36), sl36⟩)
    (c36 : PySem.W.codeIn K cd36 "walked" = true)
    (k36 : PySem.W.keepIn K (.ref a36) = true)
    (l37 : K.lookup a37 = some ⟨oc37, od37, .func (PySem.W.fnOf "body" "Walk.body" (defArgs st_Walk_body) (defBody st_Walk_body) (defScope st_Walk_body) .none kV37 dc37 pm37 an37 cd37 ct37), sl37⟩)
    (c37 : PySem.W.codeIn K cd37 "Walk.body" = true)
    (k37 : PySem.W.keepIn K (.ref a37) = true)
    (l38 : K.lookup a38 = some ⟨oc38, od38, .func (PySem.W.fnOf "outcome" "Walk.outcome" (defArgs st_Walk_outcome) (defBody st_Walk_outcome) (defScope st_Walk_outcome) .none kV38 dc38 pm38 an38 cd38 ct38), sl38⟩)
    (c38 : PySem.W.codeIn K cd38 "Walk.outcome" = true)
    (k38 : PySem.W.keepIn K (.ref a38) = true)
    (l39 : K.lookup a39 = some ⟨oc39, od39, .func (PySem.W.fnOf "step" "Walk.step" (defArgs st_Walk_step) (defBody st_Walk_step) (defScope st_Walk_step) .none kV39 dc39 pm39 an39 cd39 ct39), sl39⟩)
    (c39 : PySem.W.codeIn K cd39 "Walk.step" = true)
    (k39 : PySem.W.keepIn K (.ref a39) = true)
    (l40 : K.lookup a40 = some ⟨oc40, od40, .func (PySem.W.fnOf "hand" "Walk.hand" (defArgs st_Walk_hand) (defBody st_Walk_hand) (defScope st_Walk_hand) .none kV40 dc40 pm40 an40 cd40 ct40), sl40⟩)
    (c40 : PySem.W.codeIn K cd40 "Walk.hand" = true)
    (k40 : PySem.W.keepIn K (.ref a40) = true)
    (l41 : K.lookup a41 = some ⟨oc41, od41, .func (PySem.W.fnOf "go_round" "Walk.go_round" (defArgs st_Walk_go_round) (defBody st_Walk_go_round) (defScope st_Walk_go_round) .none kV41 dc41 pm41 an41 cd41 ct41), sl41⟩)
    (c41 : PySem.W.codeIn K cd41 "Walk.go_round" = true)
    (k41 : PySem.W.keepIn K (.ref a41) = true)
    (l42 : K.lookup a42 = some ⟨oc42, od42, .func (PySem.W.fnOf "attempt" "Walk.attempt" (defArgs st_Walk_attempt) (defBody st_Walk_attempt) (defScope st_Walk_attempt) .none kV42 dc42 pm42 an42 cd42 ct42), sl42⟩)
    (c42 : PySem.W.codeIn K cd42 "Walk.attempt" = true)
    (k42 : PySem.W.keepIn K (.ref a42) = true)
    (qg_asked : PySem.W.nsIn K mainGlobals "asked" = some (some (.ref a43)))
    (l43 : K.lookup a43 = some ⟨oc43, od43, .func (PySem.W.fnOf "asked" "asked" (defArgs st_asked) (defBody st_asked) (defScope st_asked) .none kV43 dc43 pm43 an43 cd43 ct43), sl43⟩)
    (c43 : PySem.W.codeIn K cd43 "asked" = true)
    (k43 : PySem.W.keepIn K (.ref a43) = true)
    (qg_is_whole : PySem.W.nsIn K mainGlobals "is_whole" = some (some (.ref a44)))
    (l44 : K.lookup a44 = some ⟨oc44, od44, .func (PySem.W.fnOf "is_whole" "is_whole" (defArgs st_is_whole) (defBody st_is_whole) (defScope st_is_whole) .none kV44 dc44 pm44 an44 cd44 ct44), sl44⟩)
    (c44 : PySem.W.codeIn K cd44 "is_whole" = true)
    (k44 : PySem.W.keepIn K (.ref a44) = true)
    (qg_is_deed : PySem.W.nsIn K mainGlobals "is_deed" = some (some (.ref a45)))
    (l45 : K.lookup a45 = some ⟨oc45, od45, .func (PySem.W.fnOf "is_deed" "is_deed" (defArgs st_is_deed) (defBody st_is_deed) (defScope st_is_deed) .none kV45 dc45 pm45 an45 cd45 ct45), sl45⟩)
    (c45 : PySem.W.codeIn K cd45 "is_deed" = true)
    (k45 : PySem.W.keepIn K (.ref a45) = true)
    (qg_need_work : PySem.W.nsIn K mainGlobals "need_work" = some (some (.ref a46)))
    (l46 : K.lookup a46 = some ⟨oc46, od46, .func (PySem.W.fnOf "need_work" "need_work" (defArgs st_need_work) (defBody st_need_work) (defScope st_need_work) .none kV46 dc46 pm46 an46 cd46 ct46), sl46⟩)
    (c46 : PySem.W.codeIn K cd46 "need_work" = true)
    (k46 : PySem.W.keepIn K (.ref a46) = true)
    (qg_need_ask : PySem.W.nsIn K mainGlobals "need_ask" = some (some (.ref a47)))
    (l47 : K.lookup a47 = some ⟨oc47, od47, .func (PySem.W.fnOf "need_ask" "need_ask" (defArgs st_need_ask) (defBody st_need_ask) (defScope st_need_ask) .none kV47 dc47 pm47 an47 cd47 ct47), sl47⟩)
    (c47 : PySem.W.codeIn K cd47 "need_ask" = true)
    (k47 : PySem.W.keepIn K (.ref a47) = true)
    (l48 : K.lookup a48 = some ⟨oc48, od48, .func (PySem.W.fnOf "__init__" "Look.__init__" (defArgs st_Look___init__) (defBody st_Look___init__) (defScope st_Look___init__) .none kV48 dc48 pm48 an48 cd48 ct48), sl48⟩)
    (c48 : PySem.W.codeIn K cd48 "Look.__init__" = true)
    (k48 : PySem.W.keepIn K (.ref a48) = true)
    (l49 : K.lookup a49 = some ⟨oc49, od49, .func (PySem.W.fnOf "need" "Look.need" (defArgs st_Look_need) (defBody st_Look_need) (defScope st_Look_need) .none kV49 dc49 pm49 an49 cd49 ct49), sl49⟩)
    (c49 : PySem.W.codeIn K cd49 "Look.need" = true)
    (k49 : PySem.W.keepIn K (.ref a49) = true)
    (l50 : K.lookup a50 = some ⟨oc50, od50, .func (PySem.W.fnOf "reckoning" "Look.reckoning" (defArgs st_Look_reckoning) (defBody st_Look_reckoning) (defScope st_Look_reckoning) .none kV50 dc50 pm50 an50 cd50 ct50), sl50⟩)
    (c50 : PySem.W.codeIn K cd50 "Look.reckoning" = true)
    (k50 : PySem.W.keepIn K (.ref a50) = true)
    (l51 : K.lookup a51 = some ⟨oc51, od51, .func (PySem.W.fnOf "handing" "Look.handing" (defArgs st_Look_handing) (defBody st_Look_handing) (defScope st_Look_handing) .none kV51 dc51 pm51 an51 cd51 ct51), sl51⟩)
    (c51 : PySem.W.codeIn K cd51 "Look.handing" = true)
    (k51 : PySem.W.keepIn K (.ref a51) = true)
    (l52 : K.lookup a52 = some ⟨oc52, od52, .func (PySem.W.fnOf "kept" "Look.kept" (defArgs st_Look_kept) (defBody st_Look_kept) (defScope st_Look_kept) .none kV52 dc52 pm52 an52 cd52 ct52), sl52⟩)
    (c52 : PySem.W.codeIn K cd52 "Look.kept" = true)
    (k52 : PySem.W.keepIn K (.ref a52) = true)
    (l53 : K.lookup a53 = some ⟨oc53, od53, .func (PySem.W.fnOf "body" "Look.body" (defArgs st_Look_body) (defBody st_Look_body) (defScope st_Look_body) .none kV53 dc53 pm53 an53 cd53 ct53), sl53⟩)
    (c53 : PySem.W.codeIn K cd53 "Look.body" = true)
    (k53 : PySem.W.keepIn K (.ref a53) = true)
    (l54 : K.lookup a54 = some ⟨oc54, od54, .func (PySem.W.fnOf "step" "Look.step" (defArgs st_Look_step) (defBody st_Look_step) (defScope st_Look_step) .none kV54 dc54 pm54 an54 cd54 ct54), sl54⟩)
    (c54 : PySem.W.codeIn K cd54 "Look.step" = true)
    (k54 : PySem.W.keepIn K (.ref a54) = true)
    (l55 : K.lookup a55 = some ⟨oc55, od55, .func (PySem.W.fnOf "caught" "Look.caught" (defArgs st_Look_caught) (defBody st_Look_caught) (defScope st_Look_caught) .none kV55 dc55 pm55 an55 cd55 ct55), sl55⟩)
    (c55 : PySem.W.codeIn K cd55 "Look.caught" = true)
    (k55 : PySem.W.keepIn K (.ref a55) = true)
    (l56 : K.lookup a56 = some ⟨oc56, od56, .func (PySem.W.fnOf "whole_work" "Look.whole_work" (defArgs st_Look_whole_work) (defBody st_Look_whole_work) (defScope st_Look_whole_work) .none kV56 dc56 pm56 an56 cd56 ct56), sl56⟩)
    (c56 : PySem.W.codeIn K cd56 "Look.whole_work" = true)
    (k56 : PySem.W.keepIn K (.ref a56) = true)
    (qg_need_program : PySem.W.nsIn K mainGlobals "need_program" = some (some (.ref a57)))
    (l57 : K.lookup a57 = some ⟨oc57, od57, .func (PySem.W.fnOf "need_program" "need_program" (defArgs st_need_program) (defBody st_need_program) (defScope st_need_program) .none kV57 dc57 pm57 an57 cd57 ct57), sl57⟩)
    (c57 : PySem.W.codeIn K cd57 "need_program" = true)
    (k57 : PySem.W.keepIn K (.ref a57) = true)
    (qg_played : PySem.W.nsIn K mainGlobals "played" = some (some (.ref a58)))
    (l58 : K.lookup a58 = some ⟨oc58, od58, .func (PySem.W.fnOf "played" "played" (defArgs st_played) (defBody st_played) (defScope st_played) .none kV58 dc58 pm58 an58 cd58 ct58), sl58⟩)
    (c58 : PySem.W.codeIn K cd58 "played" = true)
    (k58 : PySem.W.keepIn K (.ref a58) = true)
    (qg_law : PySem.W.nsIn K mainGlobals "law" = some (some (.ref a59)))
    (l59 : K.lookup a59 = some ⟨oc59, od59, .func (PySem.W.fnOf "law" "law" (defArgs st_law) (defBody st_law) (defScope st_law) .none kV59 dc59 pm59 an59 cd59 ct59), sl59⟩)
    (c59 : PySem.W.codeIn K cd59 "law" = true)
    (k59 : PySem.W.keepIn K (.ref a59) = true)
    (qgc_Asker : PySem.W.nsIn K mainGlobals "Asker" = some (some (.ref e0)))
    (pg0 : PySem.W.plainGet K e0 Str.empty = true)
    (hd0 : PySem.W.hasDictIn K e0 = true)
    (po0 : PySem.W.plainOver K e0 = true)
    (sa0 : PySem.W.findIn K (.ref e0) "__setattr__" = some (some (.builtin "object.__setattr__")))
    (qna_Asker_deeds : PySem.W.findIn K (.ref e0) "deeds" = some none)
    (qna_Asker_told : PySem.W.findIn K (.ref e0) "told" = some none)
    (qna_Asker_words : PySem.W.findIn K (.ref e0) "words" = some none)
    (mm0 : PySem.W.makesIn K e0 = true)
    (m22 : PySem.W.findIn K (.ref e0) "__init__" = some (some (.ref a22)))
    (i22 : PySem.W.isFn K (.ref a22) = true)
    (kc0 : PySem.W.keepIn K (.ref e0) = true)
    (m23 : PySem.W.findIn K (.ref e0) "begins" = some (some (.ref a23)))
    (i23 : PySem.W.isFn K (.ref a23) = true)
    (m24 : PySem.W.findIn K (.ref e0) "tell" = some (some (.ref a24)))
    (i24 : PySem.W.isFn K (.ref a24) = true)
    (m25 : PySem.W.findIn K (.ref e0) "do_the_rest" = some (some (.ref a25)))
    (i25 : PySem.W.isFn K (.ref a25) = true)
    (m26 : PySem.W.findIn K (.ref e0) "deed" = some (some (.ref a26)))
    (i26 : PySem.W.isFn K (.ref a26) = true)
    (m27 : PySem.W.findIn K (.ref e0) "see_out" = some (some (.ref a27)))
    (i27 : PySem.W.isFn K (.ref a27) = true)
    (m29 : PySem.W.findIn K (.ref e0) "say" = some (some (.ref a29)))
    (i29 : PySem.W.isFn K (.ref a29) = true)
    (m30 : PySem.W.findIn K (.ref e0) "take" = some (some (.ref a30)))
    (i30 : PySem.W.isFn K (.ref a30) = true)
    (qgc_Walk : PySem.W.nsIn K mainGlobals "Walk" = some (some (.ref e1)))
    (pg1 : PySem.W.plainGet K e1 Str.empty = true)
    (hd1 : PySem.W.hasDictIn K e1 = true)
    (po1 : PySem.W.plainOver K e1 = true)
    (sa1 : PySem.W.findIn K (.ref e1) "__setattr__" = some (some (.builtin "object.__setattr__")))
    (qna_Walk_program : PySem.W.findIn K (.ref e1) "program" = some none)
    (qna_Walk_slots : PySem.W.findIn K (.ref e1) "slots" = some none)
    (qna_Walk_asker : PySem.W.findIn K (.ref e1) "asker" = some none)
    (mm1 : PySem.W.makesIn K e1 = true)
    (m28 : PySem.W.findIn K (.ref e1) "__init__" = some (some (.ref a28)))
    (i28 : PySem.W.isFn K (.ref a28) = true)
    (kc1 : PySem.W.keepIn K (.ref e1) = true)
    (m31 : PySem.W.findIn K (.ref e1) "keep" = some (some (.ref a31)))
    (i31 : PySem.W.isFn K (.ref a31) = true)
    (m32 : PySem.W.findIn K (.ref e1) "give" = some (some (.ref a32)))
    (i32 : PySem.W.isFn K (.ref a32) = true)
    (m35 : PySem.W.findIn K (.ref e1) "reckon" = some (some (.ref a35)))
    (i35 : PySem.W.isFn K (.ref a35) = true)
    (m37 : PySem.W.findIn K (.ref e1) "body" = some (some (.ref a37)))
    (i37 : PySem.W.isFn K (.ref a37) = true)
    (m38 : PySem.W.findIn K (.ref e1) "outcome" = some (some (.ref a38)))
    (i38 : PySem.W.isFn K (.ref a38) = true)
    (m39 : PySem.W.findIn K (.ref e1) "step" = some (some (.ref a39)))
    (i39 : PySem.W.isFn K (.ref a39) = true)
    (m40 : PySem.W.findIn K (.ref e1) "hand" = some (some (.ref a40)))
    (i40 : PySem.W.isFn K (.ref a40) = true)
    (m41 : PySem.W.findIn K (.ref e1) "go_round" = some (some (.ref a41)))
    (i41 : PySem.W.isFn K (.ref a41) = true)
    (m42 : PySem.W.findIn K (.ref e1) "attempt" = some (some (.ref a42)))
    (i42 : PySem.W.isFn K (.ref a42) = true)
    (qgc_Look : PySem.W.nsIn K mainGlobals "Look" = some (some (.ref e2)))
    (pg2 : PySem.W.plainGet K e2 Str.empty = true)
    (hd2 : PySem.W.hasDictIn K e2 = true)
    (po2 : PySem.W.plainOver K e2 = true)
    (sa2 : PySem.W.findIn K (.ref e2) "__setattr__" = some (some (.builtin "object.__setattr__")))
    (qna_Look_program : PySem.W.findIn K (.ref e2) "program" = some none)
    (qna_Look_number : PySem.W.findIn K (.ref e2) "number" = some none)
    (qna_Look_slots : PySem.W.findIn K (.ref e2) "slots" = some none)
    (qna_Look_many : PySem.W.findIn K (.ref e2) "many" = some none)
    (mm2 : PySem.W.makesIn K e2 = true)
    (m48 : PySem.W.findIn K (.ref e2) "__init__" = some (some (.ref a48)))
    (i48 : PySem.W.isFn K (.ref a48) = true)
    (kc2 : PySem.W.keepIn K (.ref e2) = true)
    (m49 : PySem.W.findIn K (.ref e2) "need" = some (some (.ref a49)))
    (i49 : PySem.W.isFn K (.ref a49) = true)
    (m50 : PySem.W.findIn K (.ref e2) "reckoning" = some (some (.ref a50)))
    (i50 : PySem.W.isFn K (.ref a50) = true)
    (m51 : PySem.W.findIn K (.ref e2) "handing" = some (some (.ref a51)))
    (i51 : PySem.W.isFn K (.ref a51) = true)
    (m52 : PySem.W.findIn K (.ref e2) "kept" = some (some (.ref a52)))
    (i52 : PySem.W.isFn K (.ref a52) = true)
    (m53 : PySem.W.findIn K (.ref e2) "body" = some (some (.ref a53)))
    (i53 : PySem.W.isFn K (.ref a53) = true)
    (m54 : PySem.W.findIn K (.ref e2) "step" = some (some (.ref a54)))
    (i54 : PySem.W.isFn K (.ref a54) = true)
    (m55 : PySem.W.findIn K (.ref e2) "caught" = some (some (.ref a55)))
    (i55 : PySem.W.isFn K (.ref a55) = true)
    (m56 : PySem.W.findIn K (.ref e2) "whole_work" = some (some (.ref a56)))
    (i56 : PySem.W.isFn K (.ref a56) = true)
    (qge_NoPart : PySem.W.nsIn K mainGlobals "NoPart" = some (some (.ref x0)))
    (xa0 : PySem.W.excIn K x0 [.type "Exception", .type "BaseException", .type "object"] "Exception.__new__" = true)
    (xb0 : PySem.W.keepIn K (.ref x0) = true)
    (xc0 : PySem.W.subIn K (.ref x0) (.type "BaseException") = some true)
    (xd0 : PySem.W.typeIn K (.ref x0) = some (.type "type"))
    (qge_Over : PySem.W.nsIn K mainGlobals "Over" = some (some (.ref x1)))
    (xa1 : PySem.W.excIn K x1 [.type "Exception", .type "BaseException", .type "object"] "Exception.__new__" = true)
    (xb1 : PySem.W.keepIn K (.ref x1) = true)
    (xc1 : PySem.W.subIn K (.ref x1) (.type "BaseException") = some true)
    (xd1 : PySem.W.typeIn K (.ref x1) = some (.type "type"))
    (xf0 : PySem.W.hasDictIn K x0 = true)
    (qeh_NoPart_NoPart : PySem.W.subIn K (.ref x0) (.ref x0) = some true)
    (qeh_Over_NoPart : PySem.W.subIn K (.ref x1) (.ref x0) = some false)
    (xf1 : PySem.W.hasDictIn K x1 = true)
    (qeh_NoPart_Over : PySem.W.subIn K (.ref x0) (.ref x1) = some false)
    (qeh_Over_Over : PySem.W.subIn K (.ref x1) (.ref x1) = some true)
    (u0 : cd58 = .ref cc0)
    (w0 : PySem.W.codeHdIn K cc0 PP0 = true)
    (v0 : K.lookup PP0 = none)
    : LamX.LawAtS l w K (L2.CX l.prog w) 154 63 "_law_script" mg fa h := by
  have e : a59 = fa := by
    have e := hfa.symm.trans (PySem.W.mg_of X G qg_law)
    injection e with e
    injection e with e
    exact e.symm
  subst e
  have hT1 : ∀ p ∈ ([(cc0, PP0)] : List (Addr × Addr)), h.get? p.2 = some { cls := .none, data := .fields #[] } := by
    intro p hp
    simp at hp
    rw [hp]; exact hT PP0 (by simp)
  have hT2 : ∀ p ∈ ([(cc0, PP0)] : List (Addr × Addr)), K.lookup p.2 = none := by
    intro p hp
    simp at hp
    rw [hp]; exact v0
  have hT3 : ∀ p ∈ ([(cc0, PP0)] : List (Addr × Addr)), PySem.W.CodeHd h p.1 p.2 := by
    intro p hp
    simp at hp
    rw [hp]; exact PySem.W.codeHd_of_K X w0
  refine ⟨PySem.W.fnOf "law" "law" (defArgs st_law) (defBody st_law) (defScope st_law) .none kV59 dc59 pm59 an59 cd59 ct59, [(cc0, PP0)], spLawT K [(PP0, (("played" ++ ".<locals>.") ++ "<lambda>"))], hT1, hT2, hT3, fun s u => .of_eq rfl, fun H a ns hl hb ht hS => ⟨a, ns, rfl, hl, hb, ?_, hS, fun _ => rfl⟩, fun base _ _ hTB => ?_⟩
  · intro p hp
    simp at hp
    rw [hp]; exact LamX.TabS.nil (ht (cc0, PP0) (by simp))
  · have Z : Fx K mg base [(PP0, (("played" ++ ".<locals>.") ++ "<lambda>"))] (fun i => match i with | 0 => a0 | 1 => a1 | 2 => a2 | 3 => a3 | 4 => a4 | 5 => a5 | 6 => a6 | 7 => a7 | 8 => a8 | 9 => a9 | 10 => a10 | 11 => a11 | 12 => a12 | 13 => a13 | 14 => a14 | 15 => a15 | 16 => a16 | 17 => a17 | 18 => a18 | 19 => a19 | 20 => a20 | 21 => a21 | 22 => a22 | 23 => a23 | 24 => a24 | 25 => a25 | 26 => a26 | 27 => a27 | 28 => a28 | 29 => a29 | 30 => a30 | 31 => a31 | 32 => a32 | 33 => a33 | 34 => a34 | 35 => a35 | 36 => a36 | 37 => a37 | 38 => a38 | 39 => a39 | 40 => a40 | 41 => a41 | 42 => a42 | 43 => a43 | 44 => a44 | 45 => a45 | 46 => a46 | 47 => a47 | 48 => a48 | 49 => a49 | 50 => a50 | 51 => a51 | 52 => a52 | 53 => a53 | 54 => a54 | 55 => a55 | 56 => a56 | 57 => a57 | 58 => a58 | _ => a59) (fun i => match i with | 0 => e0 | 1 => e1 | 2 => e2 | 3 => 0 | _ => 0) (fun i => match i with | 0 => x0 | _ => x1) :=
      { c_MOST := ⟨_, PySem.W.mg_of X G qc_MOST⟩,
        c_MOST_AROUND_RECKONING := ⟨_, PySem.W.mg_of X G qc_MOST_AROUND_RECKONING⟩,
        c_MOST_AROUND_STEP := ⟨_, PySem.W.mg_of X G qc_MOST_AROUND_STEP⟩,
        c_MOST_PARAMS := ⟨_, PySem.W.mg_of X G qc_MOST_PARAMS⟩,
        c_MOST_SLOTS := ⟨_, PySem.W.mg_of X G qc_MOST_SLOTS⟩,
        c_MOST_STEPS := ⟨_, PySem.W.mg_of X G qc_MOST_STEPS⟩,
        c_MOST_WORKS := ⟨_, PySem.W.mg_of X G qc_MOST_WORKS⟩,
        c_WRAP := ⟨_, PySem.W.mg_of X G qc_WRAP⟩,
        z_bool := PySem.W.mg_none_of X G qz_bool,
        z_int := PySem.W.mg_none_of X G qz_int,
        z_isinstance := PySem.W.mg_none_of X G qz_isinstance,
        z_len := PySem.W.mg_none_of X G qz_len,
        z_list := PySem.W.mg_none_of X G qz_list,
        z_min := PySem.W.mg_none_of X G qz_min,
        z_range := PySem.W.mg_none_of X G qz_range,
        z_str := PySem.W.mg_none_of X G qz_str,
        z_tuple := PySem.W.mg_none_of X G qz_tuple,
        g__law_alike := PySem.W.mg_of X G qg__law_alike,
        f__law_alike := ⟨_, fun_mk (st := st__law_alike) l0 c0 k0⟩,
        g__law_taken := PySem.W.mg_of X G qg__law_taken,
        f__law_taken := ⟨_, fun_mk (st := st__law_taken) l1 c1 k1⟩,
        g__law_deeds := PySem.W.mg_of X G qg__law_deeds,
        f__law_deeds := ⟨_, fun_mk (st := st__law_deeds) l2 c2 k2⟩,
        g__law_tell := PySem.W.mg_of X G qg__law_tell,
        f__law_tell := ⟨_, fun_mk (st := st__law_tell) l3 c3 k3⟩,
        g__law_closed := PySem.W.mg_of X G qg__law_closed,
        f__law_closed := ⟨_, fun_mk (st := st__law_closed) l4 c4 k4⟩,
        g__law_gift := PySem.W.mg_of X G qg__law_gift,
        f__law_gift := ⟨_, fun_mk (st := st__law_gift) l5 c5 k5⟩,
        g__law_given := PySem.W.mg_of X G qg__law_given,
        f__law_given := ⟨_, fun_mk (st := st__law_given) l6 c6 k6⟩,
        g__law_reckoned := PySem.W.mg_of X G qg__law_reckoned,
        f__law_reckoned := ⟨_, fun_mk (st := st__law_reckoned) l7 c7 k7⟩,
        g__law_walk := PySem.W.mg_of X G qg__law_walk,
        f__law_walk := ⟨_, fun_mk (st := st__law_walk) l8 c8 k8⟩,
        g__law_step := PySem.W.mg_of X G qg__law_step,
        f__law_step := ⟨_, fun_mk (st := st__law_step) l9 c9 k9⟩,
        g__law_rounds := PySem.W.mg_of X G qg__law_rounds,
        f__law_rounds := ⟨_, fun_mk (st := st__law_rounds) l10 c10 k10⟩,
        g__law_handed := PySem.W.mg_of X G qg__law_handed,
        f__law_handed := ⟨_, fun_mk (st := st__law_handed) l11 c11 k11⟩,
        g__law_tried := PySem.W.mg_of X G qg__law_tried,
        f__law_tried := ⟨_, fun_mk (st := st__law_tried) l12 c12 k12⟩,
        g__law_due := PySem.W.mg_of X G qg__law_due,
        f__law_due := ⟨_, fun_mk (st := st__law_due) l13 c13 k13⟩,
        g__law_numbers := PySem.W.mg_of X G qg__law_numbers,
        f__law_numbers := ⟨_, fun_mk (st := st__law_numbers) l14 c14 k14⟩,
        g__law_reckoning := PySem.W.mg_of X G qg__law_reckoning,
        f__law_reckoning := ⟨_, fun_mk (st := st__law_reckoning) l15 c15 k15⟩,
        g__law_lent := PySem.W.mg_of X G qg__law_lent,
        f__law_lent := ⟨_, fun_mk (st := st__law_lent) l16 c16 k16⟩,
        g__law_body := PySem.W.mg_of X G qg__law_body,
        f__law_body := ⟨_, fun_mk (st := st__law_body) l17 c17 k17⟩,
        g__law_drawn := PySem.W.mg_of X G qg__law_drawn,
        f__law_drawn := ⟨_, fun_mk (st := st__law_drawn) l18 c18 k18⟩,
        g__law_try := PySem.W.mg_of X G qg__law_try,
        f__law_try := ⟨_, fun_mk (st := st__law_try) l19 c19 k19⟩,
        g__law_tower := PySem.W.mg_of X G qg__law_tower,
        f__law_tower := ⟨_, fun_mk (st := st__law_tower) l20 c20 k20⟩,
        g__law_program := PySem.W.mg_of X G qg__law_program,
        f__law_program := ⟨_, fun_mk (st := st__law_program) l21 c21 k21⟩,
        f_Asker___init__ := ⟨_, fun_mk (st := st_Asker___init__) l22 c22 k22⟩,
        f_Asker_begins := ⟨_, fun_mk (st := st_Asker_begins) l23 c23 k23⟩,
        f_Asker_tell := ⟨_, fun_mk (st := st_Asker_tell) l24 c24 k24⟩,
        f_Asker_do_the_rest := ⟨_, fun_mk (st := st_Asker_do_the_rest) l25 c25 k25⟩,
        f_Asker_deed := ⟨_, fun_mk (st := st_Asker_deed) l26 c26 k26⟩,
        f_Asker_see_out := ⟨_, fun_mk (st := st_Asker_see_out) l27 c27 k27⟩,
        f_Walk___init__ := ⟨_, fun_mk (st := st_Walk___init__) l28 c28 k28⟩,
        f_Asker_say := ⟨_, fun_mk (st := st_Asker_say) l29 c29 k29⟩,
        f_Asker_take := ⟨_, fun_mk (st := st_Asker_take) l30 c30 k30⟩,
        f_Walk_keep := ⟨_, fun_mk (st := st_Walk_keep) l31 c31 k31⟩,
        f_Walk_give := ⟨_, fun_mk (st := st_Walk_give) l32 c32 k32⟩,
        g_reckoned_of_two := PySem.W.mg_of X G qg_reckoned_of_two,
        f_reckoned_of_two := ⟨_, fun_mk (st := st_reckoned_of_two) l33 c33 k33⟩,
        g_reckoned := PySem.W.mg_of X G qg_reckoned,
        f_reckoned := ⟨_, fun_mk (st := st_reckoned) l34 c34 k34⟩,
        f_Walk_reckon := ⟨_, fun_mk (st := st_Walk_reckon) l35 c35 k35⟩,
        g_walked := PySem.W.mg_of X G qg_walked,
        f_walked := ⟨_, fun_mk (st := st_walked) l36 c36 k36⟩,
        f_Walk_body := ⟨_, fun_mk (st := st_Walk_body) l37 c37 k37⟩,
        f_Walk_outcome := ⟨_, fun_mk (st := st_Walk_outcome) l38 c38 k38⟩,
        f_Walk_step := ⟨_, fun_mk (st := st_Walk_step) l39 c39 k39⟩,
        f_Walk_hand := ⟨_, fun_mk (st := st_Walk_hand) l40 c40 k40⟩,
        f_Walk_go_round := ⟨_, fun_mk (st := st_Walk_go_round) l41 c41 k41⟩,
        f_Walk_attempt := ⟨_, fun_mk (st := st_Walk_attempt) l42 c42 k42⟩,
        g_asked := PySem.W.mg_of X G qg_asked,
        f_asked := ⟨_, fun_mk (st := st_asked) l43 c43 k43⟩,
        g_is_whole := PySem.W.mg_of X G qg_is_whole,
        f_is_whole := ⟨_, fun_mk (st := st_is_whole) l44 c44 k44⟩,
        g_is_deed := PySem.W.mg_of X G qg_is_deed,
        f_is_deed := ⟨_, fun_mk (st := st_is_deed) l45 c45 k45⟩,
        g_need_work := PySem.W.mg_of X G qg_need_work,
        f_need_work := ⟨_, fun_mk (st := st_need_work) l46 c46 k46⟩,
        g_need_ask := PySem.W.mg_of X G qg_need_ask,
        f_need_ask := ⟨_, fun_mk (st := st_need_ask) l47 c47 k47⟩,
        f_Look___init__ := ⟨_, fun_mk (st := st_Look___init__) l48 c48 k48⟩,
        f_Look_need := ⟨_, fun_mk (st := st_Look_need) l49 c49 k49⟩,
        f_Look_reckoning := ⟨_, fun_mk (st := st_Look_reckoning) l50 c50 k50⟩,
        f_Look_handing := ⟨_, fun_mk (st := st_Look_handing) l51 c51 k51⟩,
        f_Look_kept := ⟨_, fun_mk (st := st_Look_kept) l52 c52 k52⟩,
        f_Look_body := ⟨_, fun_mk (st := st_Look_body) l53 c53 k53⟩,
        f_Look_step := ⟨_, fun_mk (st := st_Look_step) l54 c54 k54⟩,
        f_Look_caught := ⟨_, fun_mk (st := st_Look_caught) l55 c55 k55⟩,
        f_Look_whole_work := ⟨_, fun_mk (st := st_Look_whole_work) l56 c56 k56⟩,
        g_need_program := PySem.W.mg_of X G qg_need_program,
        f_need_program := ⟨_, fun_mk (st := st_need_program) l57 c57 k57⟩,
        g_played := PySem.W.mg_of X G qg_played,
        f_played := ⟨_, fun_mk (st := st_played) l58 c58 k58⟩,
        g_law := PySem.W.mg_of X G qg_law,
        f_law := ⟨_, fun_mk (st := st_law) l59 c59 k59⟩,
        t_played := fun oc od fd osl e => by have e : K.lookup a58 = some ⟨oc, od, .func fd, osl⟩ := e; rw [l58] at e; cases e; exact ⟨cc0, PP0, u0, hTB (cc0, PP0) (List.mem_cons_self), (List.mem_cons_self), fun p hp hq => by have hp : p ∈ ([(PP0, (("played" ++ ".<locals>.") ++ "<lambda>"))] : List (Addr × Str)) := hp; rw [List.mem_singleton] at hp; rw [hp]⟩,
        gc_Asker := PySem.W.mg_of X G qgc_Asker,
        cl_Asker := ⟨pg0, hd0, po0, sa0⟩,
        na_Asker_deeds := qna_Asker_deeds,
        na_Asker_told := qna_Asker_told,
        na_Asker_words := qna_Asker_words,
        mk_Asker := ⟨mm0, m22, i22, kc0⟩,
        me_Asker_begins := ⟨m23, i23, k23⟩,
        me_Asker_tell := ⟨m24, i24, k24⟩,
        me_Asker_do_the_rest := ⟨m25, i25, k25⟩,
        me_Asker_deed := ⟨m26, i26, k26⟩,
        me_Asker_see_out := ⟨m27, i27, k27⟩,
        me_Asker_say := ⟨m29, i29, k29⟩,
        me_Asker_take := ⟨m30, i30, k30⟩,
        gc_Walk := PySem.W.mg_of X G qgc_Walk,
        cl_Walk := ⟨pg1, hd1, po1, sa1⟩,
        na_Walk_program := qna_Walk_program,
        na_Walk_slots := qna_Walk_slots,
        na_Walk_asker := qna_Walk_asker,
        mk_Walk := ⟨mm1, m28, i28, kc1⟩,
        me_Walk_keep := ⟨m31, i31, k31⟩,
        me_Walk_give := ⟨m32, i32, k32⟩,
        me_Walk_reckon := ⟨m35, i35, k35⟩,
        me_Walk_body := ⟨m37, i37, k37⟩,
        me_Walk_outcome := ⟨m38, i38, k38⟩,
        me_Walk_step := ⟨m39, i39, k39⟩,
        me_Walk_hand := ⟨m40, i40, k40⟩,
        me_Walk_go_round := ⟨m41, i41, k41⟩,
        me_Walk_attempt := ⟨m42, i42, k42⟩,
        gc_Look := PySem.W.mg_of X G qgc_Look,
        cl_Look := ⟨pg2, hd2, po2, sa2⟩,
        na_Look_program := qna_Look_program,
        na_Look_number := qna_Look_number,
        na_Look_slots := qna_Look_slots,
        na_Look_many := qna_Look_many,
        mk_Look := ⟨mm2, m48, i48, kc2⟩,
        me_Look_need := ⟨m49, i49, k49⟩,
        me_Look_reckoning := ⟨m50, i50, k50⟩,
        me_Look_handing := ⟨m51, i51, k51⟩,
        me_Look_kept := ⟨m52, i52, k52⟩,
        me_Look_body := ⟨m53, i53, k53⟩,
        me_Look_step := ⟨m54, i54, k54⟩,
        me_Look_caught := ⟨m55, i55, k55⟩,
        me_Look_whole_work := ⟨m56, i56, k56⟩,
        ge_NoPart := PySem.W.mg_of X G qge_NoPart,
        xx_NoPart := ⟨xa0, xb0, xc0, xd0⟩,
        ge_Over := PySem.W.mg_of X G qge_Over,
        xx_Over := ⟨xa1, xb1, xc1, xd1⟩,
        eh_NoPart_NoPart := PySem.W.exm_ref xc0 xf0 xd0 qeh_NoPart_NoPart,
        eh_Over_NoPart := PySem.W.exm_ref xc0 xf0 xd0 qeh_Over_NoPart,
        eh_NoPart_Over := PySem.W.exm_ref xc1 xf1 xd1 qeh_NoPart_Over,
        eh_Over_Over := PySem.W.exm_ref xc1 xf1 xd1 qeh_Over_Over }
    have Fu := fun_mk (st := st_law) l59 c59 k59
    exact fn_lawT (T := tb [(PP0, (("played" ++ ".<locals>.") ++ "<lambda>"))]) (okl_law (P := l.prog) (w := w) (base := base) Z Fu) law_true

theorem walk {l : PySem.W.OpenLaw} {q : Program} {loose : List Str} {XP : (Str → Option Value) → Heap → Prop} {YP : World → Heap → Prop} {d : DefRec} {K : Params → PySem.W.Frag} (hn : l.most = some 63) (hdf : d.params.defaults = [])
    (hY : ∀ (w : World) (h : Heap), YP w h → (K w.params).In h)
    (F : ∀ (w : World) (mg : Str → Option Value) (fa : Addr) (h : Heap), YP w h → (K w.params).In h → h.Ns mainGlobals mg → mg d.name = some (.ref fa) → LamX.LawAtS l w (K w.params) (L2.CX l.prog w) 154 63 "_law_script" mg fa h) :
    PySem.W.WalkO q loose XP YP l.row.toRowW d [] (fun f vs => PySem.call f vs) :=
  LamX.walk_ofTs (n := 63) (k := 154) (x := "_law_script") (CX := fun w => L2.CX l.prog w) hn (by decide) hdf ⟨rfl, by decide, by decide⟩ hY F fun w H s e s' h => cx_no h
end K04
open PySem PySem.W PyProof.Rows in
set_option maxRecDepth 100000 in
set_option maxHeartbeats 0 in
theorem PySem.Challenge.cw_pausewright_k04_whole_played_holds : PySem.Challenge.rw_pausewright_k04_whole_played.Holds := by
  w_on; o_law; k_head; (case hw => w_witness2)
  k_fill
  refine K04.walk (l := PySem.Challenge.rw_pausewright_k04_whole_played) rfl rfl (fun w h Y => PySem.W.km_in_of Y) ?F
  case F =>
    intro w mg fa h Y KX G hmg
    refine' K04.all_mk KX G hmg (PySem.W.km_tabs_of Y) ?qc_MOST ?qc_MOST_AROUND_RECKONING ?qc_MOST_AROUND_STEP ?qc_MOST_PARAMS ?qc_MOST_SLOTS ?qc_MOST_STEPS ?qc_MOST_WORKS ?qc_WRAP ?qz_bool ?qz_int ?qz_isinstance ?qz_len ?qz_list ?qz_min ?qz_range ?qz_str ?qz_tuple ?qg__law_alike ?l0 ?c0 ?k0 ?qg__law_taken ?l1 ?c1 ?k1 ?qg__law_deeds ?l2 ?c2 ?k2 ?qg__law_tell ?l3 ?c3 ?k3 ?qg__law_closed ?l4 ?c4 ?k4 ?qg__law_gift ?l5 ?c5 ?k5 ?qg__law_given ?l6 ?c6 ?k6 ?qg__law_reckoned ?l7 ?c7 ?k7 ?qg__law_walk ?l8 ?c8 ?k8 ?qg__law_step ?l9 ?c9 ?k9 ?qg__law_rounds ?l10 ?c10 ?k10 ?qg__law_handed ?l11 ?c11 ?k11 ?qg__law_tried ?l12 ?c12 ?k12 ?qg__law_due ?l13 ?c13 ?k13 ?qg__law_numbers ?l14 ?c14 ?k14 ?qg__law_reckoning ?l15 ?c15 ?k15 ?qg__law_lent ?l16 ?c16 ?k16 ?qg__law_body ?l17 ?c17 ?k17 ?qg__law_drawn ?l18 ?c18 ?k18 ?qg__law_try ?l19 ?c19 ?k19 ?qg__law_tower ?l20 ?c20 ?k20 ?qg__law_program ?l21 ?c21 ?k21 ?l22 ?c22 ?k22 ?l23 ?c23 ?k23 ?l24 ?c24 ?k24 ?l25 ?c25 ?k25 ?l26 ?c26 ?k26 ?l27 ?c27 ?k27 ?l28 ?c28 ?k28 ?l29 ?c29 ?k29 ?l30 ?c30 ?k30 ?l31 ?c31 ?k31 ?l32 ?c32 ?k32 ?qg_reckoned_of_two ?l33 ?c33 ?k33 ?qg_reckoned ?l34 ?c34 ?k34 ?l35 ?c35 ?k35 ?qg_walked ?l36 ?c36 ?k36 ?l37 ?c37 ?k37 ?l38 ?c38 ?k38 ?l39 ?c39 ?k39 ?l40 ?c40 ?k40 ?l41 ?c41 ?k41 ?l42 ?c42 ?k42 ?qg_asked ?l43 ?c43 ?k43 ?qg_is_whole ?l44 ?c44 ?k44 ?qg_is_deed ?l45 ?c45 ?k45 ?qg_need_work ?l46 ?c46 ?k46 ?qg_need_ask ?l47 ?c47 ?k47 ?l48 ?c48 ?k48 ?l49 ?c49 ?k49 ?l50 ?c50 ?k50 ?l51 ?c51 ?k51 ?l52 ?c52 ?k52 ?l53 ?c53 ?k53 ?l54 ?c54 ?k54 ?l55 ?c55 ?k55 ?l56 ?c56 ?k56 ?qg_need_program ?l57 ?c57 ?k57 ?qg_played ?l58 ?c58 ?k58 ?qg_law ?l59 ?c59 ?k59 ?qgc_Asker ?pg0 ?hd0 ?po0 ?sa0 ?qna_Asker_deeds ?qna_Asker_told ?qna_Asker_words ?mm0 ?m22 ?i22 ?kc0 ?m23 ?i23 ?m24 ?i24 ?m25 ?i25 ?m26 ?i26 ?m27 ?i27 ?m29 ?i29 ?m30 ?i30 ?qgc_Walk ?pg1 ?hd1 ?po1 ?sa1 ?qna_Walk_program ?qna_Walk_slots ?qna_Walk_asker ?mm1 ?m28 ?i28 ?kc1 ?m31 ?i31 ?m32 ?i32 ?m35 ?i35 ?m37 ?i37 ?m38 ?i38 ?m39 ?i39 ?m40 ?i40 ?m41 ?i41 ?m42 ?i42 ?qgc_Look ?pg2 ?hd2 ?po2 ?sa2 ?qna_Look_program ?qna_Look_number ?qna_Look_slots ?qna_Look_many ?mm2 ?m48 ?i48 ?kc2 ?m49 ?i49 ?m50 ?i50 ?m51 ?i51 ?m52 ?i52 ?m53 ?i53 ?m54 ?i54 ?m55 ?i55 ?m56 ?i56 ?qge_NoPart ?xa0 ?xb0 ?xc0 ?xd0 ?qge_Over ?xa1 ?xb1 ?xc1 ?xd1 ?xf0 ?qeh_NoPart_NoPart ?qeh_Over_NoPart ?xf1 ?qeh_NoPart_Over ?qeh_Over_Over ?u0 ?w0 ?v0
    (case qc_MOST => k_is)
    (case qc_MOST_AROUND_RECKONING => k_is)
    (case qc_MOST_AROUND_STEP => k_is)
    (case qc_MOST_PARAMS => k_is)
    (case qc_MOST_SLOTS => k_is)
    (case qc_MOST_STEPS => k_is)
    (case qc_MOST_WORKS => k_is)
    (case qc_WRAP => k_is)
    (case qz_bool => k_is)
    (case qz_int => k_is)
    (case qz_isinstance => k_is)
    (case qz_len => k_is)
    (case qz_list => k_is)
    (case qz_min => k_is)
    (case qz_range => k_is)
    (case qz_str => k_is)
    (case qz_tuple => k_is)
    (case qg__law_alike => k_is)
    (case l0 => k_is)
    (case c0 => k_is)
    (case k0 => k_is)
    (case qg__law_taken => k_is)
    (case l1 => k_is)
    (case c1 => k_is)
    (case k1 => k_is)
    (case qg__law_deeds => k_is)
    (case l2 => k_is)
    (case c2 => k_is)
    (case k2 => k_is)
    (case qg__law_tell => k_is)
    (case l3 => k_is)
    (case c3 => k_is)
    (case k3 => k_is)
    (case qg__law_closed => k_is)
    (case l4 => k_is)
    (case c4 => k_is)
    (case k4 => k_is)
    (case qg__law_gift => k_is)
    (case l5 => k_is)
    (case c5 => k_is)
    (case k5 => k_is)
    (case qg__law_given => k_is)
    (case l6 => k_is)
    (case c6 => k_is)
    (case k6 => k_is)
    (case qg__law_reckoned => k_is)
    (case l7 => k_is)
    (case c7 => k_is)
    (case k7 => k_is)
    (case qg__law_walk => k_is)
    (case l8 => k_is)
    (case c8 => k_is)
    (case k8 => k_is)
    (case qg__law_step => k_is)
    (case l9 => k_is)
    (case c9 => k_is)
    (case k9 => k_is)
    (case qg__law_rounds => k_is)
    (case l10 => k_is)
    (case c10 => k_is)
    (case k10 => k_is)
    (case qg__law_handed => k_is)
    (case l11 => k_is)
    (case c11 => k_is)
    (case k11 => k_is)
    (case qg__law_tried => k_is)
    (case l12 => k_is)
    (case c12 => k_is)
    (case k12 => k_is)
    (case qg__law_due => k_is)
    (case l13 => k_is)
    (case c13 => k_is)
    (case k13 => k_is)
    (case qg__law_numbers => k_is)
    (case l14 => k_is)
    (case c14 => k_is)
    (case k14 => k_is)
    (case qg__law_reckoning => k_is)
    (case l15 => k_is)
    (case c15 => k_is)
    (case k15 => k_is)
    (case qg__law_lent => k_is)
    (case l16 => k_is)
    (case c16 => k_is)
    (case k16 => k_is)
    (case qg__law_body => k_is)
    (case l17 => k_is)
    (case c17 => k_is)
    (case k17 => k_is)
    (case qg__law_drawn => k_is)
    (case l18 => k_is)
    (case c18 => k_is)
    (case k18 => k_is)
    (case qg__law_try => k_is)
    (case l19 => k_is)
    (case c19 => k_is)
    (case k19 => k_is)
    (case qg__law_tower => k_is)
    (case l20 => k_is)
    (case c20 => k_is)
    (case k20 => k_is)
    (case qg__law_program => k_is)
    (case l21 => k_is)
    (case c21 => k_is)
    (case k21 => k_is)
    (case qg_reckoned_of_two => k_is)
    (case l33 => k_is)
    (case c33 => k_is)
    (case k33 => k_is)
    (case qg_reckoned => k_is)
    (case l34 => k_is)
    (case c34 => k_is)
    (case k34 => k_is)
    (case qg_walked => k_is)
    (case l36 => k_is)
    (case c36 => k_is)
    (case k36 => k_is)
    (case qg_asked => k_is)
    (case l43 => k_is)
    (case c43 => k_is)
    (case k43 => k_is)
    (case qg_is_whole => k_is)
    (case l44 => k_is)
    (case c44 => k_is)
    (case k44 => k_is)
    (case qg_is_deed => k_is)
    (case l45 => k_is)
    (case c45 => k_is)
    (case k45 => k_is)
    (case qg_need_work => k_is)
    (case l46 => k_is)
    (case c46 => k_is)
    (case k46 => k_is)
    (case qg_need_ask => k_is)
    (case l47 => k_is)
    (case c47 => k_is)
    (case k47 => k_is)
    (case qg_need_program => k_is)
    (case l57 => k_is)
    (case c57 => k_is)
    (case k57 => k_is)
    (case qg_played => k_is)
    (case l58 => k_is)
    (case c58 => k_is)
    (case k58 => k_is)
    (case qg_law => k_is)
    (case l59 => k_is)
    (case c59 => k_is)
    (case k59 => k_is)
    (case qgc_Asker => k_is)
    (case pg0 => k_is)
    (case hd0 => k_is)
    (case po0 => k_is)
    (case sa0 => k_is)
    (case qna_Asker_deeds => k_is)
    (case qna_Asker_told => k_is)
    (case qna_Asker_words => k_is)
    (case mm0 => k_is)
    (case m22 => k_is)
    (case i22 => k_is)
    (case kc0 => k_is)
    (case m23 => k_is)
    (case i23 => k_is)
    (case m24 => k_is)
    (case i24 => k_is)
    (case m25 => k_is)
    (case i25 => k_is)
    (case m26 => k_is)
    (case i26 => k_is)
    (case m27 => k_is)
    (case i27 => k_is)
    (case m29 => k_is)
    (case i29 => k_is)
    (case m30 => k_is)
    (case i30 => k_is)
    (case qgc_Walk => k_is)
    (case pg1 => k_is)
    (case hd1 => k_is)
    (case po1 => k_is)
    (case sa1 => k_is)
    (case qna_Walk_program => k_is)
    (case qna_Walk_slots => k_is)
    (case qna_Walk_asker => k_is)
    (case mm1 => k_is)
    (case m28 => k_is)
    (case i28 => k_is)
    (case kc1 => k_is)
    (case m31 => k_is)
    (case i31 => k_is)
    (case m32 => k_is)
    (case i32 => k_is)
    (case m35 => k_is)
    (case i35 => k_is)
    (case m37 => k_is)
    (case i37 => k_is)
    (case m38 => k_is)
    (case i38 => k_is)
    (case m39 => k_is)
    (case i39 => k_is)
    (case m40 => k_is)
    (case i40 => k_is)
    (case m41 => k_is)
    (case i41 => k_is)
    (case m42 => k_is)
    (case i42 => k_is)
    (case qgc_Look => k_is)
    (case pg2 => k_is)
    (case hd2 => k_is)
    (case po2 => k_is)
    (case sa2 => k_is)
    (case qna_Look_program => k_is)
    (case qna_Look_number => k_is)
    (case qna_Look_slots => k_is)
    (case qna_Look_many => k_is)
    (case mm2 => k_is)
    (case m48 => k_is)
    (case i48 => k_is)
    (case kc2 => k_is)
    (case m49 => k_is)
    (case i49 => k_is)
    (case m50 => k_is)
    (case i50 => k_is)
    (case m51 => k_is)
    (case i51 => k_is)
    (case m52 => k_is)
    (case i52 => k_is)
    (case m53 => k_is)
    (case i53 => k_is)
    (case m54 => k_is)
    (case i54 => k_is)
    (case m55 => k_is)
    (case i55 => k_is)
    (case m56 => k_is)
    (case i56 => k_is)
    (case qge_NoPart => k_is)
    (case xa0 => k_exc)
    (case xb0 => k_is)
    (case xc0 => k_is)
    (case xd0 => k_is)
    (case qge_Over => k_is)
    (case xa1 => k_exc)
    (case xb1 => k_is)
    (case xc1 => k_is)
    (case xd1 => k_is)
    (case xf0 => k_is)
    (case qeh_NoPart_NoPart => k_is)
    (case qeh_Over_NoPart => k_is)
    (case xf1 => k_is)
    (case qeh_NoPart_Over => k_is)
    (case qeh_Over_Over => k_is)
    (case l22 => k_is)
    (case c22 => k_is)
    (case k22 => k_is)
    (case l23 => k_is)
    (case c23 => k_is)
    (case k23 => k_is)
    (case l24 => k_is)
    (case c24 => k_is)
    (case k24 => k_is)
    (case l25 => k_is)
    (case c25 => k_is)
    (case k25 => k_is)
    (case l26 => k_is)
    (case c26 => k_is)
    (case k26 => k_is)
    (case l27 => k_is)
    (case c27 => k_is)
    (case k27 => k_is)
    (case l28 => k_is)
    (case c28 => k_is)
    (case k28 => k_is)
    (case l29 => k_is)
    (case c29 => k_is)
    (case k29 => k_is)
    (case l30 => k_is)
    (case c30 => k_is)
    (case k30 => k_is)
    (case l31 => k_is)
    (case c31 => k_is)
    (case k31 => k_is)
    (case l32 => k_is)
    (case c32 => k_is)
    (case k32 => k_is)
    (case l35 => k_is)
    (case c35 => k_is)
    (case k35 => k_is)
    (case l37 => k_is)
    (case c37 => k_is)
    (case k37 => k_is)
    (case l38 => k_is)
    (case c38 => k_is)
    (case k38 => k_is)
    (case l39 => k_is)
    (case c39 => k_is)
    (case k39 => k_is)
    (case l40 => k_is)
    (case c40 => k_is)
    (case k40 => k_is)
    (case l41 => k_is)
    (case c41 => k_is)
    (case k41 => k_is)
    (case l42 => k_is)
    (case c42 => k_is)
    (case k42 => k_is)
    (case l48 => k_is)
    (case c48 => k_is)
    (case k48 => k_is)
    (case l49 => k_is)
    (case c49 => k_is)
    (case k49 => k_is)
    (case l50 => k_is)
    (case c50 => k_is)
    (case k50 => k_is)
    (case l51 => k_is)
    (case c51 => k_is)
    (case k51 => k_is)
    (case l52 => k_is)
    (case c52 => k_is)
    (case k52 => k_is)
    (case l53 => k_is)
    (case c53 => k_is)
    (case k53 => k_is)
    (case l54 => k_is)
    (case c54 => k_is)
    (case k54 => k_is)
    (case l55 => k_is)
    (case c55 => k_is)
    (case k55 => k_is)
    (case l56 => k_is)
    (case c56 => k_is)
    (case k56 => k_is)
    (case u0 => rfl)
    (case w0 => kernel_rfl)
    (case v0 => kernel_rfl)
