import PyProof.Rows.All
import Wide.All
import OpenK.AllK
import Wide.FinOn
import HandS.ForMost
import HandS.ForExc
import HandS.TupAny
import HandS.Wide
import HandS.Codes
import HandS.StrMore
import HandS.RaiseMore
import HandS.FStr
import HandS.More
import HandS.IsInst
import HandS.Style
import HandS.Deep
import HandS.Text
import HandS.TupLen
import HandS.Flow
import HandS.Iter
import HandS.Comp
import HandS.Exc
import HandS.CallSlots
import HandS.Words
import HandS.WordsExc
import HandS.EndBits
import PyProof.StrLawsIn
import PySem.Challenge.RW_sameclock_k00_tokens_of_a_program
set_option Elab.async false
set_option linter.all false
set_option maxRecDepth 100000
/-! Values and a store without addresses; what a def does as a plain function of them, and the hand layer's readings of that. -/
namespace Ly
open PySem PySem.Spec L2
open PyProof.Rows hiding St

/-- a value; ref i: the i-th object of the store; cst a: a thing of the written part -/
inductive D where
  | non | bl (b : Bool) | int (i : Int) | str (x : Str) | tup (xs : List D) | wt (xs : List D) | wl (xs : List D) | ref (i : Nat) | cst (a : Addr)
/-- an object of the store -/
inductive O where
  | lst (xs : List D) | rol (xs : List D) | dic (kvs : List (Key × D)) | dit (kvs : List (List Key × D)) | ins (C : Addr) (fs : List (Str × D))
abbrev Hs := List O
abbrev Ls := List (Option D)

/-- a tuple of the written part -/
def Wt (K : PySem.W.Frag) (a : Addr) (xs : List V) : Prop :=
  ∃ (o : Obj) (its : Array Value) (n : Nat), K.lookup a = some o ∧ o.cls = .type "tuple" ∧ o.data = .seq its n ∧ its.size ≤ sizeLine ∧ Vals xs its.toList
/-- a list of the written part -/
def Wl (K : PySem.W.Frag) (a : Addr) (xs : List V) : Prop :=
  ∃ (o : Obj) (its : Array Value) (n : Nat), K.lookup a = some o ∧ o.cls = .type "list" ∧ o.dict = none ∧ o.data = .seq its n ∧ its.size ≤ sizeLine ∧ Vals xs its.toList
theorem Wl.sq {K : PySem.W.Frag} {H : Hp} {a : Addr} {xs : List V} (h : Wl K a xs) : SqL K H a xs := .inr h
theorem Wt.sq {K : PySem.W.Frag} {H : Hp} {a : Addr} {xs : List V} (h : Wt K a xs) : SqT K H a xs := .inr h

section
variable (K : PySem.W.Frag) (pi : Nat → Addr) (n : Nat) (H : Hp)
mutual
inductive Rep : D → V → Prop
  | non : Rep .non .non
  | bl (b : Bool) : Rep (.bl b) (.bl b)
  | int (i : Int) : Rep (.int i) (.int i)
  | str (x : Str) : Rep (.str x) (.str x)
  | tup {a : Addr} {ds : List D} {xs : List V} : H a = some (.tup xs) → Reps ds xs → Rep (.tup ds) (.ref a)
  | wt {a : Addr} {ds : List D} {xs : List V} : Wt K a xs → Reps ds xs → Rep (.wt ds) (.ref a)
  | wl {a : Addr} {ds : List D} {xs : List V} : Wl K a xs → Reps ds xs → Rep (.wl ds) (.ref a)
  | ref {i : Nat} : i < n → Rep (.ref i) (.ref (pi i))
  | cst (a : Addr) : Rep (.cst a) (.ref a)
inductive Reps : List D → List V → Prop
  | nil : Reps [] []
  | cons {d : D} {ds : List D} {v : V} {vs : List V} : Rep d v → Reps ds vs → Reps (d :: ds) (v :: vs)
end
/-- the slots of a frame; a slot that is not spoken of may hold anything -/
inductive Sl : Ls → St → Prop
  | nil : Sl [] []
  | no {l : Ls} {s : St} (o : Option V) : Sl l s → Sl (none :: l) (o :: s)
  | yes {l : Ls} {s : St} {d : D} {v : V} : Rep K pi n H d v → Sl l s → Sl (some d :: l) (some v :: s)
/-- an object of the store stands at a -/
def RO (a : Addr) : O → Prop
  | .lst ds => ∃ xs, H a = some (.lst xs) ∧ Reps K pi n H ds xs
  | .rol ds => ∃ o xs, H a = some (.frz o (.lst xs)) ∧ Reps K pi n H ds xs
  | .dic kvs => ∃ ks, H a = some (.dK ks) ∧ ks.map (·.1) = kvs.map (·.1) ∧ Reps K pi n H (kvs.map (·.2)) (ks.map (·.2))
  | .dit kvs => ∃ ks, H a = some (.dT ks) ∧ ks.map (·.1) = kvs.map (·.1) ∧ Reps K pi n H (kvs.map (·.2)) (ks.map (·.2))
  | .ins C fs => ∃ dx ks, H a = some (.ins C dx ks) ∧ ks.map (·.1) = fs.map (·.1) ∧ Reps K pi n H (fs.map (·.2)) (ks.map (·.2))
end
structure Real (K : PySem.W.Frag) (pi : Nat → Addr) (S : Hs) (H : Hp) : Prop where
  ob : ∀ i o, S[i]? = some o → RO K pi S.length H (pi i) o
  inj : ∀ i j, i < S.length → j < S.length → pi i = pi j → i = j
structure Ext (n m : Nat) (pi pi' : Nat → Addr) (H H' : Hp) : Prop where
  le : n ≤ m
  ag : ∀ i, i < n → pi' i = pi i
  tp : ∀ a xs, H a = some (.tup xs) → H' a = some (.tup xs)
theorem Ext.refl {n : Nat} {pi : Nat → Addr} {H : Hp} : Ext n n pi pi H H := ⟨Nat.le_refl _, fun _ _ => rfl, fun _ _ h => h⟩
theorem Ext.trans {n m k : Nat} {p q r : Nat → Addr} {H H1 H2 : Hp} (a : Ext n m p q H H1) (b : Ext m k q r H1 H2) : Ext n k p r H H2 :=
  ⟨Nat.le_trans a.le b.le, fun i h => (b.ag i (Nat.lt_of_lt_of_le h a.le)).trans (a.ag i h), fun x xs h => b.tp x xs (a.tp x xs h)⟩
section
variable {K : PySem.W.Frag} {pi pi' : Nat → Addr} {n m : Nat} {H H' : Hp}
mutual
theorem Rep.ext (x : Ext n m pi pi' H H') : ∀ (d : D) (v : V), Rep K pi n H d v → Rep K pi' m H' d v
  | .non, _, .non => .non
  | .bl _, _, .bl _ => .bl _
  | .int _, _, .int _ => .int _
  | .str _, _, .str _ => .str _
  | .tup ds, _, .tup t r => .tup (x.tp _ _ t) (Reps.ext x ds _ r)
  | .wt ds, _, .wt t r => .wt t (Reps.ext x ds _ r)
  | .wl ds, _, .wl t r => .wl t (Reps.ext x ds _ r)
  | .ref i, _, .ref h => by rw [← x.ag i h]; exact .ref (Nat.lt_of_lt_of_le h x.le)
  | .cst _, _, .cst _ => .cst _
theorem Reps.ext (x : Ext n m pi pi' H H') : ∀ (d : List D) (v : List V), Reps K pi n H d v → Reps K pi' m H' d v
  | [], _, .nil => .nil
  | d :: ds, _, .cons r s => .cons (Rep.ext x d _ r) (Reps.ext x ds _ s)
end
theorem Sl.ext (x : Ext n m pi pi' H H') {l : Ls} {s : St} (h : Sl K pi n H l s) : Sl K pi' m H' l s := by
  induction h with
  | nil => exact .nil
  | no o _ ih => exact .no o ih
  | yes r _ ih => exact .yes (r.ext x _ _) ih
theorem RO.ext (x : Ext n m pi pi' H H') {a : Addr} {o : O} (h : RO K pi n H a o) (e : H' a = H a) : RO K pi' m H' a o := by
  cases o with
  | lst ds => obtain ⟨xs, h1, h2⟩ := h; exact ⟨xs, e.trans h1, h2.ext x _ _⟩
  | rol ds => obtain ⟨o, xs, h1, h2⟩ := h; exact ⟨o, xs, e.trans h1, h2.ext x _ _⟩
  | dic kvs => obtain ⟨ks, h1, h2, h3⟩ := h; exact ⟨ks, e.trans h1, h2, h3.ext x _ _⟩
  | dit kvs => obtain ⟨ks, h1, h2, h3⟩ := h; exact ⟨ks, e.trans h1, h2, h3.ext x _ _⟩
  | ins C fs => obtain ⟨dx, ks, h1, h2, h3⟩ := h; exact ⟨dx, ks, e.trans h1, h2, h3.ext x _ _⟩
theorem RO.some {a : Addr} {o : O} (h : RO K pi n H a o) : ∃ u, H a = some u ∧ ∀ xs, u ≠ .tup xs := by
  cases o with
  | lst ds => obtain ⟨xs, h1, h2⟩ := h; exact ⟨_, h1, fun _ => nofun⟩
  | rol ds => obtain ⟨o, xs, h1, h2⟩ := h; exact ⟨_, h1, fun _ => nofun⟩
  | dic kvs => obtain ⟨ks, h1, h2, h3⟩ := h; exact ⟨_, h1, fun _ => nofun⟩
  | dit kvs => obtain ⟨ks, h1, h2, h3⟩ := h; exact ⟨_, h1, fun _ => nofun⟩
  | ins C fs => obtain ⟨dx, ks, h1, h2, h3⟩ := h; exact ⟨_, h1, fun _ => nofun⟩
theorem Reps.len {ds : List D} {vs : List V} (h : Reps K pi n H ds vs) : ds.length = vs.length := by
  induction ds generalizing vs with
  | nil => cases h; rfl
  | cons d ds ih => cases h with | cons r s => rw [List.length_cons, List.length_cons, ih s]
theorem Reps.append {ds es : List D} {vs us : List V} (h : Reps K pi n H ds vs) (g : Reps K pi n H es us) : Reps K pi n H (ds ++ es) (vs ++ us) := by
  induction ds generalizing vs with
  | nil => cases h; exact g
  | cons d ds ih => cases h with | cons r s => exact .cons r (ih s)
theorem Reps.get {ds : List D} {vs : List V} (h : Reps K pi n H ds vs) {i : Nat} {d : D} (e : ds[i]? = some d) : ∃ v, vs[i]? = some v ∧ Rep K pi n H d v := by
  induction ds generalizing vs i with
  | nil => simp at e
  | cons d ds ih =>
    cases h with
    | cons r s =>
      cases i with
      | zero => simp at e; subst e; exact ⟨_, rfl, r⟩
      | succ i => simpa using ih s (by simpa using e)
theorem Reps.take {ds : List D} {vs : List V} (h : Reps K pi n H ds vs) (i : Nat) : Reps K pi n H (ds.take i) (vs.take i) := by
  induction ds generalizing vs i with
  | nil => cases h; simp; exact .nil
  | cons d ds ih => cases h with | cons r s => cases i with | zero => exact .nil | succ i => exact .cons r (ih s i)
theorem Reps.drop {ds : List D} {vs : List V} (h : Reps K pi n H ds vs) (i : Nat) : Reps K pi n H (ds.drop i) (vs.drop i) := by
  induction ds generalizing vs i with
  | nil => cases h; simp; exact .nil
  | cons d ds ih => cases h with | cons r s => cases i with | zero => exact .cons r s | succ i => exact ih s i
theorem Reps.set {ds : List D} {vs : List V} (h : Reps K pi n H ds vs) (i : Nat) {d : D} {v : V} (r : Rep K pi n H d v) : Reps K pi n H (ds.set i d) (vs.set i v) := by
  induction ds generalizing vs i with
  | nil => cases h; exact .nil
  | cons d ds ih => cases h with | cons r s => cases i with | zero => exact .cons (by assumption) s | succ i => exact .cons r (ih s i)
theorem Sl.len {l : Ls} {s : St} (h : Sl K pi n H l s) : l.length = s.length := by
  induction h with
  | nil => rfl
  | no _ _ ih => simp [ih]
  | yes _ _ ih => simp [ih]
theorem Sl.get {l : Ls} {s : St} (h : Sl K pi n H l s) {i : Nat} {d : D} (e : l[i]? = some (some d)) : ∃ v, s[i]? = some (some v) ∧ Rep K pi n H d v := by
  induction h generalizing i with
  | nil => simp at e
  | no o _ ih =>
    cases i with
    | zero => simp at e
    | succ i => simpa using ih (by simpa using e)
  | yes r _ ih =>
    cases i with
    | zero => simp at e; subst e; exact ⟨_, rfl, r⟩
    | succ i => simpa using ih (by simpa using e)
theorem Sl.set {l : Ls} {s : St} (h : Sl K pi n H l s) (i : Nat) {d : D} {v : V} (r : Rep K pi n H d v) : Sl K pi n H (l.set i (some d)) (s.set i (some v)) := by
  induction h generalizing i with
  | nil => exact .nil
  | no o t ih => cases i with | zero => exact .yes r t | succ i => exact .no o (ih i)
  | yes q t ih => cases i with | zero => exact .yes r t | succ i => exact .yes q (ih i)
theorem Sl.skip {l : Ls} {s : St} (h : Sl K pi n H l s) (i : Nat) (o : Option V) : Sl K pi n H (l.set i none) (s.set i o) := by
  induction h generalizing i with
  | nil => exact .nil
  | no o t ih => cases i with | zero => exact .no _ t | succ i => exact .no _ (ih i)
  | yes q t ih => cases i with | zero => exact .no _ t | succ i => exact .yes q (ih i)
/-- a new object -/
def piN (pi : Nat → Addr) (n : Nat) (p : Addr) : Nat → Addr := fun i => if i = n then p else pi i
theorem piN_same {p : Addr} : piN pi n p n = p := if_pos rfl
theorem piN_ne {p : Addr} {i : Nat} (h : i ≠ n) : piN pi n p i = pi i := if_neg h
theorem Real.at {S : Hs} (R : Real K pi S H) {i : Nat} (h : i < S.length) : ∃ u, H (pi i) = some u ∧ ∀ xs, u ≠ .tup xs := (R.ob i _ (List.getElem?_eq_getElem h)).some
theorem ext_new {S : Hs} {p : Addr} {u : HO} (hp : H p = none) : Ext S.length (S.length + 1) pi (piN pi S.length p) H (upd H p u) :=
  ⟨Nat.le_succ _, fun i h => piN_ne (Nat.ne_of_lt h), fun a xs h => by rw [upd_ne (ne_of_none h hp)]; exact h⟩
theorem Real.new {S : Hs} {p : Addr} {u : HO} {o : O} (R : Real K pi S H) (hp : H p = none) (h : RO K (piN pi S.length p) (S.length + 1) (upd H p u) p o) : Real K (piN pi S.length p) (S ++ [o]) (upd H p u) := by
  have hn : ∀ i, i < S.length → pi i ≠ p := fun i hi => by obtain ⟨u, e, _⟩ := R.at hi; exact ne_of_none e hp
  refine ⟨fun i o' e => ?_, fun i j hi hj e => ?_⟩
  · rw [List.length_append, List.length_singleton]
    by_cases hi : i < S.length
    · rw [List.getElem?_append_left hi] at e
      rw [piN_ne (Nat.ne_of_lt hi)]
      exact (R.ob i o' e).ext (ext_new hp) (upd_ne (hn i hi))
    · rw [List.getElem?_append_right (Nat.le_of_not_lt hi)] at e
      have : i = S.length := by
        have := (List.getElem?_eq_some_iff.mp e).1
        simp at this; omega
      subst this
      simp at e; subst e
      rw [piN_same]; exact h
  · simp at hi hj
    by_cases h1 : i = S.length <;> by_cases h2 : j = S.length
    · omega
    · subst h1; rw [piN_same, piN_ne h2] at e; exact absurd e.symm (hn j (by omega))
    · subst h2; rw [piN_same, piN_ne h1] at e; exact absurd e (hn i (by omega))
    · rw [piN_ne h1, piN_ne h2] at e; exact R.inj i j (by omega) (by omega) e
theorem ext_upd {a : Addr} {u : HO} (h : ∀ xs, H a ≠ some (.tup xs)) : Ext n n pi pi H (upd H a u) :=
  ⟨Nat.le_refl _, fun _ _ => rfl, fun b xs e => by
    by_cases hb : b = a
    · subst hb; exact absurd e (h xs)
    · rw [upd_ne hb]; exact e⟩
theorem Real.notup {S : Hs} (R : Real K pi S H) {i : Nat} (h : i < S.length) : ∀ xs, H (pi i) ≠ some (.tup xs) := fun xs e => by
  obtain ⟨u, e1, e2⟩ := R.at h
  rw [e] at e1; exact e2 xs (Option.some.inj e1).symm
theorem Real.put {S : Hs} {i : Nat} {u : HO} {o : O} (R : Real K pi S H) (hi : i < S.length) (h : RO K pi S.length (upd H (pi i) u) (pi i) o) : Real K pi (S.set i o) (upd H (pi i) u) := by
  refine ⟨fun j o' e => ?_, fun j k hj hk e => R.inj j k (by simpa using hj) (by simpa using hk) e⟩
  rw [List.length_set]
  by_cases hj : j = i
  · subst hj
    rw [List.getElem?_set_self hi] at e
    cases e; exact h
  · rw [List.getElem?_set_ne (Ne.symm hj)] at e
    have hl := (List.getElem?_eq_some_iff.mp e).1
    exact (R.ob j o' e).ext (ext_upd (R.notup hi)) (upd_ne fun z => hj (R.inj j i hl hi z))
end

/-! ### what comes of a part: a value, an exception, or nothing is said -/
inductive R (α : Type) where
  | ok (a : α) (S : Hs)
  | exc (c : V) (fs : Option (List (Str × D))) (l : Ls) (S : Hs)
  | bad
def R.bind {α β : Type} (r : R α) (k : α → Hs → R β) : R β :=
  match r with
  | .ok a S => k a S
  | .exc c fs l S => .exc c fs l S
  | .bad => .bad
@[simp] theorem R.bind_ok {α β : Type} (a : α) (S : Hs) (k : α → Hs → R β) : (R.ok a S).bind k = k a S := (show (R.ok a S).bind k = k a S from rfl).trans (Eq.refl _)
@[simp] theorem R.bind_exc {α β : Type} (c fs l S) (k : α → Hs → R β) : (R.exc c fs l S : R α).bind k = .exc c fs l S := (show (R.exc c fs l S : R α).bind k = .exc c fs l S from rfl).trans (Eq.refl _)
@[simp] theorem R.bind_bad {α β : Type} (k : α → Hs → R β) : (R.bad : R α).bind k = .bad := (show (R.bad : R α).bind k = .bad from rfl).trans (Eq.refl _)
theorem R.bind_assoc {α β γ : Type} (r : R α) (k : α → Hs → R β) (l : β → Hs → R γ) : (r.bind k).bind l = r.bind fun a S => (k a S).bind l := by cases r <;> rfl

/-- an exception's own dict -/
def XFs (K : PySem.W.Frag) (pi : Nat → Addr) (n : Nat) (H : Hp) : Option Addr → Option (List (Str × D)) → Prop
  | none, none => True
  | some d, some fs => ∃ ks, H d = some (.xd ks) ∧ ks.map (·.1) = fs.map (·.1) ∧ Reps K pi n H (fs.map (·.2)) (ks.map (·.2))
  | _, _ => False
def Post {α : Type} (K : PySem.W.Frag) (E : St → XK) (n : Nat) (pi : Nat → Addr) (H : Hp) (r : R α) (Q : α → Hs → (Nat → Addr) → Hp → Prop) : Prop :=
  match r with
  | .ok a S => ∀ pi' H', Ext n S.length pi pi' H H' → Real K pi' S H' → Q a S pi' H'
  | .exc c fs l S => ∀ pi' H' u d s, Ext n S.length pi pi' H H' → Real K pi' S H' → RelV c u → XFs K pi' S.length H' d fs → Sl K pi' S.length H' l s → E s u d H'
  | .bad => False
section
variable {α β : Type} {K : PySem.W.Frag} {E : St → XK} {n m : Nat} {pi pi' : Nat → Addr} {H H' : Hp}
theorem Post.ext {r : R α} {Q : α → Hs → (Nat → Addr) → Hp → Prop} (h : Post K E n pi H r Q) (x : Ext n m pi pi' H H') : Post K E m pi' H' r Q := by
  cases r with
  | ok a S => exact fun p2 H2 y R => h p2 H2 (x.trans y) R
  | exc c fs l S => exact fun p2 H2 u d s y R r f => h p2 H2 u d s (x.trans y) R r f
  | bad => exact h
theorem Post.mono {r : R α} {Q Q' : α → Hs → (Nat → Addr) → Hp → Prop} (h : Post K E n pi H r Q)
    (w : ∀ a S p2 H2, r = .ok a S → Ext n S.length pi p2 H H2 → Real K p2 S H2 → Q a S p2 H2 → Q' a S p2 H2) : Post K E n pi H r Q' := by
  cases r with
  | ok a S => exact fun p2 H2 y R => w a S p2 H2 rfl y R (h p2 H2 y R)
  | exc c fs l S => exact h
  | bad => exact h
theorem Post.bind {r : R α} {k : α → Hs → R β} {Q : β → Hs → (Nat → Addr) → Hp → Prop} (h : Post K E n pi H (r.bind k) Q) :
    Post K E n pi H r (fun a S1 p1 H1 => Post K E S1.length p1 H1 (k a S1) Q) := by
  cases r with
  | ok a S => exact fun p2 H2 y R => Post.ext (show Post K E n pi H (k a S) Q from h) y
  | exc c fs l S => exact h
  | bad => exact h
theorem Post.ok {a : α} {S : Hs} {Q : α → Hs → (Nat → Addr) → Hp → Prop} (h : Post K E n pi H (.ok a S) Q) (x : Ext n S.length pi pi' H H') (R : Real K pi' S H') : Q a S pi' H' := h pi' H' x R
end

abbrev M := Ls → Hs → R D
abbrev MB := Ls → Hs → R Bool
abbrev ML := Ls → Hs → R (List D)
/-- how a block ends -/
inductive F where
  | nx (l : Ls) | rt (d : D) | bk (l : Ls) | ct (l : Ls)
abbrev MS := Ls → Hs → R F

abbrev QD (K : PySem.W.Frag) (Q : VK) : D → Hs → (Nat → Addr) → Hp → Prop := fun d S p H => ∀ v, Rep K p S.length H d v → Q v H
abbrev QL (K : PySem.W.Frag) (Q : List V → Hp → Prop) : List D → Hs → (Nat → Addr) → Hp → Prop := fun d S p H => ∀ v, Reps K p S.length H d v → Q v H
abbrev QB (Q : Bool → Hp → Prop) : Bool → Hs → (Nat → Addr) → Hp → Prop := fun d _ _ H => Q d H
def QF (K : PySem.W.Frag) (D0 : Ends) : F → Hs → (Nat → Addr) → Hp → Prop := fun f S p H =>
  match f with
  | .nx l => ∀ s, Sl K p S.length H l s → D0.nx s H
  | .rt d => ∀ v, Rep K p S.length H d v → D0.rt v H
  | .bk l => ∀ s, Sl K p S.length H l s → D0.bk s H
  | .ct l => ∀ s, Sl K p S.length H l s → D0.ct s H
/-- the readings -/
def T (K : PySem.W.Frag) (E : St → XK) (f : M) : TE := fun s H Q => ∃ p l S, Real K p S H ∧ Sl K p S.length H l s ∧ Post K E S.length p H (f l S) (QD K Q)
def TB (K : PySem.W.Frag) (E : St → XK) (f : MB) : TT := fun s H Q => ∃ p l S, Real K p S H ∧ Sl K p S.length H l s ∧ Post K E S.length p H (f l S) (QB Q)
def TL (K : PySem.W.Frag) (E : St → XK) (f : ML) : TA := fun s H Q => ∃ p l S, Real K p S H ∧ Sl K p S.length H l s ∧ Post K E S.length p H (f l S) (QL K Q)
def TSt (K : PySem.W.Frag) (E : St → XK) (f : MS) : TS := fun D0 s H => ∃ p l S, Real K p S H ∧ Sl K p S.length H l s ∧ Post K E S.length p H (f l S) (QF K D0)
structure EM (X : Cx) (E : St → XK) (e : Expr) (f : M) : Prop where pe : PE X e (T X.K E f)
structure BM (X : Cx) (E : St → XK) (e : Expr) (f : MB) : Prop where pt : PT X e (TB X.K E f)
structure BW (X : Cx) (E : St → XK) (e : Expr) (f : MB) : Prop where pw : PW X e (TB X.K E f)
structure LM (X : Cx) (E : St → XK) (es : List Expr) (f : ML) : Prop where pa : PA X es (TL X.K E f)
structure SM (X : Cx) (E : St → XK) (st : Stmt) (f : MS) : Prop where ps : PS X st (TSt X.K E f)
structure SMs (X : Cx) (E : St → XK) (st : List Stmt) (f : MS) : Prop where ps : PSs X st (TSt X.K E f)

section
variable {X : Cx} {t t' : TE}
theorem _root_.L2.PE.weak {e : Expr} (h : PE X e t) (w : ∀ s H Q, t' s H Q → t s H Q) : PE X e t' := ⟨fun pins s σ H Q I q => h.run pins s σ H Q I (w σ H Q q)⟩
theorem _root_.L2.PT.weak {e : Expr} {t t' : TT} (h : PT X e t) (w : ∀ s H Q, t' s H Q → t s H Q) : PT X e t' := ⟨fun pins s σ H Q I q => h.run pins s σ H Q I (w σ H Q q)⟩
theorem _root_.L2.PW.weak {e : Expr} {t t' : TT} (h : PW X e t) (w : ∀ s H Q, t' s H Q → t s H Q) : PW X e t' := ⟨fun wh pins s σ H Q I q => h.run wh pins s σ H Q I (w σ H Q q)⟩
theorem _root_.L2.PA.weak {e : List Expr} {t t' : TA} (h : PA X e t) (w : ∀ s H Q, t' s H Q → t s H Q) : PA X e t' := ⟨fun pos pins s σ H Q I q => h.run pos pins s σ H Q I (w σ H Q q)⟩
theorem _root_.L2.PS.weak {e : Stmt} {t t' : TS} (h : PS X e t) (w : ∀ s H Q, t' Q s H → t Q s H) : PS X e t' := ⟨fun pins s σ H Q I q => h.run pins s σ H Q I (w σ H Q q)⟩
theorem _root_.L2.PSs.weak {e : List Stmt} {t t' : TS} (h : PSs X e t) (w : ∀ s H Q, t' Q s H → t Q s H) : PSs X e t' := ⟨fun pins s σ H Q I q => h.run pins s σ H Q I (w σ H Q q)⟩
end
section
variable {K : PySem.W.Frag} {E : St → XK} {s : St} {H : Hp} {β : Type} {QQ : β → Hs → (Nat → Addr) → Hp → Prop}
/-- a part, and what follows it -/
theorem T.of {f : M} {k : D → Hs → R β} {p : Nat → Addr} {l : Ls} {S : Hs} {Q' : VK} (R : Real K p S H) (L : Sl K p S.length H l s) (h : Post K E S.length p H ((f l S).bind k) QQ)
    (st : ∀ p1 S1 H1 d v, Real K p1 S1 H1 → Ext S.length S1.length p p1 H H1 → Sl K p1 S1.length H1 l s → Rep K p1 S1.length H1 d v → Post K E S1.length p1 H1 (k d S1) QQ → Q' v H1) : T K E f s H Q' :=
  ⟨p, l, S, R, L, h.bind.mono fun a S1 p1 H1 _ x R1 q v r => st p1 S1 H1 a v R1 x (L.ext x) r q⟩
theorem TB.of {f : MB} {k : Bool → Hs → R β} {p : Nat → Addr} {l : Ls} {S : Hs} {Q' : Bool → Hp → Prop} (R : Real K p S H) (L : Sl K p S.length H l s) (h : Post K E S.length p H ((f l S).bind k) QQ)
    (st : ∀ p1 S1 H1 b, Real K p1 S1 H1 → Ext S.length S1.length p p1 H H1 → Sl K p1 S1.length H1 l s → Post K E S1.length p1 H1 (k b S1) QQ → Q' b H1) : TB K E f s H Q' :=
  ⟨p, l, S, R, L, h.bind.mono fun a S1 p1 H1 _ x R1 q => st p1 S1 H1 a R1 x (L.ext x) q⟩
theorem TL.of {f : ML} {k : List D → Hs → R β} {p : Nat → Addr} {l : Ls} {S : Hs} {Q' : List V → Hp → Prop} (R : Real K p S H) (L : Sl K p S.length H l s) (h : Post K E S.length p H ((f l S).bind k) QQ)
    (st : ∀ p1 S1 H1 d v, Real K p1 S1 H1 → Ext S.length S1.length p p1 H H1 → Sl K p1 S1.length H1 l s → Reps K p1 S1.length H1 d v → Post K E S1.length p1 H1 (k d S1) QQ → Q' v H1) : TL K E f s H Q' :=
  ⟨p, l, S, R, L, h.bind.mono fun a S1 p1 H1 _ x R1 q v r => st p1 S1 H1 a v R1 x (L.ext x) r q⟩
/-- the last part -/
theorem T.last {f : M} {p : Nat → Addr} {l : Ls} {S : Hs} {Q : VK} (R : Real K p S H) (L : Sl K p S.length H l s) (h : Post K E S.length p H (f l S) (QD K Q)) : T K E f s H Q := ⟨p, l, S, R, L, h⟩
end
end Ly
set_option Elab.async false
set_option linter.all false
set_option maxRecDepth 100000
namespace Ly
open PySem PySem.Spec L2
open PyProof.Rows hiding St
section
variable {K : PySem.W.Frag} {E : St → XK} {p : Nat → Addr} {S : Hs} {H : Hp} {Q : VK}
/-- what is laid beside the store -/
theorem ext_junk {n : Nat} {q : Addr} {u : HO} (hq : H q = none) : Ext n n p p H (upd H q u) :=
  ⟨Nat.le_refl _, fun _ _ => rfl, fun a xs h => by rw [upd_ne (ne_of_none h hq)]; exact h⟩
theorem Real.junk {q : Addr} {u : HO} (R : Real K p S H) (hq : H q = none) : Real K p S (upd H q u) :=
  ⟨fun i o e => (R.ob i o e).ext (ext_junk hq) (by
    obtain ⟨z, e1, _⟩ := (R.ob i o e).some
    exact upd_ne (ne_of_none e1 hq)), R.inj⟩
theorem Post.val {d : D} (h : Post K E S.length p H (.ok d S) (QD K Q)) (R : Real K p S H) {v : V} (r : Rep K p S.length H d v) : Q v H := Post.ok h Ext.refl R v r
theorem Post.valT {ds : List D} {xs : List V} (h : Post K E S.length p H (.ok (.tup ds) S) (QD K Q)) (R : Real K p S H) (r : Reps K p S.length H ds xs) {q : Addr} (hq : H q = none) : Q (.ref q) (upd H q (.tup xs)) :=
  Post.ok h (ext_junk hq) (R.junk hq) _ (.tup upd_same (r.ext (ext_junk hq) _ _))
theorem Post.new {o : O} {u : HO} (h : Post K E S.length p H (.ok (.ref S.length) (S ++ [o])) (QD K Q)) (R : Real K p S H) {q : Addr} (hq : H q = none)
    (ro : RO K (piN p S.length q) (S.length + 1) (upd H q u) q o) : Q (.ref q) (upd H q u) := by
  have e : (S ++ [o]).length = S.length + 1 := by simp
  have := Post.ok h (by rw [e]; exact ext_new hq) (R.new hq ro) (.ref (piN p S.length q S.length)) (.ref (by rw [e]; exact Nat.lt_succ_self _))
  rwa [piN_same] at this
theorem Post.newL {ds : List D} {xs : List V} (h : Post K E S.length p H (.ok (.ref S.length) (S ++ [.lst ds])) (QD K Q)) (R : Real K p S H) (r : Reps K p S.length H ds xs) {q : Addr} (hq : H q = none) : Q (.ref q) (upd H q (.lst xs)) :=
  h.new R hq ⟨xs, upd_same, r.ext (ext_new hq) _ _⟩
/-- an object is changed, a value comes -/
theorem Post.put {d : D} {i : Nat} {o : O} {u : HO} (h : Post K E S.length p H (.ok d (S.set i o)) (QD K Q)) (R : Real K p S H) (hi : i < S.length) (ro : RO K p S.length (upd H (p i) u) (p i) o) {v : V} (r : Rep K p S.length (upd H (p i) u) d v) : Q v (upd H (p i) u) := by
  have e : (S.set i o).length = S.length := by simp
  exact Post.ok h (by rw [e]; exact ext_upd (R.notup hi)) (R.put hi ro) v (by rw [e]; exact r)
/-- what a list of the store is like in the heap -/
theorem Real.lst {i : Nat} {ds : List D} (R : Real K p S H) (e : S[i]? = some (.lst ds)) : ∃ xs, H (p i) = some (.lst xs) ∧ Reps K p S.length H ds xs := R.ob i _ e
theorem Real.lt {i : Nat} {o : O} (e : S[i]? = some o) : i < S.length := (List.getElem?_eq_some_iff.mp e).1
end

/-! ### operators by values -/
def OpOk (K : PySem.W.Frag) (E : St → XK) (r : R2) (op : D → D → Hs → R D) : Prop :=
  ∀ p S H x y v u Q, Real K p S H → Rep K p S.length H x v → Rep K p S.length H y u → Post K E S.length p H (op x y S) (QD K Q) → r v u H Q
def mBin (op : D → D → Hs → R D) (f g : M) : M := fun l S => (f l S).bind fun x S1 => (g l S1).bind fun y S2 => op x y S2
instance (i j : Int) : Decidable (IntMulOk i j) := inferInstanceAs (Decidable (¬ _))
def oAdd : D → D → Hs → R D
  | .int i, .int j, S => .ok (.int (i + j)) S
  | .str x, .str y, S => if x.length + y.length ≤ sizeLine then .ok (.str (x ++ y)) S else .bad
  | .tup xs, .tup ys, S => if xs.length + ys.length ≤ sizeLine then .ok (.tup (xs ++ ys)) S else .bad
  | .ref i, .ref j, S => match S[i]?, S[j]? with
    | some (.lst xs), some (.lst ys) => if xs.length + ys.length ≤ sizeLine then .ok (.ref S.length) (S ++ [.lst (xs ++ ys)]) else .bad
    | _, _ => .bad
  | _, _, _ => .bad
def oSub : D → D → Hs → R D
  | .int i, .int j, S => .ok (.int (i - j)) S
  | _, _, _ => .bad
def oMul : D → D → Hs → R D
  | .int i, .int j, S => if IntMulOk i j then .ok (.int (i * j)) S else .bad
  | .ref i, .int k, S => match S[i]? with
    | some (.lst xs) => if -(2 ^ 63) ≤ k ∧ k < 2 ^ 63 ∧ xs.length * k.toNat ≤ sizeLine then .ok (.ref S.length) (S ++ [.lst (List.replicate k.toNat xs).flatten]) else .bad
    | _ => .bad
  | _, _, _ => .bad
def oFdiv : D → D → Hs → R D
  | .int i, .int j, S => if 0 < j ∧ j.natAbs.log2 < 9000 then .ok (.int (i / j)) S else .bad
  | _, _, _ => .bad
def oMod : D → D → Hs → R D
  | .int i, .int j, S => if 0 < j then .ok (.int (i % j)) S else .bad
  | _, _, _ => .bad
def oPow : D → D → Hs → R D
  | .int i, .int j, S => if 0 ≤ j ∧ j ≤ 1000000 ∧ i.natAbs < 2 ^ 64 then .ok (.int (i ^ j.toNat)) S else .bad
  | _, _, _ => .bad
def oShl : D → D → Hs → R D
  | .int i, .int j, S => if 0 ≤ j ∧ j ≤ 1000000 ∧ i.natAbs < 2 ^ 64 then .ok (.int (i * 2 ^ j.toNat)) S else .bad
  | _, _, _ => .bad
def oShr : D → D → Hs → R D
  | .int i, .int j, S => if 0 ≤ j then .ok (.int (i / 2 ^ j.toNat)) S else .bad
  | _, _, _ => .bad
def oAnd : D → D → Hs → R D
  | .int i, .int j, S => .ok (.int (Builtin.bitAnd i j)) S
  | _, _, _ => .bad
def oOr : D → D → Hs → R D
  | .int i, .int j, S => .ok (.int (Builtin.bitOr i j)) S
  | _, _, _ => .bad
def oXor : D → D → Hs → R D
  | .int i, .int j, S => .ok (.int (Builtin.bitXor i j)) S
  | _, _, _ => .bad
abbrev orR (r r' : R2) : R2 := fun x y H Q => r x y H Q ∨ r' x y H Q
section
variable {X : Cx} {E : St → XK} {a b : Expr} {f g : M} {pos : Pos}
theorem e_bin {o : Operator} {r : R2} {op : D → D → Hs → R D} (ho : OpR X (binaryOp o) r) (hk : OpOk X.K E r op) (ha : EM X E a f) (hb : EM X E b g) : EM X E (.BinOp a o b pos) (mBin op f g) :=
  ⟨(pe_op ho ha.pe hb.pe).weak fun s H Q ⟨p, l, S, R, L, h⟩ => T.of R L h fun p1 S1 H1 d v R1 x1 L1 r1 h1 => T.of R1 L1 h1 fun p2 S2 H2 d2 v2 R2 x2 L2 r2 h2 => hk p2 S2 H2 _ _ _ _ Q R2 (r1.ext x2 _ _) r2 h2⟩
abbrev rAddAll (K : PySem.W.Frag) : R2 := orR (rI0 fun i j => .int (i + j)) (orR (fun x y H Q => ∃ i j, x = V.str i ∧ y = V.str j ∧ i.length + j.length ≤ sizeLine ∧ Q (V.str (i ++ j)) H) (orR (rCatA K) rCat))
theorem or_add : OpR X (binaryOp .Add) (rAddAll X.K) := .or op_add (.or op_add_str (.or op_catA op_cat))
theorem ok_add {K : PySem.W.Frag} {E : St → XK} : OpOk K E (rAddAll K) oAdd := by
  intro p S H x y v u Q R rx ry h
  unfold oAdd at h
  split at h
  · cases rx; cases ry; exact .inl ⟨_, _, rfl, rfl, h.val R (.int _)⟩
  · split at h
    · rename_i hl; cases rx; cases ry; exact .inr (.inl ⟨_, _, rfl, rfl, hl, h.val R (.str _)⟩)
    · exact h.elim
  · split at h
    · rename_i xs ys _ hl
      cases rx with
      | @tup a ds vs t r =>
      cases ry with
      | @tup b es us t' r' =>
      refine .inr (.inr (.inl ⟨a, b, vs, us, rfl, rfl, SqT.of t, SqT.of t', by rw [← r.len, ← r'.len]; exact hl, fun e => ?_, fun e e' => ?_, fun e e' q hq => ?_⟩))
      · subst e; cases r; exact h.val R (.tup t' r')
      · subst e'; cases r'; rw [List.append_nil] at h; exact h.val R (.tup t r)
      · exact h.valT R (r.append r') hq
    · exact h.elim
  · split at h
    · rename_i i j _ _ _ xs ys e1 e2
      split at h
      · rename_i hl
        obtain ⟨vs, h1, r1⟩ := R.lst e1
        obtain ⟨us, h2, r2⟩ := R.lst e2
        cases rx; cases ry
        exact .inr (.inr (.inr ⟨_, _, vs, us, rfl, rfl, h1, h2, by rw [← r1.len, ← r2.len]; exact hl, fun q hq => h.newL R (r1.append r2) hq⟩))
      · exact h.elim
    · exact h.elim
  · exact h.elim
theorem e_add (ha : EM X E a f) (hb : EM X E b g) : EM X E (.BinOp a .Add b pos) (mBin oAdd f g) := e_bin or_add ok_add ha hb
theorem ok_I {K : PySem.W.Frag} {E : St → XK} {op : D → D → Hs → R D} {C : Int → Int → Prop} [∀ i j, Decidable (C i j)] {gg : Int → Int → Int}
    (h1 : ∀ i j S, op (.int i) (.int j) S = if C i j then .ok (.int (gg i j)) S else .bad) (h2 : ∀ x y S, (∀ i j, x = .int i → y = .int j → False) → op x y S = .bad) : OpOk K E (rI C fun i j => .int (gg i j)) op := by
  intro p S H x y v u Q R rx ry h
  by_cases e : ∃ i j, x = .int i ∧ y = .int j
  · obtain ⟨i, j, rfl, rfl⟩ := e
    rw [h1] at h
    cases rx; cases ry
    split at h
    · rename_i c; exact ⟨i, j, rfl, rfl, c, h.val R (.int _)⟩
    · exact h.elim
  · rw [h2 x y S fun i j a b => e ⟨i, j, a, b⟩] at h; exact h.elim
theorem ok_I0 {K : PySem.W.Frag} {E : St → XK} {op : D → D → Hs → R D} {gg : Int → Int → Int}
    (h1 : ∀ i j S, op (.int i) (.int j) S = .ok (.int (gg i j)) S) (h2 : ∀ x y S, (∀ i j, x = .int i → y = .int j → False) → op x y S = .bad) : OpOk K E (rI0 fun i j => .int (gg i j)) op := by
  intro p S H x y v u Q R rx ry h
  by_cases e : ∃ i j, x = .int i ∧ y = .int j
  · obtain ⟨i, j, rfl, rfl⟩ := e
    rw [h1] at h
    cases rx; cases ry
    exact ⟨i, j, rfl, rfl, h.val R (.int _)⟩
  · rw [h2 x y S fun i j a b => e ⟨i, j, a, b⟩] at h; exact h.elim
theorem e_sub (ha : EM X E a f) (hb : EM X E b g) : EM X E (.BinOp a .Sub b pos) (mBin oSub f g) :=
  e_bin op_sub (ok_I0 (fun _ _ _ => rfl) fun x y S h => by unfold oSub; split <;> first | rfl | exact (h _ _ rfl rfl).elim) ha hb
theorem op_mulA : OpR X (binaryOp .Mult) (rI IntMulOk fun i j => .int (i * j)) := opI fun _ _ _ _ _ _ _ hc q => mul_int q hc
theorem ok_mul {K : PySem.W.Frag} {E : St → XK} : OpOk K E (orR (rI IntMulOk fun i j => .int (i * j)) rRep) oMul := by
  intro p S H x y v u Q R rx ry h
  unfold oMul at h
  split at h
  · split at h
    · rename_i c; cases rx; cases ry; exact .inl ⟨_, _, rfl, rfl, c, h.val R (.int _)⟩
    · exact h.elim
  · split at h
    · rename_i e1
      split at h
      · rename_i hl
        obtain ⟨vs, h1, r1⟩ := R.lst e1
        cases rx; cases ry
        refine .inr ⟨_, _, vs, rfl, rfl, h1, hl.1, hl.2.1, by rw [← r1.len]; exact hl.2.2, fun q hq => h.newL R ?_ hq⟩
        generalize Int.toNat _ = n
        clear h hl
        induction n with
        | zero => exact .nil
        | succ n ih => rw [List.replicate_succ, List.replicate_succ, List.flatten_cons, List.flatten_cons]; exact r1.append ih
      · exact h.elim
    · exact h.elim
  · exact h.elim
theorem e_mul (ha : EM X E a f) (hb : EM X E b g) : EM X E (.BinOp a .Mult b pos) (mBin oMul f g) := e_bin (OpR.or op_mulA op_rep) ok_mul ha hb
theorem e_fdiv (ha : EM X E a f) (hb : EM X E b g) : EM X E (.BinOp a .FloorDiv b pos) (mBin oFdiv f g) :=
  e_bin op_fdivW (ok_I (C := fun _ j => 0 < j ∧ j.natAbs.log2 < 9000) (fun _ _ _ => rfl) fun x y S h => by unfold oFdiv; split <;> first | rfl | exact (h _ _ rfl rfl).elim) ha hb
theorem e_mod (ha : EM X E a f) (hb : EM X E b g) : EM X E (.BinOp a .Mod b pos) (mBin oMod f g) :=
  e_bin op_mod (ok_I (fun _ _ _ => rfl) fun x y S h => by unfold oMod; split <;> first | rfl | exact (h _ _ rfl rfl).elim) ha hb
theorem e_pow (ha : EM X E a f) (hb : EM X E b g) : EM X E (.BinOp a .Pow b pos) (mBin oPow f g) :=
  e_bin op_pow (ok_I (C := fun i j => 0 ≤ j ∧ j ≤ 1000000 ∧ i.natAbs < 2 ^ 64) (fun _ _ _ => rfl) fun x y S h => by unfold oPow; split <;> first | rfl | exact (h _ _ rfl rfl).elim) ha hb
theorem e_shl (ha : EM X E a f) (hb : EM X E b g) : EM X E (.BinOp a .LShift b pos) (mBin oShl f g) :=
  e_bin op_shl (ok_I (C := fun i j => 0 ≤ j ∧ j ≤ 1000000 ∧ i.natAbs < 2 ^ 64) (fun _ _ _ => rfl) fun x y S h => by unfold oShl; split <;> first | rfl | exact (h _ _ rfl rfl).elim) ha hb
theorem e_shr (ha : EM X E a f) (hb : EM X E b g) : EM X E (.BinOp a .RShift b pos) (mBin oShr f g) :=
  e_bin op_shr (ok_I (fun _ _ _ => rfl) fun x y S h => by unfold oShr; split <;> first | rfl | exact (h _ _ rfl rfl).elim) ha hb
theorem e_band (ha : EM X E a f) (hb : EM X E b g) : EM X E (.BinOp a .BitAnd b pos) (mBin oAnd f g) :=
  e_bin op_and (ok_I0 (fun _ _ _ => rfl) fun x y S h => by unfold oAnd; split <;> first | rfl | exact (h _ _ rfl rfl).elim) ha hb
theorem e_bor (ha : EM X E a f) (hb : EM X E b g) : EM X E (.BinOp a .BitOr b pos) (mBin oOr f g) :=
  e_bin op_or (ok_I0 (fun _ _ _ => rfl) fun x y S h => by unfold oOr; split <;> first | rfl | exact (h _ _ rfl rfl).elim) ha hb
theorem e_bxor (ha : EM X E a f) (hb : EM X E b g) : EM X E (.BinOp a .BitXor b pos) (mBin oXor f g) :=
  e_bin op_xor (ok_I0 (fun _ _ _ => rfl) fun x y S h => by unfold oXor; split <;> first | rfl | exact (h _ _ rfl rfl).elim) ha hb
/-! ### names, constants -/
def mVar (i : Nat) : M := fun l S => match l[i]? with
  | some (some d) => .ok d S
  | _ => .bad
def mC (d : D) : M := fun _ S => .ok d S
theorem e_of_var {e : Expr} {i : Nat} (h : PE X e (tVar i)) : EM X E e (mVar i) := ⟨h.weak fun s H Q ⟨p, l, S, R, L, h⟩ => by
  unfold mVar at h
  split at h
  · rename_i d e
    obtain ⟨v, h1, r⟩ := L.get e
    exact ⟨v, h1, h.val R r⟩
  · exact h.elim⟩
theorem e_of_c {e : Expr} {d : D} {v : V} (h : PE X e (tC v)) (hr : ∀ p n H, Rep X.K p n H d v) : EM X E e (mC d) := ⟨h.weak fun s H Q ⟨p, l, S, R, L, h⟩ => h.val R (hr _ _ _)⟩
theorem e_v (i : Nat) {x : Str} {pos : Pos} (hN : X.N[i]? = some x := by rfl) (hv : Vis X.env.scope x := by first | exact Or.inl rfl | exact Or.inr (Or.inl rfl) | exact Or.inr (Or.inr rfl)) (hd : (x == ("__debug__" : Str)) = false := by decide)
    (hcd : (x == ("__classdict__" : Str)) = false := by decide) : EM X E (.Name x pos) (mVar i) := e_of_var (pe_var hN hv hd hcd)
theorem e_int {i j pos} : EM X E (.Constant (.int i) j pos) (mC (.int i)) := e_of_c pe_int fun _ _ _ => .int _
theorem e_str {i j pos} : EM X E (.Constant (.str i) j pos) (mC (.str i)) := e_of_c pe_str fun _ _ _ => .str _
theorem e_bl {i j pos} : EM X E (.Constant (.bool i) j pos) (mC (.bl i)) := e_of_c pe_bl fun _ _ _ => .bl _
theorem e_non {j pos} : EM X E (.Constant .none j pos) (mC .non) := e_of_c pe_non fun _ _ _ => .non
def oNeg : D → Hs → R D
  | .int i, S => .ok (.int (-i)) S
  | _, _ => .bad
def mUn (op : D → Hs → R D) (f : M) : M := fun l S => (f l S).bind op
theorem e_neg (ha : EM X E a f) : EM X E (.UnaryOp .USub a pos) (mUn oNeg f) := ⟨(pe_un un_neg ha.pe).weak fun s H Q ⟨p, l, S, R, L, h⟩ => T.of R L h fun p1 S1 H1 d v R1 x1 L1 r1 h1 => by
  unfold oNeg at h1
  split at h1
  · cases r1; exact ⟨_, rfl, h1.val R1 (.int _)⟩
  · exact h1.elim⟩
end
end Ly
set_option Elab.async false
set_option linter.all false
set_option maxRecDepth 100000
namespace Ly
open PySem PySem.Spec L2
open PyProof.Rows hiding St
/-! ### data -/
mutual
def D.pd (S : Hs) : Nat → D → Option PyData
  | 0, _ => none
  | _ + 1, .non => some .none
  | _ + 1, .bl b => some (.bool b)
  | _ + 1, .int i => some (.int i)
  | _ + 1, .str x => some (.str x)
  | k + 1, .tup ds => (D.pds S k ds).map .tuple
  | k + 1, .wt ds => (D.pds S k ds).map .tuple
  | k + 1, .ref i => match S[i]? with
    | some (.lst ds) => (D.pds S k ds).map .list
    | some (.rol ds) => (D.pds S k ds).map .list
    | _ => none
  | _ + 1, .cst _ => none
  | _ + 1, .wl _ => none
def D.pds (S : Hs) : Nat → List D → Option (List PyData)
  | _, [] => some []
  | 0, _ :: _ => none
  | k + 1, d :: ds => match D.pd S k d, D.pds S (k + 1) ds with
    | some a, some b => some (a :: b)
    | _, _ => none
end
section
variable {K : PySem.W.Frag} {p : Nat → Addr} {S : Hs} {H : Hp}
mutual
theorem D.pd_dp (R : Real K p S H) : ∀ (k : Nat) (d : D) (v : V) (x : PyData), Rep K p S.length H d v → D.pd S k d = some x → Dp K H v x
  | 0, d, _, _, _, e => by simp [D.pd] at e
  | k + 1, .non, _, _, .non, e => by simp [D.pd] at e; subst e; exact .non
  | k + 1, .bl b, _, _, .bl _, e => by simp [D.pd] at e; subst e; exact .bl _
  | k + 1, .int b, _, _, .int _, e => by simp [D.pd] at e; subst e; exact .int _
  | k + 1, .str b, _, _, .str _, e => by simp [D.pd] at e; subst e; exact .str _
  | k + 1, .tup ds, _, _, .tup t r, e => by
    simp only [D.pd, Option.map_eq_some_iff] at e
    obtain ⟨xs, e, rfl⟩ := e
    exact .tup (SqT.of t) (D.pds_dp R k ds _ _ r e)
  | k + 1, .wt ds, _, _, .wt t r, e => by
    simp only [D.pd, Option.map_eq_some_iff] at e
    obtain ⟨xs, e, rfl⟩ := e
    exact .tup t.sq (D.pds_dp R k ds _ _ r e)
  | k + 1, .ref i, _, _, .ref h, e => by
    simp only [D.pd] at e
    split at e
    · rename_i ds q
      simp only [Option.map_eq_some_iff] at e
      obtain ⟨xs, e, rfl⟩ := e
      obtain ⟨vs, h1, r⟩ := R.lst q
      exact .lst (SqL.of h1) (D.pds_dp R k ds _ _ r e)
    · rename_i ds q
      simp only [Option.map_eq_some_iff] at e
      obtain ⟨xs, e, rfl⟩ := e
      obtain ⟨o, vs, h1, r⟩ := R.ob i _ q
      exact .lst (.inl (.inr ⟨o, h1⟩)) (D.pds_dp R k ds _ _ r e)
    · cases e
  | k + 1, .cst a, _, _, _, e => by simp [D.pd] at e
  | k + 1, .wl a, _, _, _, e => by simp [D.pd] at e
theorem D.pds_dp (R : Real K p S H) : ∀ (k : Nat) (d : List D) (v : List V) (x : List PyData), Reps K p S.length H d v → D.pds S k d = some x → DpAll K H v x
  | k, [], _, _, .nil, e => by cases k <;> (simp [D.pds] at e; subst e; exact .nil)
  | 0, d :: ds, _, _, _, e => by simp [D.pds] at e
  | k + 1, d :: ds, _, _, .cons r s, e => by
    simp only [D.pds] at e
    split at e
    · rename_i a b e1 e2
      cases e
      exact .cons (D.pd_dp R k d _ _ r e1) (D.pds_dp R (k + 1) ds _ _ s e2)
    · cases e
end
end
/-! ### comparisons -/
def cEqS : D → D → Option Bool
  | .int i, .int j => some (decide (i = j))
  | .str i, .str j => some (decide (i = j))
  | .bl i, .bl j => some (decide (i = j))
  | .non, .non => some true
  | .non, .int _ => some false
  | .int _, .non => some false
  | .non, .bl _ => some false
  | .bl _, .non => some false
  | .non, .str _ => some false
  | .str _, .non => some false
  | .int _, .str _ => some false
  | .str _, .int _ => some false
  | .bl _, .str _ => some false
  | .str _, .bl _ => some false
  | _, _ => none
def cEqD (x y : D) (S : Hs) : Option Bool :=
  match cEqS x y with
  | some b => some b
  | none => match D.pd S 70 x, D.pd S 70 y with
    | some a, some b => if SeqAt.shaped a = true ∧ SeqAt.shaped b = true then some (PyData.eqv a b) else none
    | _, _ => none
def oEq (x y : D) (S : Hs) : R D := match cEqD x y S with
  | some b => .ok (.bl b) S
  | none => .bad
def oNe (x y : D) (S : Hs) : R D := match cEqD x y S with
  | some b => .ok (.bl (!b)) S
  | none => .bad
def oLt : D → D → Hs → R D
  | .int i, .int j, S => .ok (.bl (decide (i < j))) S
  | _, _, _ => .bad
def oLe : D → D → Hs → R D
  | .int i, .int j, S => .ok (.bl (decide (i ≤ j))) S
  | _, _, _ => .bad
def oGt : D → D → Hs → R D
  | .int i, .int j, S => .ok (.bl (decide (j < i))) S
  | _, _, _ => .bad
def oGe : D → D → Hs → R D
  | .int i, .int j, S => .ok (.bl (decide (j ≤ i))) S
  | _, _, _ => .bad
def D.isNon : D → Bool
  | .non => true
  | _ => false
def oIs : D → D → Hs → R D
  | x, .non, S => .ok (.bl x.isNon) S
  | .bl a, .bl b, S => .ok (.bl (decide (a = b))) S
  | _, _, _ => .bad
def oIsNot : D → D → Hs → R D
  | x, .non, S => .ok (.bl (!x.isNon)) S
  | .bl a, .bl b, S => .ok (.bl (!decide (a = b))) S
  | _, _, _ => .bad
/-- == of flat values -/
def eqF : D → D → Bool
  | .non, .non => true
  | .bl a, .bl b => a == b
  | .bl a, .int b => (if a then 1 else 0) == b
  | .int a, .bl b => a == (if b then 1 else 0)
  | .int a, .int b => a == b
  | .str a, .str b => a == b
  | _, _ => false
def flatD : D → Bool
  | .non => true
  | .bl _ => true
  | .int _ => true
  | .str _ => true
  | _ => false
def inS (i j : Str) : Bool := match i with
  | ⟨⟨[c]⟩⟩ => decide (c ∈ j.cps.toList)
  | _ => !(Builtin.Str.occurrences j i 0 j.length 1).isEmpty
def D.key : D → Option Key
  | .int i => some (.inl i)
  | .str x => some (.inr x)
  | _ => none
def D.keys : List D → Option (List Key)
  | [] => some []
  | d :: ds => match d.key, D.keys ds with
    | some k, some l => some (k :: l)
    | _, _ => none
def D.tkey : D → Option (List Key)
  | .tup ds => D.keys ds
  | _ => none
def getK {κ : Type} [DecidableEq κ] (kvs : List (κ × D)) (k : κ) : Option D := (kvs.find? fun kv => decide (kv.1 = k)).map (·.2)
def setK {κ : Type} [DecidableEq κ] (kvs : List (κ × D)) (k : κ) (v : D) : List (κ × D) :=
  if (kvs.any fun kv => decide (kv.1 = k)) = true then kvs.map fun kv => if kv.1 = k then (kv.1, v) else kv else kvs ++ [(k, v)]
/-- d.get(y) of a dict; none: no dict, or no key of its kind -/
def dGet (x y : D) (S : Hs) : Option (Option D) := match x with
  | .ref i => match S[i]? with
    | some (.dic kvs) => match y.key with
      | some k => some (getK kvs k)
      | none => none
    | some (.dit kvs) => match y.tkey with
      | some k => some (getK kvs k)
      | none => none
    | _ => none
  | _ => none
def cIn (x y : D) (S : Hs) : Option Bool := match x, y with
  | .str i, .str j => some (inS i j)
  | x, .tup ds => if flatD x && ds.all flatD then some (ds.any fun z => eqF z x) else none
  | x, .wt ds => if flatD x && ds.all flatD then some (ds.any fun z => eqF z x) else none
  | x, .ref i => match S[i]? with
    | some (.lst ds) => if flatD x && ds.all flatD then some (ds.any fun z => eqF z x) else
      match D.pd S 70 x, D.pd S 70 (.ref i) with
      | some a, some (.list b) => if SeqAt.shaped a = true ∧ SeqAt.shaped (.list b) = true then some (b.any fun z => z.eqv a) else none
      | _, _ => none
    | some (.dic kvs) => (dGet (.ref i) x S).map (·.isSome)
    | some (.dit kvs) => (dGet (.ref i) x S).map (·.isSome)
    | _ => none
  | _, _ => none
def oIn (x y : D) (S : Hs) : R D := match cIn x y S with
  | some b => .ok (.bl b) S
  | none => .bad
def oNotIn (x y : D) (S : Hs) : R D := match cIn x y S with
  | some b => .ok (.bl (!b)) S
  | none => .bad
section
variable {K : PySem.W.Frag} {E : St → XK} {p : Nat → Addr} {S : Hs} {H : Hp} {n : Nat} {pi : Nat → Addr}
theorem cEqS_V {x y : D} {v u : V} {b : Bool} (rx : Rep K pi n H x v) (ry : Rep K pi n H y u) (h : cEqS x y = some b) : scal v u = true ∧ decide (v = u) = b := by
  unfold cEqS at h
  split at h <;> first | (cases h; done) | (cases rx; cases ry; cases h; exact ⟨rfl, by simp⟩)
theorem ok_eq : OpOk K E (orR rEq (rEqD K)) oEq := by
  intro p S H x y v u Q R rx ry h
  unfold oEq at h
  split at h
  · rename_i b e
    unfold cEqD at e
    split at e
    · rename_i c e1
      cases e
      obtain ⟨h1, h2⟩ := cEqS_V rx ry e1
      exact .inl ⟨h1, by rw [h2]; exact h.val R (.bl _)⟩
    · split at e
      · rename_i a c e1 e2
        split at e
        · rename_i hs
          cases e
          exact .inr ⟨a, c, D.pd_dp R _ _ _ _ rx e1, D.pd_dp R _ _ _ _ ry e2, hs.1, hs.2, h.val R (.bl _)⟩
        · cases e
      · cases e
  · exact h.elim
theorem ok_ne : OpOk K E (orR rNe (rNeD K)) oNe := by
  intro p S H x y v u Q R rx ry h
  unfold oNe at h
  split at h
  · rename_i b e
    unfold cEqD at e
    split at e
    · rename_i c e1
      cases e
      obtain ⟨h1, h2⟩ := cEqS_V rx ry e1
      exact .inl ⟨h1, by rw [h2]; exact h.val R (.bl _)⟩
    · split at e
      · rename_i a c e1 e2
        split at e
        · rename_i hs
          cases e
          exact .inr ⟨a, c, D.pd_dp R _ _ _ _ rx e1, D.pd_dp R _ _ _ _ ry e2, hs.1, hs.2, h.val R (.bl _)⟩
        · cases e
      · cases e
  · exact h.elim
theorem ok_B0 {op : D → D → Hs → R D} {gg : Int → Int → Bool} (h1 : ∀ i j S, op (.int i) (.int j) S = .ok (.bl (gg i j)) S) (h2 : ∀ x y S, (∀ i j, x = .int i → y = .int j → False) → op x y S = .bad) : OpOk K E (rI0 fun i j => .bl (gg i j)) op := by
  intro p S H x y v u Q R rx ry h
  by_cases e : ∃ i j, x = .int i ∧ y = .int j
  · obtain ⟨i, j, rfl, rfl⟩ := e
    rw [h1] at h
    cases rx; cases ry
    exact ⟨i, j, rfl, rfl, h.val R (.bl _)⟩
  · rw [h2 x y S fun i j a b => e ⟨i, j, a, b⟩] at h; exact h.elim
theorem ok_lt : OpOk K E (rI0 fun i j => .bl (decide (i < j))) oLt := ok_B0 (fun _ _ _ => rfl) fun x y S h => by unfold oLt; split <;> first | rfl | exact (h _ _ rfl rfl).elim
theorem ok_le : OpOk K E (rI0 fun i j => .bl (decide (i ≤ j))) oLe := ok_B0 (fun _ _ _ => rfl) fun x y S h => by unfold oLe; split <;> first | rfl | exact (h _ _ rfl rfl).elim
theorem ok_gt : OpOk K E (rI0 fun i j => .bl (decide (j < i))) oGt := ok_B0 (fun _ _ _ => rfl) fun x y S h => by unfold oGt; split <;> first | rfl | exact (h _ _ rfl rfl).elim
theorem ok_ge : OpOk K E (rI0 fun i j => .bl (decide (j ≤ i))) oGe := ok_B0 (fun _ _ _ => rfl) fun x y S h => by unfold oGe; split <;> first | rfl | exact (h _ _ rfl rfl).elim
theorem isNon_V {x : D} {v : V} (rx : Rep K pi n H x v) : x.isNon = decide (v = .non) := by cases rx <;> rfl
abbrev rIsNA : R2 := fun x y H Q => y = .non ∧ Q (.bl (decide (x = .non))) H
abbrev rNotNA : R2 := fun x y H Q => y = .non ∧ Q (.bl (!decide (x = .non))) H
theorem ok_is : OpOk K E (orR rIsNA rIsB) oIs := by
  intro p S H x y v u Q R rx ry h
  unfold oIs at h
  split at h
  · cases ry; exact .inl ⟨rfl, by rw [← isNon_V rx]; exact h.val R (.bl _)⟩
  · cases rx; cases ry; exact .inr ⟨_, _, rfl, rfl, h.val R (.bl _)⟩
  · exact h.elim
theorem ok_isnot : OpOk K E (orR rNotNA rNotB) oIsNot := by
  intro p S H x y v u Q R rx ry h
  unfold oIsNot at h
  split at h
  · cases ry; exact .inl ⟨rfl, by rw [← isNon_V rx]; exact h.val R (.bl _)⟩
  · cases rx; cases ry; exact .inr ⟨_, _, rfl, rfl, h.val R (.bl _)⟩
  · exact h.elim
theorem flat_V {x : D} {v : V} (rx : Rep K pi n H x v) (h : flatD x = true) : flatV v = true := by cases rx <;> first | rfl | cases h
theorem eqF_V {x y : D} {v u : V} (rx : Rep K pi n H x v) (ry : Rep K pi n H y u) (h : flatD y = true) : eqF x y = eqV v u := by cases rx <;> cases ry <;> first | rfl | cases h
theorem flats_V {ds : List D} {vs : List V} (r : Reps K pi n H ds vs) (h : ds.all flatD = true) : vs.all flatV = true := by
  induction ds generalizing vs with
  | nil => cases r; rfl
  | cons d ds ih =>
    cases r with
    | cons r s =>
      rw [List.all_cons, Bool.and_eq_true] at h ⊢
      exact ⟨flat_V r h.1, ih s h.2⟩
theorem any_V {ds : List D} {vs : List V} {x : D} {v : V} (r : Reps K pi n H ds vs) (rx : Rep K pi n H x v) (h : flatD x = true) : (ds.any fun z => eqF z x) = inV v vs := by
  unfold inV
  induction ds generalizing vs with
  | nil => cases r; rfl
  | cons d ds ih =>
    cases r with
    | cons r s => rw [List.any_cons, List.any_cons, eqF_V r rx h, ih s]
theorem key_V {y : D} {u : V} {k : Key} (ry : Rep K pi n H y u) (h : y.key = some k) : u = kV k := by
  unfold D.key at h
  split at h <;> first | (cases ry; cases h; rfl) | cases h
theorem keys_V {ds : List D} {vs : List V} {k : List Key} (r : Reps K pi n H ds vs) (h : D.keys ds = some k) : vs = k.map kV := by
  induction ds generalizing vs k with
  | nil => cases r; cases h; rfl
  | cons d ds ih =>
    cases r with
    | cons r s =>
      simp only [D.keys] at h
      split at h
      · rename_i a b e1 e2
        cases h
        rw [key_V r e1, ih s e2]; rfl
      · cases h
def GetRel (K : PySem.W.Frag) (p : Nat → Addr) (n : Nat) (H : Hp) (o : Option D) (w : Option V) : Prop := match o with
  | some d => ∃ z, w = some z ∧ Rep K p n H d z
  | none => w = none
theorem getK_V {κ : Type} [DecidableEq κ] {kvs : List (κ × D)} {ks : List (κ × V)} (h : ks.map (·.1) = kvs.map (·.1)) (r : Reps K pi n H (kvs.map (·.2)) (ks.map (·.2))) (k : κ) : GetRel K pi n H (getK kvs k) (valV ks k) := by
  induction kvs generalizing ks with
  | nil => cases ks with | nil => exact rfl | cons a b => cases h
  | cons a kvs ih =>
    cases ks with
    | nil => cases h
    | cons b ks =>
      simp only [List.map_cons, List.cons.injEq] at h
      cases r with
      | cons r s =>
        have := ih h.2 s
        unfold getK valV at this ⊢
        by_cases e : a.1 = k
        · rw [List.find?_cons_of_pos (by simpa using e)]
          refine ⟨b.2, ?_, r⟩
          rw [List.find?_cons_of_pos (by simpa [h.1] using e)]; rfl
        · rw [List.find?_cons_of_neg (by simpa using e), List.find?_cons_of_neg (by simpa [h.1] using e)]
          exact this
theorem dGet_V {x y : D} {v u : V} {o : Option D} (R : Real K p S H) (rx : Rep K p S.length H x v) (ry : Rep K p S.length H y u) (h : dGet x y S = some o) :
    ∃ a w, v = .ref a ∧ DGet H a u w ∧ GetRel K p S.length H o w := by
  cases x with
  | ref i =>
    cases rx
    simp only [dGet] at h
    split at h
    · rename_i kvs q
      obtain ⟨ks, h1, h2, h3⟩ := R.ob i _ q
      split at h
      · rename_i k ek
        cases h
        exact ⟨_, _, rfl, .inl ⟨ks, k, .inl h1, key_V ry ek, rfl⟩, getK_V h2 h3 k⟩
      · cases h
    · rename_i kvs q
      obtain ⟨ks, h1, h2, h3⟩ := R.ob i _ q
      split at h
      · rename_i k ek
        cases h
        unfold D.tkey at ek
        split at ek
        · cases ry with
          | @tup b _ vs t r =>
          exact ⟨_, _, rfl, .inr ⟨ks, k, b, .inl h1, rfl, by rw [← keys_V r ek]; exact t, rfl⟩, getK_V h2 h3 k⟩
        · cases ek
      · cases h
    · cases h
  | _ => cases h
abbrev rDIn : R2 := fun x y H Q => ∃ a o, y = .ref a ∧ DGet H a x o ∧ Q (.bl o.isSome) H
abbrev rDNotIn : R2 := fun x y H Q => ∃ a o, y = .ref a ∧ DGet H a x o ∧ Q (.bl (!o.isSome)) H
abbrev rInStr : R2 := fun x y H Q => ∃ i j, x = V.str i ∧ y = V.str j ∧ Q (V.bl !(Builtin.Str.occurrences j i 0 j.length 1).isEmpty) H
abbrev rInSign : R2 := fun x y H Q => ∃ (c : Nat) (z : Str), x = .str ⟨#[c]⟩ ∧ y = .str z ∧ Q (.bl (decide (c ∈ z.cps.toList))) H
abbrev rInAll (K : PySem.W.Frag) : R2 := orR rInSign (orR rInStr (orR (rIn K false) (orR (rInD K) rDIn)))
abbrev rNotInStr : R2 := fun x y H Q => ∃ i j, x = V.str i ∧ y = V.str j ∧ Q (V.bl !(!(Builtin.Str.occurrences j i 0 j.length 1).isEmpty)) H
abbrev rNotInSign : R2 := fun x y H Q => ∃ (c : Nat) (z : Str), x = .str ⟨#[c]⟩ ∧ y = .str z ∧ Q (.bl (!decide (c ∈ z.cps.toList))) H
abbrev rNotInAll (K : PySem.W.Frag) : R2 := orR rNotInSign (orR rNotInStr (orR (rIn K true) (orR (rNotInD K) rDNotIn)))
theorem or_din {X : Cx} (hu : X.A.units + 1 < cLine) : OpR X (compareOp .In) rDIn := by
  intro pins s σ H x y v u Q I rx ry h
  obtain ⟨a, o, rfl, g, q⟩ := h
  obtain rfl : u = Value.ref a := ry
  exact d_in hu I g rx fun s3 I3 => ⟨.bl o.isSome, H, I3, rfl, q⟩
theorem or_dnotin {X : Cx} (hu : X.A.units + 1 < cLine) : OpR X (compareOp .NotIn) rDNotIn := by
  intro pins s σ H x y v u Q I rx ry h
  obtain ⟨a, o, rfl, g, q⟩ := h
  obtain rfl : u = Value.ref a := ry
  exact d_notIn hu I g rx fun s3 I3 => ⟨.bl (!o.isSome), H, I3, rfl, q⟩
theorem cIn_V {x y : D} {v u : V} {b : Bool} (R : Real K p S H) (rx : Rep K p S.length H x v) (ry : Rep K p S.length H y u) (h : cIn x y S = some b) :
    (∃ (c : Nat) (z : Str), v = .str ⟨#[c]⟩ ∧ u = .str z ∧ b = decide (c ∈ z.cps.toList)) ∨ (∃ i j, v = V.str i ∧ u = V.str j ∧ b = !(Builtin.Str.occurrences j i 0 j.length 1).isEmpty) ∨
    (∃ q xs, u = .ref q ∧ (SqL K H q xs ∨ SqT K H q xs) ∧ flatV v = true ∧ xs.all flatV = true ∧ b = inV v xs) ∨
    (∃ d ds, Dp K H v d ∧ Dp K H u (.list ds) ∧ SeqAt.shaped d = true ∧ SeqAt.shaped (.list ds) = true ∧ b = ds.any fun z => z.eqv d) ∨
    (∃ a o, u = .ref a ∧ DGet H a v o ∧ b = o.isSome) := by
  have dic : ∀ i, y = .ref i → ((dGet (.ref i) x S).map (·.isSome)) = some b → ∃ a o, u = .ref a ∧ DGet H a v o ∧ b = o.isSome := fun i e hh => by
    subst e
    rw [Option.map_eq_some_iff] at hh
    obtain ⟨o, hh, rfl⟩ := hh
    obtain ⟨a, w, e1, g, m⟩ := dGet_V R ry rx hh
    refine ⟨a, w, e1, g, ?_⟩
    cases o with
    | none => rw [m]; rfl
    | some d => obtain ⟨z, e, _⟩ := m; rw [e]; rfl
  unfold cIn at h
  split at h
  · rename_i i j
    cases h; cases rx; cases ry
    unfold inS
    split
    · exact .inl ⟨_, _, rfl, rfl, rfl⟩
    · exact .inr (.inl ⟨_, _, rfl, rfl, rfl⟩)
  · split at h
    · rename_i hf
      rw [Bool.and_eq_true] at hf
      cases h
      cases ry with
      | tup t r => exact .inr (.inr (.inl ⟨_, _, rfl, .inr (SqT.of t), flat_V rx hf.1, flats_V r hf.2, any_V r rx hf.1⟩))
    · cases h
  · split at h
    · rename_i hf
      rw [Bool.and_eq_true] at hf
      cases h
      cases ry with
      | wt t r => exact .inr (.inr (.inl ⟨_, _, rfl, .inr t.sq, flat_V rx hf.1, flats_V r hf.2, any_V r rx hf.1⟩))
    · cases h
  · rename_i i
    split at h
    · rename_i ds q
      obtain ⟨vs, h1, r⟩ := R.lst q
      split at h
      · rename_i hf
        rw [Bool.and_eq_true] at hf
        cases h
        cases ry
        exact .inr (.inr (.inl ⟨_, _, rfl, .inl (SqL.of h1), flat_V rx hf.1, flats_V r hf.2, any_V r rx hf.1⟩))
      · split at h
        · rename_i a c e1 e2
          split at h
          · rename_i hs
            cases h
            exact .inr (.inr (.inr (.inl ⟨a, c, D.pd_dp R _ _ _ _ rx e1, D.pd_dp R _ _ _ _ ry e2, hs.1, hs.2, rfl⟩)))
          · cases h
        · cases h
    · exact .inr (.inr (.inr (.inr (dic i rfl h))))
    · exact .inr (.inr (.inr (.inr (dic i rfl h))))
    · cases h
  · cases h
theorem ok_in : OpOk K E (rInAll K) oIn := by
  intro p S H x y v u Q R rx ry h
  unfold oIn at h
  split at h
  · rename_i b e
    have hq : Q (.bl b) H := h.val R (.bl _)
    rcases cIn_V R rx ry e with ⟨c, z, h1, h2, rfl⟩ | ⟨i, j, h1, h2, rfl⟩ | ⟨q, xs, h1, h2, h3, h4, rfl⟩ | ⟨d, ds, h1, h2, h3, h4, rfl⟩ | ⟨a, o, h1, h2, rfl⟩
    · exact .inl ⟨c, z, h1, h2, hq⟩
    · exact .inr (.inl ⟨i, j, h1, h2, hq⟩)
    · exact .inr (.inr (.inl ⟨q, xs, h1, h2, h3, h4, hq⟩))
    · exact .inr (.inr (.inr (.inl ⟨d, ds, h1, h2, h3, h4, hq⟩)))
    · exact .inr (.inr (.inr (.inr ⟨a, o, h1, h2, hq⟩)))
  · exact h.elim
theorem ok_notin : OpOk K E (rNotInAll K) oNotIn := by
  intro p S H x y v u Q R rx ry h
  unfold oNotIn at h
  split at h
  · rename_i b e
    have hq : Q (.bl (!b)) H := h.val R (.bl _)
    rcases cIn_V R rx ry e with ⟨c, z, h1, h2, rfl⟩ | ⟨i, j, h1, h2, rfl⟩ | ⟨q, xs, h1, h2, h3, h4, rfl⟩ | ⟨d, ds, h1, h2, h3, h4, rfl⟩ | ⟨a, o, h1, h2, rfl⟩
    · exact .inl ⟨c, z, h1, h2, hq⟩
    · exact .inr (.inl ⟨i, j, h1, h2, hq⟩)
    · exact .inr (.inr (.inl ⟨q, xs, h1, h2, h3, h4, hq⟩))
    · exact .inr (.inr (.inr (.inl ⟨d, ds, h1, h2, h3, h4, hq⟩)))
    · exact .inr (.inr (.inr (.inr ⟨a, o, h1, h2, hq⟩)))
  · exact h.elim
end
/-! ### a comparison as a value and as a test -/
def mCmp (op : D → D → Hs → R D) (f g : M) : MB := fun l S => (f l S).bind fun x S1 => (g l S1).bind fun y S2 => (op x y S2).bind fun d S3 => match d with
  | .bl b => .ok b S3
  | _ => .bad
section
variable {X : Cx} {E : St → XK} {a b : Expr} {f g : M} {pos : Pos} {r : R2} {op : D → D → Hs → R D} {o : CmpOp}
theorem e_cmp (ho : OpR X (compareOp o) r) (hk : OpOk X.K E r op) (ha : EM X E a f) (hb : EM X E b g) (h1 : behindInMarks o b = false) : EM X E (.Compare a [o] [b] pos) (mBin op f g) :=
  ⟨(pe_cmpR ho ha.pe hb.pe h1).weak fun s H Q ⟨p, l, S, R, L, h⟩ => T.of R L h fun p1 S1 H1 d v R1 x1 L1 r1 h1 => T.of R1 L1 h1 fun p2 S2 H2 d2 v2 R2 x2 L2 r2 h2 => hk p2 S2 H2 _ _ _ _ Q R2 (r1.ext x2 _ _) r2 h2⟩
/-- the operation's end is asked for a truth -/
theorem OpOk.test (hk : OpOk X.K E r op) {p : Nat → Addr} {S : Hs} {H : Hp} {x y : D} {v u : V} {Q : Bool → Hp → Prop} (R : Real X.K p S H) (rx : Rep X.K p S.length H x v) (ry : Rep X.K p S.length H y u)
    (h : Post X.K E S.length p H ((op x y S).bind fun d S3 => match d with | .bl b => Ly.R.ok b S3 | _ => Ly.R.bad) (QB Q)) : r v u H fun x H' => ∃ k, x = .bl k ∧ Q k H' := by
  refine hk p S H x y v u _ R rx ry (h.bind.mono fun d S3 p3 H3 _ x3 R3 q w rw' => ?_)
  cases rw' with
  | bl b => exact ⟨b, rfl, Post.ok (Q := QB Q) q Ext.refl R3⟩
  | _ => exact q.elim
theorem b_cmp (ho : OpR X (compareOp o) r) (hk : OpOk X.K E r op) (ha : EM X E a f) (hb : EM X E b g) (h1 : behindInMarks o b = false) : BM X E (.Compare a [o] [b] pos) (mCmp op f g) :=
  ⟨(pt_cmpR ho ha.pe hb.pe h1).weak fun s H Q ⟨p, l, S, R, L, h⟩ => T.of R L h fun p1 S1 H1 d v R1 x1 L1 r1 h1 => T.of R1 L1 h1 fun p2 S2 H2 d2 v2 R2 x2 L2 r2 h2 => hk.test R2 (r1.ext x2 _ _) r2 h2⟩
end
end Ly
set_option Elab.async false
set_option linter.all false
set_option maxRecDepth 100000
namespace Ly
open PySem PySem.Spec L2
open PyProof.Rows hiding St
/-! ### argument lists -/
def lNil : ML := fun _ S => .ok [] S
def lCons (f : M) (g : ML) : ML := fun l S => (f l S).bind fun x S1 => (g l S1).bind fun xs S2 => .ok (x :: xs) S2
section
variable {X : Cx} {E : St → XK} {e : Expr} {es : List Expr} {f : M} {g : ML} {pos : Pos}
theorem l_nil : LM X E [] lNil := ⟨pa_nil.weak fun s H Q ⟨p, l, S, R, L, h⟩ => Post.ok h Ext.refl R _ .nil⟩
theorem l_cons (ha : EM X E e f) (hb : LM X E es g) (hs : starEach (e :: es) X.env = (false, eval e X.env) :: starEach es X.env := by rfl) : LM X E (e :: es) (lCons f g) :=
  ⟨(pa_cons ha.pe hb.pa hs).weak fun s H Q ⟨p, l, S, R, L, h⟩ => T.of R L h fun p1 S1 H1 d v R1 x1 L1 r1 h1 => TL.of R1 L1 h1 fun p2 S2 H2 d2 v2 R2 x2 L2 r2 h2 => Post.ok h2 Ext.refl R2 _ (.cons (r1.ext x2 _ _) r2)⟩
/-! ### tests -/
def tru (x : D) (S : Hs) : Option Bool := match x with
  | .non => some false
  | .bl b => some b
  | .int i => some (i != 0)
  | .str x => if x.length ≤ sizeLine then some ((x.length : Int) != 0) else none
  | .tup xs => some (!xs.isEmpty)
  | .wt xs => some (!xs.isEmpty)
  | .ref i => match S[i]? with
    | some (.lst xs) => some (!xs.isEmpty)
    | some (.rol xs) => some (!xs.isEmpty)
    | some (.dic xs) => some (!xs.isEmpty)
    | _ => none
  | .wl xs => some (!xs.isEmpty)
  | .cst _ => none
def oTru (x : D) (S : Hs) : R Bool := match tru x S with
  | some b => .ok b S
  | none => .bad
def oNot (x : D) (S : Hs) : R D := match tru x S with
  | some b => .ok (.bl (!b)) S
  | none => .bad
theorem empty_len {α β : Type} {xs : List α} {ys : List β} (h : xs.length = ys.length) : xs.isEmpty = ys.isEmpty := by cases xs <;> cases ys <;> first | rfl | simp at h
theorem tru_V {K : PySem.W.Frag} {p : Nat → Addr} {S : Hs} {H : Hp} {x : D} {v : V} {b : Bool} (R : Real K p S H) (rx : Rep K p S.length H x v) (h : tru x S = some b) : TruV K v H b := by
  unfold tru at h
  cases rx with
  | non => cases h; rfl
  | bl b => cases h; rfl
  | int i => cases h; rfl
  | str x => simp only at h; split at h <;> cases h; exact ⟨by assumption, rfl⟩
  | tup t r => cases h; exact .inr (.inl ⟨_, SqT.of t, by rw [empty_len r.len]⟩)
  | wt t r => cases h; exact .inr (.inl ⟨_, t.sq, by rw [empty_len r.len]⟩)
  | wl t r => cases h; exact .inl ⟨_, t.sq, by rw [empty_len r.len]⟩
  | ref hi =>
    simp only at h
    split at h
    · rename_i q
      obtain ⟨vs, h1, r⟩ := R.lst q
      cases h; exact .inl ⟨_, SqL.of h1, by rw [empty_len r.len]⟩
    · rename_i q
      obtain ⟨o, vs, h1, r⟩ := R.ob _ _ q
      cases h; exact .inl ⟨_, .inl (.inr ⟨o, h1⟩), by rw [empty_len r.len]⟩
    · rename_i q
      obtain ⟨ks, h1, h2, h3⟩ := R.ob _ _ q
      cases h; exact .inr (.inr ⟨_, h1, by rw [empty_len (show ks.length = _ from by simpa using congrArg List.length h2)]⟩)
    · cases h
  | cst a => cases h
def mTru (f : M) : MB := fun l S => (f l S).bind oTru
theorem oTru_of {K : PySem.W.Frag} {p : Nat → Addr} {S : Hs} {H : Hp} {x : D} {v : V} {Q : Bool → Hp → Prop} (R : Real K p S H) (rx : Rep K p S.length H x v) (h : Post K E S.length p H (oTru x S) (QB Q)) : ∃ k, TruV K v H k ∧ Q k H := by
  unfold oTru at h
  split at h
  · rename_i b e; exact ⟨b, tru_V R rx e, Post.ok (Q := QB Q) h Ext.refl R⟩
  · exact h.elim
theorem b_tru {a : Expr} (ha : EM X E a f) (he : ∀ whole, isTrue a X.env whole = (do let v ← whole; standAt a.pos; holding [v] (truthy v)) := by intro _; rfl) : BM X E a (mTru f) :=
  ⟨(pt_truth ha.pe he).weak fun s H Q ⟨p, l, S, R, L, h⟩ => T.of R L h fun p1 S1 H1 d v R1 x1 L1 r1 h1 => oTru_of R1 r1 h1⟩
def mNotB (f : MB) : MB := fun l S => (f l S).bind fun b S1 => .ok (!b) S1
def mAndB (f g : MB) : MB := fun l S => (f l S).bind fun b S1 => if b = true then g l S1 else .ok false S1
def mOrB (f g : MB) : MB := fun l S => (f l S).bind fun b S1 => if b = true then .ok true S1 else g l S1
theorem TB.last {K : PySem.W.Frag} {s : St} {H : Hp} {f : MB} {p : Nat → Addr} {l : Ls} {S : Hs} {Q : Bool → Hp → Prop} (R : Real K p S H) (L : Sl K p S.length H l s) (h : Post K E S.length p H (f l S) (QB Q)) : TB K E f s H Q := ⟨p, l, S, R, L, h⟩
variable {a b : Expr} {rest : List Expr} {fb gb : MB}
theorem b_not (ha : BM X E a fb) : BM X E (.UnaryOp .Not a pos) (mNotB fb) :=
  ⟨(pt_not ha.pt).weak fun s H Q ⟨p, l, S, R, L, h⟩ => TB.of R L h fun p1 S1 H1 b R1 x1 L1 h1 => Post.ok (Q := QB Q) h1 Ext.refl R1⟩
theorem w_and1 (ha : BM X E a fb) : BW X E (.BoolOp .And [a] pos) fb := ⟨pw_and1 ha.pt⟩
theorem w_or1 (ha : BM X E a fb) : BW X E (.BoolOp .Or [a] pos) fb := ⟨pw_or1 ha.pt⟩
theorem w_and (ha : BM X E a fb) (hb : BW X E (.BoolOp .And (b :: rest) pos) gb) : BW X E (.BoolOp .And (a :: b :: rest) pos) (mAndB fb gb) :=
  ⟨(pw_and ha.pt hb.pw).weak fun s H Q ⟨p, l, S, R, L, h⟩ => TB.of R L h fun p1 S1 H1 b R1 x1 L1 h1 => by
    cases b with
    | true => exact TB.last R1 L1 h1
    | false => exact Post.ok (Q := QB Q) h1 Ext.refl R1⟩
theorem w_or (ha : BM X E a fb) (hb : BW X E (.BoolOp .Or (b :: rest) pos) gb) : BW X E (.BoolOp .Or (a :: b :: rest) pos) (mOrB fb gb) :=
  ⟨(pw_or ha.pt hb.pw).weak fun s H Q ⟨p, l, S, R, L, h⟩ => TB.of R L h fun p1 S1 H1 b R1 x1 L1 h1 => by
    cases b with
    | false => exact TB.last R1 L1 h1
    | true => exact Post.ok (Q := QB Q) h1 Ext.refl R1⟩
theorem b_of {e : Expr} (h : BW X E e fb) : BM X E e fb := ⟨h.pw.pt⟩
/-! ### as values -/
def mAnd (f g : M) : M := fun l S => (f l S).bind fun x S1 => (oTru x S1).bind fun b S2 => if b = true then g l S2 else .ok x S2
def mOr (f g : M) : M := fun l S => (f l S).bind fun x S1 => (oTru x S1).bind fun b S2 => if b = true then .ok x S2 else g l S2
def mIf (c : MB) (f g : M) : M := fun l S => (c l S).bind fun b S1 => if b = true then f l S1 else g l S1
variable {h' : M} {t : List Expr}
theorem oTru_bind {β : Type} {K : PySem.W.Frag} {p : Nat → Addr} {S : Hs} {H : Hp} {x : D} {v : V} {k : Bool → Hs → R β} {QQ : β → Hs → (Nat → Addr) → Hp → Prop} (R : Real K p S H) (rx : Rep K p S.length H x v)
    (h : Post K E S.length p H ((oTru x S).bind k) QQ) : ∃ b, TruV K v H b ∧ Post K E S.length p H (k b S) QQ := by
  unfold oTru at h
  split at h
  · rename_i b e; exact ⟨b, tru_V R rx e, h⟩
  · exact h.elim
theorem e_one {op : BoolOp} (ha : EM X E a f) : EM X E (.BoolOp op [a] pos) f := ⟨pe_one ha.pe⟩
theorem e_and {g : M} (ha : EM X E a f) (hb : EM X E (.BoolOp .And (b :: rest) pos) g) : EM X E (.BoolOp .And (a :: b :: rest) pos) (mAnd f g) :=
  ⟨(pe_andT ha.pe hb.pe).weak fun s H Q ⟨p, l, S, R, L, h⟩ => T.of R L h fun p1 S1 H1 d v R1 x1 L1 r1 h1 => by
    obtain ⟨k, hk, h2⟩ := oTru_bind R1 r1 h1
    refine ⟨k, hk, ?_⟩
    cases k with
    | true => exact T.last R1 L1 h2
    | false => exact Post.val h2 R1 r1⟩
theorem e_or {g : M} (ha : EM X E a f) (hb : EM X E (.BoolOp .Or (b :: rest) pos) g) : EM X E (.BoolOp .Or (a :: b :: rest) pos) (mOr f g) :=
  ⟨(pe_orT ha.pe hb.pe).weak fun s H Q ⟨p, l, S, R, L, h⟩ => T.of R L h fun p1 S1 H1 d v R1 x1 L1 r1 h1 => by
    obtain ⟨k, hk, h2⟩ := oTru_bind R1 r1 h1
    refine ⟨k, hk, ?_⟩
    cases k with
    | false => exact T.last R1 L1 h2
    | true => exact Post.val h2 R1 r1⟩
theorem e_not (ha : EM X E a f) : EM X E (.UnaryOp .Not a pos) (mUn oNot f) :=
  ⟨(pe_notT ha.pe).weak fun s H Q ⟨p, l, S, R, L, h⟩ => T.of R L h fun p1 S1 H1 d v R1 x1 L1 r1 h1 => by
    unfold oNot at h1
    split at h1
    · rename_i b e; exact ⟨b, tru_V R1 r1 e, h1.val R1 (.bl _)⟩
    · exact h1.elim⟩
theorem e_if {c : Expr} {g : M} (hc : BM X E c fb) (ha : EM X E a f) (hb : EM X E b g) : EM X E (.IfExp c a b pos) (mIf fb f g) :=
  ⟨(pe_ifExp hc.pt ha.pe hb.pe).weak fun s H Q ⟨p, l, S, R, L, h⟩ => TB.of R L h fun p1 S1 H1 b R1 x1 L1 h1 => by
    cases b with
    | true => exact T.last R1 L1 h1
    | false => exact T.last R1 L1 h1⟩
end
/-! ### subscripts -/
def oIx (x y : D) (S : Hs) : R D := match x, y with
  | .str z, .int i => if z.length ≤ sizeLine then (match atI z.cps.toList i with
    | some c => .ok (.str ⟨#[c]⟩) S
    | none => .bad) else .bad
  | .tup xs, .int i => match atI xs i with
    | some d => .ok d S
    | none => .bad
  | .wt xs, .int i => match atI xs i with
    | some d => .ok d S
    | none => .bad
  | .wl xs, .int i => match atI xs i with
    | some d => .ok d S
    | none => .bad
  | .ref j, y => match S[j]? with
    | some (.lst xs) => (match y with
      | .int i => (match atI xs i with
        | some d => .ok d S
        | none => .bad)
      | _ => .bad)
    | some (.rol xs) => (match y with
      | .int i => (match atI xs i with
        | some d => .ok d S
        | none => .bad)
      | _ => .bad)
    | some (.dic _) => (match dGet x y S with
      | some (some d) => .ok d S
      | _ => .bad)
    | some (.dit _) => (match dGet x y S with
      | some (some d) => .ok d S
      | _ => .bad)
    | _ => .bad
  | _, _ => .bad
abbrev rIxDic : R2 := fun x y H Q => ∃ a v, x = .ref a ∧ DGet H a y (some v) ∧ Q v H
theorem ix_dic {X : Cx} (hu : X.A.units + 1 < cLine) : IxR X rIxDic := by
  intro value slice pins s σ H x y v u Q I rx ry h hs
  obtain ⟨a, w, rfl, g, q⟩ := h
  obtain rfl : v = Value.ref a := rx
  exact tail_any (dict_typeIs I g) PySem.F.slot_dict_getitem.lookup (d_getItem hu I g ry fun w' s3 I3 rw' => ⟨w, H, I3, rw', q⟩) hs
abbrev rIxAll (K : PySem.W.Frag) : R2 := orR rIxS (orR (rIxL K) (orR (rIxT K) rIxDic))
theorem ix_all {X : Cx} (hu : X.A.units + 1 < cLine) : IxR X (rIxAll X.K) := IxR.or ix_str (IxR.or ix_list (IxR.or ix_tup (ix_dic hu)))
section
variable {K : PySem.W.Frag} {E : St → XK} {p : Nat → Addr} {S : Hs} {H : Hp} {n : Nat} {pi : Nat → Addr}
theorem Reps.atI {ds : List D} {vs : List V} (h : Reps K pi n H ds vs) {i : Int} {d : D} (e : atI ds i = some d) : ∃ v, L2.atI vs i = some v ∧ Rep K pi n H d v := by
  unfold L2.atI at e ⊢
  rw [← h.len]
  cases q : ixN ds.length i with
  | none => rw [q] at e; cases e
  | some j =>
    rw [q] at e
    exact h.get e
theorem ok_ix : OpOk K E (rIxAll K) oIx := by
  intro p S H x y v u Q R rx ry h
  unfold oIx at h
  split at h
  · split at h
    · rename_i hl
      split at h
      · rename_i c e; cases rx; cases ry; exact .inl ⟨_, _, c, rfl, rfl, hl, e, h.val R (.str _)⟩
      · exact h.elim
    · exact h.elim
  · split at h
    · rename_i d e
      cases ry
      cases rx with
      | tup t r =>
      obtain ⟨w, e2, r2⟩ := r.atI e
      exact .inr (.inr (.inl ⟨_, _, _, w, rfl, rfl, SqT.of t, e2, h.val R r2⟩))
    · exact h.elim
  · split at h
    · rename_i d e
      cases ry
      cases rx with
      | wt t r =>
      obtain ⟨w, e2, r2⟩ := r.atI e
      exact .inr (.inr (.inl ⟨_, _, _, w, rfl, rfl, t.sq, e2, h.val R r2⟩))
    · exact h.elim
  · split at h
    · rename_i d e
      cases ry
      cases rx with
      | wl t r =>
      obtain ⟨w, e2, r2⟩ := r.atI e
      exact .inr (.inl ⟨_, _, _, w, rfl, rfl, t.sq, e2, h.val R r2⟩)
    · exact h.elim
  · split at h
    · rename_i q
      split at h
      · split at h
        · rename_i d e
          obtain ⟨vs, h1, r⟩ := R.lst q
          obtain ⟨w, e2, r2⟩ := r.atI e
          cases rx; cases ry
          exact .inr (.inl ⟨_, _, _, w, rfl, rfl, SqL.of h1, e2, h.val R r2⟩)
        · exact h.elim
      · exact h.elim
    · rename_i q
      split at h
      · split at h
        · rename_i d e
          obtain ⟨o, vs, h1, r⟩ := R.ob _ _ q
          obtain ⟨w, e2, r2⟩ := r.atI e
          cases rx; cases ry
          exact .inr (.inl ⟨_, _, _, w, rfl, rfl, .inl (.inr ⟨o, h1⟩), e2, h.val R r2⟩)
        · exact h.elim
      · exact h.elim
    · split at h
      · rename_i d e
        obtain ⟨a, w, e1, g, m⟩ := dGet_V R rx ry e
        obtain ⟨z, e3, r3⟩ := m
        subst e3
        exact .inr (.inr (.inr ⟨a, z, e1, g, h.val R r3⟩))
      · exact h.elim
    · split at h
      · rename_i d e
        obtain ⟨a, w, e1, g, m⟩ := dGet_V R rx ry e
        obtain ⟨z, e3, r3⟩ := m
        subst e3
        exact .inr (.inr (.inr ⟨a, z, e1, g, h.val R r3⟩))
      · exact h.elim
    · exact h.elim
  · exact h.elim
end
/-! ### slices -/
abbrev MO := Ls → Hs → R (Option Int)
def oNo : MO := fun _ S => .ok none S
def oSome (f : M) : MO := fun l S => (f l S).bind fun d S1 => match d with
  | .int i => .ok (some i) S1
  | _ => .bad
def cutD (xs : List D) (lo hi : Option Int) : List D := (xs.drop (HT.sIx xs.length 0 lo)).take (HT.sIx xs.length xs.length hi - HT.sIx xs.length 0 lo)
def oSl (x : D) (lo hi : Option Int) (S : Hs) : R D := match x with
  | .str z => if z.length ≤ sizeLine then .ok (.str (cutS z lo hi)) S else .bad
  | .tup xs => .ok (.tup (cutD xs lo hi)) S
  | .ref i => match S[i]? with
    | some (.lst xs) => .ok (.ref S.length) (S ++ [.lst (cutD xs lo hi)])
    | some (.rol xs) => .ok (.ref S.length) (S ++ [.lst (cutD xs lo hi)])
    | _ => .bad
  | _ => .bad
def mSl (f : M) (lo hi : MO) : M := fun l S => (f l S).bind fun x S1 => (lo l S1).bind fun a S2 => (hi l S2).bind fun b S3 => oSl x a b S3
def TO' (K : PySem.W.Frag) (E : St → XK) (f : MO) : TO := fun s H Q => ∃ p l S, Real K p S H ∧ Sl K p S.length H l s ∧ Post K E S.length p H (f l S) (fun d _ _ H => Q d H)
structure OM (X : Cx) (E : St → XK) (e : Option Expr) (f : MO) : Prop where po : PO X e (TO' X.K E f)
section
variable {X : Cx} {E : St → XK} {e a b : Expr} {f g : M} {pos p2 : Pos} {lo hi : Option Expr} {fl fh : MO}
theorem _root_.L2.PO.weak {X : Cx} {e : Option Expr} {t t' : TO} (h : PO X e t) (w : ∀ s H Q, t' s H Q → t s H Q) : PO X e t' := ⟨fun pins s σ H Q I q => h.run pins s σ H Q I (w σ H Q q)⟩
theorem o_no : OM X E none oNo := ⟨po_none.weak fun s H Q ⟨p, l, S, R, L, h⟩ => Post.ok (Q := fun d _ _ H => Q d H) h Ext.refl R⟩
theorem o_some (ha : EM X E a f) : OM X E (some a) (oSome f) := ⟨(po_some ha.pe).weak fun s H Q ⟨p, l, S, R, L, h⟩ => T.of R L h fun p1 S1 H1 d v R1 x1 L1 r1 h1 => by
  split at h1
  · cases r1; exact ⟨_, rfl, Post.ok (Q := fun d _ _ H => Q d H) h1 Ext.refl R1⟩
  · exact h1.elim⟩
theorem OM.of {K : PySem.W.Frag} {s : St} {H : Hp} {β : Type} {QQ : β → Hs → (Nat → Addr) → Hp → Prop} {f : MO} {k : Option Int → Hs → R β} {p : Nat → Addr} {l : Ls} {S : Hs} {Q' : Option Int → Hp → Prop} (R : Real K p S H) (L : Sl K p S.length H l s) (h : Post K E S.length p H ((f l S).bind k) QQ)
    (st : ∀ p1 S1 H1 b, Real K p1 S1 H1 → Ext S.length S1.length p p1 H H1 → Sl K p1 S1.length H1 l s → Post K E S1.length p1 H1 (k b S1) QQ → Q' b H1) : TO' K E f s H Q' :=
  ⟨p, l, S, R, L, h.bind.mono fun a S1 p1 H1 _ x R1 q => st p1 S1 H1 a R1 x (L.ext x) q⟩
theorem Reps.cut {K : PySem.W.Frag} {pi : Nat → Addr} {n : Nat} {H : Hp} {ds : List D} {vs : List V} (h : Reps K pi n H ds vs) (a b : Option Int) : Reps K pi n H (cutD ds a b) (cutV vs a b) := by
  unfold cutD cutV
  rw [← h.len]
  exact (h.drop _).take _
theorem cut_whole {vs : List V} {a b : Option Int} (h : HT.sIx vs.length 0 a = 0 ∧ HT.sIx vs.length vs.length b = vs.length) : cutV vs a b = vs := by
  unfold cutV
  rw [h.1, h.2, List.drop_zero, Nat.sub_zero, List.take_length]
theorem e_slice (ha : EM X E a f) (hl : OM X E lo fl) (hu : OM X E hi fh) : EM X E (.Subscript a (.Slice lo hi none p2) pos) (mSl f fl fh) :=
  ⟨(pe_slice (SlR.or sl_str (SlR.or sl_list sl_tupA)) ha.pe hl.po hu.po).weak fun s H Q ⟨p, l, S, R, L, h⟩ => T.of R L h fun p1 S1 H1 d v R1 x1 L1 r1 h1 => OM.of R1 L1 h1 fun p2 S2 H2 ba R2 x2 L2 h2 => OM.of R2 L2 h2 fun p3 S3 H3 bb R3 x3 L3 h3 => by
    have r3 := r1.ext (x2.trans x3) _ _
    unfold oSl at h3
    split at h3
    · split at h3
      · rename_i hl; cases r3; exact .inl ⟨_, rfl, hl, h3.val R3 (.str _)⟩
      · exact h3.elim
    · cases r3 with
      | @tup q _ vs t r =>
      refine .inr (.inr ⟨q, vs, rfl, SqT.of t, fun w => ?_, fun _ z hz => h3.valT R3 (r.cut ba bb) hz⟩)
      have := r.cut ba bb
      rw [cut_whole w] at this
      exact h3.val R3 (.tup t this)
    · split at h3
      · rename_i q
        obtain ⟨vs, e1, r⟩ := R3.lst q
        cases r3
        exact .inr (.inl ⟨_, vs, rfl, SqL.of e1, fun z hz => h3.newL R3 (r.cut ba bb) hz⟩)
      · rename_i q
        obtain ⟨o, vs, e1, r⟩ := R3.ob _ _ q
        cases r3
        exact .inr (.inl ⟨_, vs, rfl, .inl (.inr ⟨o, e1⟩), fun z hz => h3.newL R3 (r.cut ba bb) hz⟩)
      · exact h3.elim
    · exact h3.elim⟩
theorem e_ix (hu : X.A.units + 1 < cLine) (ha : EM X E a f) (hb : EM X E b g) (hs : PlainIx b := by intro _ _; rfl) : EM X E (.Subscript a b pos) (mBin oIx f g) :=
  ⟨(pe_ix (ix_all hu) ha.pe hb.pe hs).weak fun s H Q ⟨p, l, S, R, L, h⟩ => T.of R L h fun p1 S1 H1 d v R1 x1 L1 r1 h1 => T.of R1 L1 h1 fun p2 S2 H2 d2 v2 R2 x2 L2 r2 h2 => ok_ix p2 S2 H2 _ _ _ _ Q R2 (r1.ext x2 _ _) r2 h2⟩
/-! ### displays -/
def mTup (f : ML) : M := fun l S => (f l S).bind fun ds S1 => if ds.length ≤ sizeLine then .ok (.tup ds) S1 else .bad
def mLst (f : ML) : M := fun l S => (f l S).bind fun ds S1 => if ds.length ≤ sizeLine then .ok (.ref S1.length) (S1 ++ [.lst ds]) else .bad
theorem e_tup {es : List Expr} {fl : ML} {x1 : Nat} (h : LM X E es fl) : EM X E (.Tuple es x1 pos) (mTup fl) :=
  ⟨(pe_tup h.pa).weak fun s H Q ⟨p, l, S, R, L, h⟩ => TL.of R L h fun p1 S1 H1 d v R1 x1 L1 r1 h1 => by
    split at h1
    · rename_i hl; exact ⟨by rw [← r1.len]; exact hl, fun q hq => h1.valT R1 r1 hq⟩
    · exact h1.elim⟩
theorem e_lst {es : List Expr} {fl : ML} (h : LM X E es fl) : EM X E (.List es pos) (mLst fl) :=
  ⟨(pe_lst h.pa).weak fun s H Q ⟨p, l, S, R, L, h⟩ => TL.of R L h fun p1 S1 H1 d v R1 x1 L1 r1 h1 => by
    split at h1
    · rename_i hl; exact ⟨by rw [← r1.len]; exact hl, fun q hq => h1.newL R1 r1 hq⟩
    · exact h1.elim⟩
def mDicK : M := fun _ S => .ok (.ref S.length) (S ++ [.dic []])
def mDicT : M := fun _ S => .ok (.ref S.length) (S ++ [.dit []])
theorem e_dicK : EM X E (.Dict [] [] pos) mDicK := ⟨pe_dnewK.weak fun s H Q ⟨p, l, S, R, L, h⟩ q hq => Post.new h R hq ⟨[], upd_same, rfl, .nil⟩⟩
theorem e_dicT : EM X E (.Dict [] [] pos) mDicT := ⟨pe_dnewT.weak fun s H Q ⟨p, l, S, R, L, h⟩ q hq => Post.new h R hq ⟨[], upd_same, rfl, .nil⟩⟩
end
end Ly
set_option Elab.async false
set_option linter.all false
set_option maxRecDepth 100000
namespace Ly
open PySem PySem.Spec L2
open PyProof.Rows hiding St
/-! ### calls of what is built in -/
def mCall (op : List D → Hs → R D) (f : ML) : M := fun l S => (f l S).bind op
def CallOk (K : PySem.W.Frag) (E : St → XK) (r : List V → Hp → VK → Prop) (op : List D → Hs → R D) : Prop :=
  ∀ p S H ds vs Q, Real K p S H → Reps K p S.length H ds vs → Post K E S.length p H (op ds S) (QD K Q) → r vs H Q
abbrev orC (r r' : List V → Hp → VK → Prop) : List V → Hp → VK → Prop := fun xs H Q => r xs H Q ∨ r' xs H Q
section
variable {X : Cx} {E : St → XK} {e : Expr} {es : List Expr} {f : ML} {x : Str} {p pos : Pos} {id T : String} {r : List V → Hp → VK → Prop} {op : List D → Hs → R D}
theorem e_callB (hc : CallR X (.builtin id) r) (hk : CallOk X.K E r op) (hg : Gl X x) (hm : X.mg x = none) (hv : bootBuiltins x = some (.builtin id)) (ha : LM X E (e :: es) f) (hn : x ≠ "__name__" := by decide) (hdb : (x == ("__debug__" : Str)) = false := by decide)
    (he : starEach (e :: es) X.env = (false, eval e X.env) :: starEach es X.env := by rfl) (hpl : (backTo pos (starEach es X.env)).any (·.1) = false := by rfl) : EM X E (.Call (.Name x p) (e :: es) [] pos) (mCall op f) :=
  ⟨(pe_callB hc hg hm hv ha.pa hn hdb he hpl).weak fun s H Q ⟨p, l, S, R, L, h⟩ => TL.of R L h fun p1 S1 H1 d v R1 x1 L1 r1 h1 => hk p1 S1 H1 _ _ Q R1 r1 h1⟩
theorem e_callT (hc : CallR X (.type T) r) (hk : CallOk X.K E r op) (hg : Gl X x) (hm : X.mg x = none) (hv : bootBuiltins x = some (.type T)) (ha : LM X E (e :: es) f) (hn : x ≠ "__name__" := by decide) (hdb : (x == ("__debug__" : Str)) = false := by decide)
    (he : starEach (e :: es) X.env = (false, eval e X.env) :: starEach es X.env := by rfl) (hpl : (backTo pos (starEach es X.env)).any (·.1) = false := by rfl) : EM X E (.Call (.Name x p) (e :: es) [] pos) (mCall op f) :=
  ⟨(pe_callTy hc hg hm hv ha.pa hn hdb he hpl).weak fun s H Q ⟨p, l, S, R, L, h⟩ => TL.of R L h fun p1 S1 H1 d v R1 x1 L1 r1 h1 => hk p1 S1 H1 _ _ Q R1 r1 h1⟩
end
def lenD (x : D) (S : Hs) : Option Nat := match x with
  | .str y => if y.length ≤ sizeLine then some y.length else none
  | .tup xs => some xs.length
  | .wt xs => some xs.length
  | .wl xs => some xs.length
  | .ref i => match S[i]? with
    | some (.lst xs) => some xs.length
    | some (.rol xs) => some xs.length
    | some (.dic xs) => some xs.length
    | _ => none
  | _ => none
def bLen : List D → Hs → R D
  | [x], S => match lenD x S with
    | some n => .ok (.int (n : Int)) S
    | none => .bad
  | _, _ => .bad
def bInt : List D → Hs → R D
  | [.int i], S => .ok (.int i) S
  | [.bl b], S => .ok (.int (b2i b)) S
  | [.str x], S => match intText? x with
    | some n => if x.length ≤ 640 then .ok (.int n) S else .bad
    | none => .bad
  | _, _ => .bad
def bStr : List D → Hs → R D
  | [.int i], S => if i.natAbs.log2 < 1920 then .ok (.str (Str.ofString (toString i))) S else .bad
  | [.str x], S => .ok (.str x) S
  | _, _ => .bad
def bAbs : List D → Hs → R D
  | [.int i], S => .ok (.int (if i < 0 then -i else i)) S
  | _, _ => .bad
def intsD : List D → Option (List Int)
  | [] => some []
  | .int i :: r => (intsD r).map (i :: ·)
  | _ => none
def strsD : List D → Option (List Str)
  | [] => some []
  | .str i :: r => (strsD r).map (i :: ·)
  | _ => none
def seqD (x : D) (S : Hs) : Option (List D) := match x with
  | .ref i => match S[i]? with
    | some (.lst xs) => some xs
    | some (.rol xs) => some xs
    | _ => none
  | .wl xs => some xs
  | _ => none
def leastI : Int → List Int → Int
  | m, [] => m
  | m, x :: r => leastI (if x < m then x else m) r
def mostI : Int → List Int → Int
  | m, [] => m
  | m, x :: r => mostI (if m < x then x else m) r
def bMin : List D → Hs → R D
  | [.int i, .int j], S => .ok (.int (if j < i then j else i)) S
  | [x], S => match (seqD x S).bind intsD with
    | some (n :: r) => .ok (.int (leastI n r)) S
    | _ => .bad
  | _, _ => .bad
def bMax : List D → Hs → R D
  | [.int i, .int j], S => .ok (.int (if j > i then j else i)) S
  | [x], S => match (seqD x S).bind intsD with
    | some (n :: r) => .ok (.int (mostI n r)) S
    | _ => .bad
  | _, _ => .bad
def bSum : List D → Hs → R D
  | [x], S => match (seqD x S).bind intsD with
    | some ns => .ok (.int ns.sum) S
    | _ => .bad
  | _, _ => .bad
def bTuple : List D → Hs → R D
  | [.tup xs], S => .ok (.tup xs) S
  | [.wt xs], S => .ok (.wt xs) S
  | [.ref i], S => match seqD (.ref i) S with
    | some xs => .ok (.tup xs) S
    | none => .bad
  | _, _ => .bad
def keyD : Key → D
  | .inl i => .int i
  | .inr x => .str x
def bList : List D → Hs → R D
  | [.tup xs], S => .ok (.ref S.length) (S ++ [.lst xs])
  | [.wt xs], S => .ok (.ref S.length) (S ++ [.lst xs])
  | [.ref i], S => match S[i]? with
    | some (.lst xs) => .ok (.ref S.length) (S ++ [.lst xs])
    | some (.rol xs) => .ok (.ref S.length) (S ++ [.lst xs])
    | some (.dic kvs) => .ok (.ref S.length) (S ++ [.lst (kvs.map fun kv => keyD kv.1)])
    | _ => .bad
  | _, _ => .bad
def bDict : List D → Hs → R D
  | [.ref i], S => match S[i]? with
    | some (.dic kvs) => .ok (.ref S.length) (S ++ [.dic kvs])
    | _ => .bad
  | _, _ => .bad
section
variable {K : PySem.W.Frag} {E : St → XK} {X : Cx}
abbrev rLenAll (K : PySem.W.Frag) : List V → Hp → VK → Prop := orC (fun xs H Q => ∃ x n, xs = [x] ∧ LenV K x H n ∧ Q (V.int ((n : Nat) : Int)) H) (fun xs H Q => ∃ a kvs, xs = [V.ref a] ∧ H a = some (.dK kvs) ∧ Q (V.int ((kvs.length : Nat) : Int)) H)
theorem cr_lenA : CallR X (.builtin "len") (rLenAll X.K) := CallR.or call_len call_lenD
theorem ok_len : CallOk K E (rLenAll K) bLen := by
  intro p S H ds vs Q R r h
  unfold bLen at h
  split at h
  · cases r with
    | cons r0 rs =>
    cases rs
    split at h
    · rename_i n e
      have hq : Q (V.int ((n : Nat) : Int)) H := h.val R (.int _)
      unfold lenD at e
      split at e
      · split at e
        · cases e; cases r0; exact .inl ⟨_, _, rfl, ⟨by assumption, rfl⟩, hq⟩
        · cases e
      · cases e
        cases r0 with
        | tup t r => exact .inl ⟨_, _, rfl, .inr ⟨_, SqT.of t, r.len⟩, hq⟩
      · cases e
        cases r0 with
        | wt t r => exact .inl ⟨_, _, rfl, .inr ⟨_, t.sq, r.len⟩, hq⟩
      · cases e
        cases r0 with
        | wl t r => exact .inl ⟨_, _, rfl, .inl ⟨_, t.sq, r.len⟩, hq⟩
      · split at e
        · rename_i q
          obtain ⟨vs, h1, r⟩ := R.lst q
          cases e; cases r0; exact .inl ⟨_, _, rfl, .inl ⟨_, SqL.of h1, r.len⟩, hq⟩
        · rename_i q
          obtain ⟨o, vs, h1, r⟩ := R.ob _ _ q
          cases e; cases r0; exact .inl ⟨_, _, rfl, .inl ⟨_, .inl (.inr ⟨o, h1⟩), r.len⟩, hq⟩
        · rename_i zs q
          obtain ⟨ks, h1, h2, h3⟩ := R.ob _ _ q
          cases e; cases r0
          have hl : ks.length = zs.length := by simpa using congrArg List.length h2
          exact .inr ⟨_, _, rfl, h1, by rw [hl]; exact hq⟩
        · cases e
      · cases e
    · exact h.elim
  · exact h.elim
abbrev rIntAll : List V → Hp → VK → Prop := orC (fun xs H Q => (∃ i, xs = [.int i] ∧ Q (.int i) H) ∨ ∃ k, xs = [.bl k] ∧ Q (.int (b2i k)) H) (fun xs H Q => ∃ a n, xs = [V.str a] ∧ intText? a = some n ∧ a.length ≤ 640 ∧ Q (V.int n) H)
theorem cr_intA : CallR X (.type "int") rIntAll := CallR.or call_int1 call_int_str
theorem ok_int : CallOk K E rIntAll bInt := by
  intro p S H ds vs Q R r h
  unfold bInt at h
  split at h
  · cases r with
    | cons r0 rs => cases rs; cases r0; exact .inl (.inl ⟨_, rfl, h.val R (.int _)⟩)
  · cases r with
    | cons r0 rs => cases rs; cases r0; exact .inl (.inr ⟨_, rfl, h.val R (.int _)⟩)
  · cases r with
    | cons r0 rs =>
    cases rs; cases r0
    split at h
    · rename_i n e
      split at h
      · rename_i hl; exact .inr ⟨_, _, rfl, e, hl, h.val R (.int _)⟩
      · exact h.elim
    · exact h.elim
  · exact h.elim
abbrev rStrAll : List V → Hp → VK → Prop := orC (fun xs H Q => ∃ i, xs = [V.int i] ∧ i.natAbs.log2 < 1920 ∧ Q (V.str (Str.ofString (toString i))) H) (fun xs H Q => ∃ a, xs = [.str a] ∧ Q (.str a) H)
theorem cr_strA : CallR X (.type "str") rStrAll := CallR.or call_str_int SkE.call_str_str
theorem ok_str : CallOk K E rStrAll bStr := by
  intro p S H ds vs Q R r h
  unfold bStr at h
  split at h
  · split at h
    · rename_i hl
      cases r with
      | cons r0 rs => cases rs; cases r0; exact .inl ⟨_, rfl, hl, h.val R (.str _)⟩
    · exact h.elim
  · cases r with
    | cons r0 rs => cases rs; cases r0; exact .inr ⟨_, rfl, h.val R (.str _)⟩
  · exact h.elim
theorem ok_abs : CallOk K E (fun xs H Q => ∃ i, xs = [.int i] ∧ Q (.int (if i < 0 then -i else i)) H) bAbs := by
  intro p S H ds vs Q R r h
  unfold bAbs at h
  split at h
  · cases r with
    | cons r0 rs => cases rs; cases r0; exact ⟨_, rfl, h.val R (.int _)⟩
  · exact h.elim
theorem ints_V {pi : Nat → Addr} {n : Nat} {H : Hp} {ds : List D} {vs : List V} {ns : List Int} (r : Reps K pi n H ds vs) (h : intsD ds = some ns) : vs = ns.map V.int := by
  induction ds generalizing vs ns with
  | nil => cases r; simp [intsD] at h; subst h; rfl
  | cons d ds ih =>
    cases r with
    | cons r s =>
      cases r <;> simp [intsD] at h
      obtain ⟨ms, h1, rfl⟩ := h
      rw [ih s h1]; rfl
theorem strs_V {pi : Nat → Addr} {n : Nat} {H : Hp} {ds : List D} {vs : List V} {ns : List Str} (r : Reps K pi n H ds vs) (h : strsD ds = some ns) : vs = ns.map V.str := by
  induction ds generalizing vs ns with
  | nil => cases r; simp [strsD] at h; subst h; rfl
  | cons d ds ih =>
    cases r with
    | cons r s =>
      cases r <;> simp [strsD] at h
      obtain ⟨ms, h1, rfl⟩ := h
      rw [ih s h1]; rfl
theorem seq_V {p : Nat → Addr} {S : Hs} {H : Hp} {x : D} {v : V} {ds : List D} (R : Real K p S H) (r : Rep K p S.length H x v) (h : seqD x S = some ds) : ∃ a vs, v = .ref a ∧ SqL K H a vs ∧ Reps K p S.length H ds vs := by
  unfold seqD at h
  split at h
  · split at h
    · rename_i q
      cases h; cases r
      obtain ⟨vs, h1, r⟩ := R.lst q
      exact ⟨_, vs, rfl, SqL.of h1, r⟩
    · rename_i q
      cases h; cases r
      obtain ⟨o, vs, h1, r⟩ := R.ob _ _ q
      exact ⟨_, vs, rfl, .inl (.inr ⟨o, h1⟩), r⟩
    · cases h
  · cases h
    cases r with
    | wl t r => exact ⟨_, _, rfl, t.sq, r⟩
  · cases h
theorem leastI_le (r : List Int) : ∀ m, leastI m r ≤ m ∧ (∀ y ∈ r, leastI m r ≤ y) ∧ (leastI m r = m ∨ leastI m r ∈ r) := by
  induction r with
  | nil => intro m; exact ⟨Int.le_refl _, by simp, .inl rfl⟩
  | cons x r ih =>
    intro m
    obtain ⟨h1, h2, h3⟩ := ih (if x < m then x else m)
    simp only [leastI]
    refine ⟨?_, fun y hy => ?_, ?_⟩
    · split at h1 <;> split <;> omega
    · rcases List.mem_cons.mp hy with rfl | hy
      · split at h1 <;> split <;> omega
      · exact h2 y hy
    · rcases h3 with h3 | h3
      · rw [h3]; split
        · exact .inr (List.mem_cons_self ..)
        · exact .inl rfl
      · exact .inr (List.mem_cons_of_mem _ h3)
theorem mostI_le (r : List Int) : ∀ m, m ≤ mostI m r ∧ (∀ y ∈ r, y ≤ mostI m r) ∧ (mostI m r = m ∨ mostI m r ∈ r) := by
  induction r with
  | nil => intro m; exact ⟨Int.le_refl _, by simp, .inl rfl⟩
  | cons x r ih =>
    intro m
    obtain ⟨h1, h2, h3⟩ := ih (if m < x then x else m)
    simp only [mostI]
    refine ⟨?_, fun y hy => ?_, ?_⟩
    · split at h1 <;> split <;> omega
    · rcases List.mem_cons.mp hy with rfl | hy
      · split at h1 <;> split <;> omega
      · exact h2 y hy
    · rcases h3 with h3 | h3
      · rw [h3]; split
        · exact .inr (List.mem_cons_self ..)
        · exact .inl rfl
      · exact .inr (List.mem_cons_of_mem _ h3)
abbrev rMin2 : List V → Hp → VK → Prop := fun xs H Q => ∃ i j, xs = [V.int i, V.int j] ∧ Q (V.int (if j < i then j else i)) H
abbrev rMax2 : List V → Hp → VK → Prop := fun xs H Q => ∃ i j, xs = [V.int i, V.int j] ∧ Q (V.int (if j > i then j else i)) H
theorem cr_minA (hc : X.calm = true) : CallR X (.builtin "min") (orC rMin2 (rMin X.K)) := CallR.or (call_min2 hc) (cr_min hc)
theorem cr_maxA (hc : X.calm = true) : CallR X (.builtin "max") (orC rMax2 (rMax X.K)) := CallR.or (call_max2 hc) (cr_max hc)
theorem ok_min : CallOk K E (orC rMin2 (rMin K)) bMin := by
  intro p S H ds vs Q R r h
  unfold bMin at h
  split at h
  · cases r with
    | cons r0 rs => cases rs with | cons r1 rs => cases rs; cases r0; cases r1; exact .inl ⟨_, _, rfl, h.val R (.int _)⟩
  · split at h
    · rename_i n t e
      rw [Option.bind_eq_some_iff] at e
      obtain ⟨ds, e1, e2⟩ := e
      cases r with
      | cons r0 rs =>
      cases rs
      obtain ⟨a, vs, rfl, hs, r⟩ := seq_V R r0 e1
      rw [ints_V r e2] at hs
      have hq : Q _ H := h.val R (.int _)
      refine .inr ⟨a, _, rfl, hs, by simp, fun m hm hle => ?_⟩
      obtain ⟨h1, h2, h3⟩ := leastI_le t n
      have : m = leastI n t := by
        have a1 : leastI n t ≤ m := by
          rcases List.mem_cons.mp hm with rfl | hm
          · exact h1
          · exact h2 m hm
        have a2 : m ≤ leastI n t := hle _ (h3.elim (fun e => by rw [e]; exact List.mem_cons_self ..) (List.mem_cons_of_mem _))
        omega
      rw [this]; exact hq
    · exact h.elim
  · exact h.elim
theorem ok_max : CallOk K E (orC rMax2 (rMax K)) bMax := by
  intro p S H ds vs Q R r h
  unfold bMax at h
  split at h
  · cases r with
    | cons r0 rs => cases rs with | cons r1 rs => cases rs; cases r0; cases r1; exact .inl ⟨_, _, rfl, h.val R (.int _)⟩
  · split at h
    · rename_i n t e
      rw [Option.bind_eq_some_iff] at e
      obtain ⟨ds, e1, e2⟩ := e
      cases r with
      | cons r0 rs =>
      cases rs
      obtain ⟨a, vs, rfl, hs, r⟩ := seq_V R r0 e1
      rw [ints_V r e2] at hs
      have hq : Q _ H := h.val R (.int _)
      refine .inr ⟨a, _, rfl, hs, by simp, fun m hm hle => ?_⟩
      obtain ⟨h1, h2, h3⟩ := mostI_le t n
      have : m = mostI n t := by
        have a1 : m ≤ mostI n t := by
          rcases List.mem_cons.mp hm with rfl | hm
          · exact h1
          · exact h2 m hm
        have a2 : mostI n t ≤ m := hle _ (h3.elim (fun e => by rw [e]; exact List.mem_cons_self ..) (List.mem_cons_of_mem _))
        omega
      rw [this]; exact hq
    · exact h.elim
  · exact h.elim
theorem ok_sum : CallOk K E (rSum K) bSum := by
  intro p S H ds vs Q R r h
  unfold bSum at h
  split at h
  · split at h
    · rename_i ns e
      rw [Option.bind_eq_some_iff] at e
      obtain ⟨ds, e1, e2⟩ := e
      cases r with
      | cons r0 rs =>
      cases rs
      obtain ⟨a, vs, rfl, hs, r⟩ := seq_V R r0 e1
      rw [ints_V r e2] at hs
      exact ⟨a, ns, rfl, hs, h.val R (.int _)⟩
    · exact h.elim
  · exact h.elim
abbrev rTupleOf (K : PySem.W.Frag) : List V → Hp → VK → Prop := fun xs H Q => ∃ p ys, xs = [V.ref p] ∧ ((SqL K H p ys ∧ ∀ l, H l = none → Q (V.ref l) (upd H l (.tup ys))) ∨ SqT K H p ys ∧ Q (V.ref p) H)
theorem ok_tuple : CallOk K E (rTupleOf K) bTuple := by
  intro p S H ds vs Q R r h
  unfold bTuple at h
  split at h
  · cases r with
    | cons r0 rs =>
    cases rs
    cases r0 with
    | tup t r => exact ⟨_, _, rfl, .inr ⟨SqT.of t, h.val R (.tup t r)⟩⟩
  · cases r with
    | cons r0 rs =>
    cases rs
    cases r0 with
    | wt t r => exact ⟨_, _, rfl, .inr ⟨t.sq, h.val R (.wt t r)⟩⟩
  · split at h
    · rename_i e
      cases r with
      | cons r0 rs =>
      cases rs
      obtain ⟨a, vs, rfl, hs, r⟩ := seq_V R r0 e
      exact ⟨a, vs, rfl, .inl ⟨hs, fun q hq => h.valT R r hq⟩⟩
    · exact h.elim
  · exact h.elim
abbrev rListOf (K : PySem.W.Frag) : List V → Hp → VK → Prop := fun xs H Q => ∃ p ys, xs = [V.ref p] ∧ (SqL K H p ys ∨ SqT K H p ys) ∧ ∀ l, H l = none → Q (V.ref l) (upd H l (.lst ys))
abbrev rListD : List V → Hp → VK → Prop := fun xs H Q => ∃ (a : Addr) (kvs : List (Key × V)), xs = [.ref a] ∧ Rd H a (.dK kvs) ∧ ∀ p, H p = none → Q (.ref p) (upd H p (.lst (kvs.map fun kv => kV kv.1)))
theorem cr_listA (hc : X.calm = true) : CallR X (.type "list") (orC (rListOf X.K) rListD) := CallR.or call_list_of (call_listD hc)
theorem keyD_V {pi : Nat → Addr} {n : Nat} {H : Hp} (k : Key) : Rep K pi n H (keyD k) (kV k) := by cases k <;> constructor
theorem keysD_V {pi : Nat → Addr} {n : Nat} {H : Hp} {kvs : List (Key × D)} {ks : List (Key × V)} (h : ks.map (·.1) = kvs.map (·.1)) : Reps K pi n H (kvs.map fun kv => keyD kv.1) (ks.map fun kv => kV kv.1) := by
  induction kvs generalizing ks with
  | nil => cases ks with | nil => exact .nil | cons a b => cases h
  | cons a kvs ih =>
    cases ks with
    | nil => cases h
    | cons b ks =>
      simp only [List.map_cons, List.cons.injEq] at h
      simp only [List.map_cons]
      exact .cons (by rw [h.1]; exact keyD_V _) (ih h.2)
theorem ok_list : CallOk K E (orC (rListOf K) rListD) bList := by
  intro p S H ds vs Q R r h
  unfold bList at h
  split at h
  · cases r with
    | cons r0 rs =>
    cases rs
    cases r0 with
    | tup t r => exact .inl ⟨_, _, rfl, .inr (SqT.of t), fun q hq => h.newL R r hq⟩
  · cases r with
    | cons r0 rs =>
    cases rs
    cases r0 with
    | wt t r => exact .inl ⟨_, _, rfl, .inr t.sq, fun q hq => h.newL R r hq⟩
  · cases r with
    | cons r0 rs =>
    cases rs
    split at h
    · rename_i q
      obtain ⟨vs, h1, r⟩ := R.lst q
      cases r0
      exact .inl ⟨_, _, rfl, .inl (SqL.of h1), fun q hq => h.newL R r hq⟩
    · rename_i q
      obtain ⟨o, vs, h1, r⟩ := R.ob _ _ q
      cases r0
      exact .inl ⟨_, _, rfl, .inl (.inl (.inr ⟨o, h1⟩)), fun q hq => h.newL R r hq⟩
    · rename_i q
      obtain ⟨ks, h1, h2, h3⟩ := R.ob _ _ q
      cases r0
      exact .inr ⟨_, _, rfl, .inl h1, fun q hq => h.newL R (keysD_V h2) hq⟩
    · exact h.elim
  · exact h.elim
abbrev rDictOf : List V → Hp → VK → Prop := fun xs H Q => ∃ (a : Addr) (kvs : List (Key × V)), xs = [.ref a] ∧ Rd H a (.dK kvs) ∧ ∀ p, H p = none → Q (.ref p) (upd H p (.dK kvs))
theorem ok_dict : CallOk K E rDictOf bDict := by
  intro p S H ds vs Q R r h
  unfold bDict at h
  split at h
  · cases r with
    | cons r0 rs =>
    cases rs
    split at h
    · rename_i q
      obtain ⟨ks, h1, h2, h3⟩ := R.ob _ _ q
      cases r0
      exact ⟨_, _, rfl, .inl h1, fun q hq => h.new R hq ⟨ks, upd_same, h2, h3.ext (ext_new hq) _ _⟩⟩
    · exact h.elim
  · exact h.elim
end
/-! the shorthands -/
section
variable {X : Cx} {E : St → XK} {e : Expr} {f : ML} {p pos : Pos} {es : List Expr}
theorem c_len (hm : X.mg "len" = none) (ha : LM X E [e] f) (hg : Gl X "len" := by rfl) (he : starEach [e] X.env = (false, eval e X.env) :: starEach [] X.env := by rfl) : EM X E (.Call (.Name "len" p) [e] [] pos) (mCall bLen f) := e_callB cr_lenA ok_len hg hm (by decide +kernel) ha (by decide) (by decide) he (by rfl)
theorem c_int (hm : X.mg "int" = none) (ha : LM X E [e] f) (hg : Gl X "int" := by rfl) (he : starEach [e] X.env = (false, eval e X.env) :: starEach [] X.env := by rfl) : EM X E (.Call (.Name "int" p) [e] [] pos) (mCall bInt f) := e_callT cr_intA ok_int hg hm (by decide +kernel) ha (by decide) (by decide) he (by rfl)
theorem c_str (hm : X.mg "str" = none) (ha : LM X E [e] f) (hg : Gl X "str" := by rfl) (he : starEach [e] X.env = (false, eval e X.env) :: starEach [] X.env := by rfl) : EM X E (.Call (.Name "str" p) [e] [] pos) (mCall bStr f) := e_callT cr_strA ok_str hg hm (by decide +kernel) ha (by decide) (by decide) he (by rfl)
theorem c_abs (hm : X.mg "abs" = none) (ha : LM X E [e] f) (hg : Gl X "abs" := by rfl) (he : starEach [e] X.env = (false, eval e X.env) :: starEach [] X.env := by rfl) : EM X E (.Call (.Name "abs" p) [e] [] pos) (mCall bAbs f) := e_callB call_abs ok_abs hg hm (by decide +kernel) ha (by decide) (by decide) he (by rfl)
theorem c_sum (hc : X.calm = true) (hm : X.mg "sum" = none) (ha : LM X E [e] f) (hg : Gl X "sum" := by rfl) (he : starEach [e] X.env = (false, eval e X.env) :: starEach [] X.env := by rfl) : EM X E (.Call (.Name "sum" p) [e] [] pos) (mCall bSum f) := e_callB (cr_sum hc) ok_sum hg hm (by decide +kernel) ha (by decide) (by decide) he (by rfl)
theorem c_tuple (hm : X.mg "tuple" = none) (ha : LM X E [e] f) (hg : Gl X "tuple" := by rfl) (he : starEach [e] X.env = (false, eval e X.env) :: starEach [] X.env := by rfl) : EM X E (.Call (.Name "tuple" p) [e] [] pos) (mCall bTuple f) := e_callT call_tuple_of ok_tuple hg hm (by decide +kernel) ha (by decide) (by decide) he (by rfl)
theorem c_list (hc : X.calm = true) (hm : X.mg "list" = none) (ha : LM X E [e] f) (hg : Gl X "list" := by rfl) (he : starEach [e] X.env = (false, eval e X.env) :: starEach [] X.env := by rfl) : EM X E (.Call (.Name "list" p) [e] [] pos) (mCall bList f) := e_callT (cr_listA hc) ok_list hg hm (by decide +kernel) ha (by decide) (by decide) he (by rfl)
theorem c_dict (hm : X.mg "dict" = none) (ha : LM X E [e] f) (hg : Gl X "dict" := by rfl) (he : starEach [e] X.env = (false, eval e X.env) :: starEach [] X.env := by rfl) : EM X E (.Call (.Name "dict" p) [e] [] pos) (mCall bDict f) := e_callT call_dictD ok_dict hg hm (by decide +kernel) ha (by decide) (by decide) he (by rfl)
theorem c_min (hc : X.calm = true) (hm : X.mg "min" = none) (ha : LM X E (e :: es) f) (hg : Gl X "min" := by rfl) (he : starEach (e :: es) X.env = (false, eval e X.env) :: starEach es X.env := by rfl) (hpl : (backTo pos (starEach es X.env)).any (·.1) = false := by rfl) : EM X E (.Call (.Name "min" p) (e :: es) [] pos) (mCall bMin f) := e_callB (cr_minA hc) ok_min hg hm (by decide +kernel) ha (by decide) (by decide) he hpl
theorem c_max (hc : X.calm = true) (hm : X.mg "max" = none) (ha : LM X E (e :: es) f) (hg : Gl X "max" := by rfl) (he : starEach (e :: es) X.env = (false, eval e X.env) :: starEach es X.env := by rfl) (hpl : (backTo pos (starEach es X.env)).any (·.1) = false := by rfl) : EM X E (.Call (.Name "max" p) (e :: es) [] pos) (mCall bMax f) := e_callB (cr_maxA hc) ok_max hg hm (by decide +kernel) ha (by decide) (by decide) he hpl
end
end Ly
set_option Elab.async false
set_option linter.all false
set_option maxRecDepth 100000
namespace Ly
open PySem PySem.Spec L2
open PyProof.Rows hiding St
/-! ### methods of what is built in -/
def hasTy (T : String) (x : D) (S : Hs) : Bool := match x with
  | .str _ => decide (T = "str")
  | .int _ => decide (T = "int")
  | .ref i => match S[i]? with
    | some (.lst _) => decide (T = "list")
    | some (.rol _) => decide (T = "list")
    | some (.dic _) => decide (T = "dict")
    | some (.dit _) => decide (T = "dict")
    | _ => false
  | _ => false
theorem hasTy_V {K : PySem.W.Frag} {T : String} {p : Nat → Addr} {S : Hs} {H : Hp} {x : D} {v : V} (R : Real K p S H) (r : Rep K p S.length H x v) (h : hasTy T x S = true) : tyV K T v H := by
  unfold hasTy at h
  cases r with
  | str x => exact of_decide_eq_true (p := T = "str") h
  | int x => exact of_decide_eq_true (p := T = "int") h
  | ref hi =>
    simp only at h
    split at h
    · rename_i q
      obtain ⟨vs, h1, r⟩ := R.lst q
      exact .inl ⟨of_decide_eq_true h, _, SqL.of h1⟩
    · rename_i q
      obtain ⟨o, vs, h1, r⟩ := R.ob _ _ q
      exact .inl ⟨of_decide_eq_true h, _, .inl (.inr ⟨o, h1⟩)⟩
    · rename_i q
      obtain ⟨ks, h1, _⟩ := R.ob _ _ q
      exact .inr (.inr (.inl ⟨of_decide_eq_true h, .inl ⟨_, h1⟩⟩))
    · rename_i q
      obtain ⟨ks, h1, _⟩ := R.ob _ _ q
      exact .inr (.inr (.inl ⟨of_decide_eq_true h, .inr ⟨_, h1⟩⟩))
    · cases h
  | _ => cases h
def mBM (Tn : String) (op : D → List D → Hs → R D) (f : M) (g : ML) : M := fun l S => (f l S).bind fun x S1 => if hasTy Tn x S1 = true then (g l S1).bind fun ds S2 => op x ds S2 else .bad
def MtOk (K : PySem.W.Frag) (E : St → XK) (r : V → List V → Hp → VK → Prop) (op : D → List D → Hs → R D) : Prop :=
  ∀ p S H x v ds vs Q, Real K p S H → Rep K p S.length H x v → Reps K p S.length H ds vs → Post K E S.length p H (op x ds S) (QD K Q) → r v vs H Q
section
variable {X : Cx} {E : St → XK} {o e : Expr} {es : List Expr} {f : M} {g : ML} {name : Str} {apos cpos : Pos} {Tn id : String} {r : V → List V → Hp → VK → Prop} {op : D → List D → Hs → R D}
theorem e_bm (pa : PlainAttrs Tn) (slot : Slot Tn name id) (hty : typeOf (.builtin id) = pure (.type "method_descriptor")) (hm : MtR X id r) (hk : MtOk X.K E r op) (ho : EM X E o f) (ha : LM X E (e :: es) g)
    (hbase : attributeBase o name X.env (eval o X.env) = eval o X.env := by rfl)
    (hfew : ((backTo cpos (starEach (e :: es) X.env)).all (fun x => !x.1) && (backToKw cpos (keywordEach [] X.env)).all (fun x => x.1.isSome)
      && decide ((e :: es).length + ([] : List Keyword).length + (if ([] : List Keyword).isEmpty then 0 else 1) < 30)) = true := by rfl)
    (hline : (apos.endLine == cpos.line) = true := by rfl) (hs : starEach (e :: es) X.env = (false, eval e X.env) :: starEach es X.env := by rfl) (hplain : (backTo cpos (starEach es X.env)).any (·.1) = false := by rfl) :
    EM X E (.Call (.Attribute o name apos) (e :: es) [] cpos) (mBM Tn op f g) :=
  ⟨(pe_bm pa slot hty hm ho.pe ha.pa hbase hfew hline hs hplain).weak fun s H Q ⟨p, l, S, R, L, h⟩ => T.of R L h fun p1 S1 H1 d v R1 x1 L1 r1 h1 => by
    split at h1
    · rename_i ht
      exact ⟨hasTy_V R1 r1 ht, TL.of R1 L1 h1 fun p2 S2 H2 d2 v2 R2 x2 L2 r2 h2 => hk p2 S2 H2 _ _ _ _ Q R2 (r1.ext x2 _ _) r2 h2⟩
    · exact h1.elim⟩
theorem e_bm0 (pa : PlainAttrs Tn) (slot : Slot Tn name id) (hty : typeOf (.builtin id) = pure (.type "method_descriptor")) (hm : MtR X id r) (hk : MtOk X.K E r op) (ho : EM X E o f)
    (hbase : attributeBase o name X.env (eval o X.env) = eval o X.env := by rfl) (hline : (apos.endLine == cpos.line) = true := by rfl) :
    EM X E (.Call (.Attribute o name apos) [] [] cpos) (mBM Tn op f lNil) :=
  ⟨(pe_bm0 pa slot hty hm ho.pe hbase hline).weak fun s H Q ⟨p, l, S, R, L, h⟩ => T.of R L h fun p1 S1 H1 d v R1 x1 L1 r1 h1 => by
    split at h1
    · rename_i ht
      exact ⟨hasTy_V R1 r1 ht, hk p1 S1 H1 _ _ _ _ Q R1 r1 .nil h1⟩
    · exact h1.elim⟩
end
def oAppend (x : D) (ds : List D) (S : Hs) : R D := match x, ds with
  | .ref i, [y] => match S[i]? with
    | some (.lst xs) => if xs.length < sizeLine then .ok .non (S.set i (.lst (xs ++ [y]))) else .bad
    | _ => .bad
  | _, _ => .bad
def oExtend (x : D) (ds : List D) (S : Hs) : R D := match x, ds with
  | .ref i, [.ref j] => match S[i]?, S[j]? with
    | some (.lst xs), some (.lst ys) => if xs.length + ys.length ≤ sizeLine then .ok .non (S.set i (.lst (xs ++ ys))) else .bad
    | _, _ => .bad
  | _, _ => .bad
def oPop (x : D) (ds : List D) (S : Hs) : R D := match x, ds with
  | .ref i, [] => match S[i]? with
    | some (.lst xs) => (match xs[xs.length - 1]? with
      | some y => .ok y (S.set i (.lst xs.dropLast))
      | none => .bad)
    | _ => .bad
  | _, _ => .bad
def oJoin (x : D) (ds : List D) (S : Hs) : R D := match x, ds with
  | .str a, [y] => match (match y with | .tup zs => some zs | .wt zs => some zs | y => seqD y S).bind strsD with
    | some ys => if (ys.map (·.length)).sum + ys.length * a.length ≤ 16777216 then .ok (.str (Txt.join a ys)) S else .bad
    | none => .bad
  | _, _ => .bad
def oFind (x : D) (ds : List D) (S : Hs) : R D := match x, ds with
  | .str a, [.str b] => .ok (.int (Txt.find a b)) S
  | .str a, [.str b, .int i] => .ok (.int (Txt.find3 a b i)) S
  | _, _ => .bad
def oRfind (x : D) (ds : List D) (S : Hs) : R D := match x, ds with
  | .str a, [.str b] => .ok (.int (Txt.rfind a b)) S
  | _, _ => .bad
def oCount (x : D) (ds : List D) (S : Hs) : R D := match x, ds with
  | .str a, [.str b] => .ok (.int (Txt.count a b)) S
  | _, _ => .bad
section
variable {K : PySem.W.Frag} {E : St → XK} {X : Cx}
theorem ok_append : MtOk K E rAppend oAppend := by
  intro p S H x v ds vs Q R rx r h
  unfold oAppend at h
  split at h
  · split at h
    · rename_i y _ xs q
      split at h
      · rename_i hl
        obtain ⟨us, h1, r1⟩ := R.lst q
        cases rx
        cases r with
        | cons r0 rs =>
        cases rs
        have hi := Real.lt q
        refine ⟨_, us, _, rfl, rfl, h1, by rw [← r1.len]; exact hl, h.put R hi ⟨_, upd_same, ?_⟩ .non⟩
        exact (r1.ext (ext_upd (R.notup hi)) _ _).append (.cons (r0.ext (ext_upd (R.notup hi)) _ _) .nil)
      · exact h.elim
    · exact h.elim
  · exact h.elim
theorem ok_extend : MtOk K E rExtend oExtend := by
  intro p S H x v ds vs Q R rx r h
  unfold oExtend at h
  split at h
  · split at h
    · rename_i xs ys q q'
      split at h
      · rename_i hl
        obtain ⟨us, h1, r1⟩ := R.lst q
        obtain ⟨ws, h2, r2⟩ := R.lst q'
        cases rx
        cases r with
        | cons r0 rs =>
        cases rs; cases r0
        have hi := Real.lt q
        refine ⟨_, _, us, ws, rfl, rfl, h1, h2, by rw [← r1.len, ← r2.len]; exact hl, h.put R hi ?_ .non⟩
        have x1 : Ext S.length S.length p p H (upd H _ (HO.lst (us ++ ws))) := ext_upd (R.notup hi)
        exact ⟨_, upd_same, (r1.ext x1 _ _).append (r2.ext x1 _ _)⟩
      · exact h.elim
    · exact h.elim
  · exact h.elim
theorem Reps.dropLast {pi : Nat → Addr} {n : Nat} {H : Hp} {ds : List D} {vs : List V} (r : Reps K pi n H ds vs) : Reps K pi n H ds.dropLast vs.dropLast := by
  rw [List.dropLast_eq_take, List.dropLast_eq_take, ← r.len]; exact r.take _
theorem ok_pop : MtOk K E rPop oPop := by
  intro p S H x v ds vs Q R rx r h
  unfold oPop at h
  split at h
  · split at h
    · rename_i xs q
      split at h
      · rename_i y e
        obtain ⟨us, h1, r1⟩ := R.lst q
        cases rx; cases r
        have hi := Real.lt q
        obtain ⟨w, e2, r2⟩ := r1.get e
        have x1 : Ext S.length S.length p p H (upd H _ (HO.lst us.dropLast)) := ext_upd (R.notup hi)
        refine ⟨_, us, w, rfl, rfl, h1, by rw [← r1.len]; exact e2, h.put R hi ⟨_, upd_same, (r1.dropLast).ext x1 _ _⟩ (r2.ext x1 _ _)⟩
      · exact h.elim
    · exact h.elim
  · exact h.elim
abbrev rJoinA (K : PySem.W.Frag) : V → List V → Hp → VK → Prop := fun x xs H Q => ∃ a p ys, x = V.str a ∧ xs = [V.ref p] ∧ (SqL K H p (List.map V.str ys) ∨ SqT K H p (List.map V.str ys)) ∧ (List.map (fun x => x.length) ys).sum + ys.length * a.length ≤ 16777216 ∧ Q (V.str (Txt.join a ys)) H
theorem ok_join : MtOk K E (rJoinA K) oJoin := by
  intro p S H x v ds vs Q R rx r h
  unfold oJoin at h
  split at h
  · split at h
    · rename_i y ys e
      split at h
      · rename_i hl
        rw [Option.bind_eq_some_iff] at e
        obtain ⟨zs, e1, e2⟩ := e
        cases rx
        cases r with
        | cons r0 rs =>
        cases rs
        have hq := h.val R (.str _)
        split at e1
        · cases e1
          cases r0 with
          | tup t r => exact ⟨_, _, ys, rfl, rfl, .inr (SqT.of (by rw [← strs_V r e2]; exact t)), hl, hq⟩
        · cases e1
          cases r0 with
          | wt t r => exact ⟨_, _, ys, rfl, rfl, .inr (by rw [← strs_V r e2]; exact t.sq), hl, hq⟩
        · obtain ⟨a, vs, rfl, hs, r⟩ := seq_V R r0 e1
          exact ⟨_, _, ys, rfl, rfl, .inl (by rw [← strs_V r e2]; exact hs), hl, hq⟩
      · exact h.elim
    · exact h.elim
  · exact h.elim
abbrev orM (r r' : V → List V → Hp → VK → Prop) : V → List V → Hp → VK → Prop := fun x xs H Q => r x xs H Q ∨ r' x xs H Q
abbrev rFindA : V → List V → Hp → VK → Prop := orM (fun x xs H Q => ∃ a b, x = V.str a ∧ xs = [V.str b] ∧ Q (V.int (Txt.find a b)) H) (fun x xs H Q => ∃ a b i, x = V.str a ∧ xs = [V.str b, V.int i] ∧ Q (V.int (Txt.find3 a b i)) H)
theorem mt_findA : MtR X "str.find" rFindA := MtR.or mt_find mt_find3
theorem ok_find : MtOk K E rFindA oFind := by
  intro p S H x v ds vs Q R rx r h
  unfold oFind at h
  split at h
  · cases rx
    cases r with
    | cons r0 rs => cases rs; cases r0; exact .inl ⟨_, _, rfl, rfl, h.val R (.int _)⟩
  · cases rx
    cases r with
    | cons r0 rs => cases rs with | cons r1 rs => cases rs; cases r0; cases r1; exact .inr ⟨_, _, _, rfl, rfl, h.val R (.int _)⟩
  · exact h.elim
theorem ok_rfind : MtOk K E (fun x xs H Q => ∃ a b, x = V.str a ∧ xs = [V.str b] ∧ Q (V.int (Txt.rfind a b)) H) oRfind := by
  intro p S H x v ds vs Q R rx r h
  unfold oRfind at h
  split at h
  · cases rx
    cases r with
    | cons r0 rs => cases rs; cases r0; exact ⟨_, _, rfl, rfl, h.val R (.int _)⟩
  · exact h.elim
theorem ok_count : MtOk K E (fun x xs H Q => ∃ a b, x = V.str a ∧ xs = [V.str b] ∧ Q (V.int (Txt.count a b)) H) oCount := by
  intro p S H x v ds vs Q R rx r h
  unfold oCount at h
  split at h
  · cases rx
    cases r with
    | cons r0 rs => cases rs; cases r0; exact ⟨_, _, rfl, rfl, h.val R (.int _)⟩
  · exact h.elim
end
/-! ### statements -/
def mSet (i : Nat) (f : M) : MS := fun l S => (f l S).bind fun d S1 => .ok (.nx (l.set i (some d))) S1
def mExpr (f : M) : MS := fun l S => (f l S).bind fun _ S1 => .ok (.nx l) S1
def mRet (f : M) : MS := fun l S => (f l S).bind fun d S1 => .ok (.rt d) S1
def mRetN : MS := fun _ S => .ok (.rt .non) S
def mPass : MS := fun l S => .ok (.nx l) S
def mBrk : MS := fun l S => .ok (.bk l) S
def mCnt : MS := fun l S => .ok (.ct l) S
def mBad : MS := fun _ _ => .bad
def mSeq (f g : MS) : MS := fun l S => (f l S).bind fun r S1 => match r with
  | .nx l1 => g l1 S1
  | r => .ok r S1
def mIfS (c : MB) (f g : MS) : MS := fun l S => (c l S).bind fun b S1 => if b = true then f l S1 else g l S1
section
variable {X : Cx} {E : St → XK} {st : Stmt} {sts : List Stmt} {f g : MS} {e : Expr} {m : M} {pos : Pos}
theorem Post.nx {K : PySem.W.Frag} {D0 : Ends} {p : Nat → Addr} {S : Hs} {H : Hp} {l : Ls} {s : St} (h : Post K E S.length p H (.ok (.nx l) S) (QF K D0)) (R : Real K p S H) (L : Sl K p S.length H l s) : D0.nx s H := Post.ok (Q := QF K D0) h Ext.refl R s L
theorem SMs.nil : SMs X E [] mPass := ⟨pss_nil.weak fun s H D0 ⟨p, l, S, R, L, h⟩ => Post.nx h R L⟩
theorem SMs.cons (h1 : SM X E st f) (h2 : SMs X E sts g) : SMs X E (st :: sts) (mSeq f g) := ⟨(pss_cons h1.ps h2.ps).weak fun s H D0 ⟨p, l, S, R, L, h⟩ => by
  refine ⟨p, l, S, R, L, (Post.bind (r := f l S) h).mono fun a S1 p1 H1 _ x R1 q => ?_⟩
  cases a with
  | nx l1 => exact fun s1 L1 => ⟨p1, l1, S1, R1, L1, q⟩
  | rt d => exact fun v r => Post.ok (Q := QF _ D0) q Ext.refl R1 v r
  | bk l1 => exact fun v r => Post.ok (Q := QF _ D0) q Ext.refl R1 v r
  | ct l1 => exact fun v r => Post.ok (Q := QF _ D0) q Ext.refl R1 v r⟩
theorem SMs.one (h1 : SM X E st f) : SMs X E [st] f := ⟨pss_one h1.ps⟩
theorem s_pass : SM X E (.Pass pos) mPass := ⟨ps_pass.weak fun s H D0 ⟨p, l, S, R, L, h⟩ => Post.nx h R L⟩
theorem s_brk : SM X E (.Break pos) mBrk := ⟨ps_break.weak fun s H D0 ⟨p, l, S, R, L, h⟩ => Post.ok (Q := QF _ D0) h Ext.refl R s L⟩
theorem s_cnt : SM X E (.Continue pos) mCnt := ⟨ps_continue.weak fun s H D0 ⟨p, l, S, R, L, h⟩ => Post.ok (Q := QF _ D0) h Ext.refl R s L⟩
theorem s_never : SM X E st mBad := ⟨(ps_never (X := X)).weak fun s H D0 ⟨p, l, S, R, L, h⟩ => h.elim⟩
theorem s_doc {x j pos'} : SM X E (.Expr (.Constant (.str x) j pos) pos') mPass := ⟨ps_doc.weak fun s H D0 ⟨p, l, S, R, L, h⟩ => Post.nx h R L⟩
theorem s_set {i : Nat} {x : Str} {pos' : Pos} (hN : X.N.Nodup) (he : EM X E e m) (hi : X.N[i]? = some x := by rfl) (hx : L2.Loc X.env.scope x := by first | exact Or.inl rfl | exact Or.inr rfl)
    (hs : swapsWith e (some (.Name x pos')) pos.line X.env = pure false := by rfl) (hf : X.fn x = true ∨ X.env.scope.names.lookup x = some .local := by first | exact .inl rfl | exact .inr rfl | assumption) :
    SM X E (.Assign [.Name x pos'] e pos) (mSet i m) :=
  ⟨(ps_set hN hi hx he.pe hs hf).weak fun s H D0 ⟨p, l, S, R, L, h⟩ => T.of R L h fun p1 S1 H1 d v R1 x1 L1 r1 h1 => Post.nx h1 R1 (L1.set i r1)⟩
theorem s_expr (he : EM X E e m) (hs : swapsWith e none pos.line X.env = pure false := by rfl) : SM X E (.Expr e pos) (mExpr m) :=
  ⟨(ps_expr he.pe hs).weak fun s H D0 ⟨p, l, S, R, L, h⟩ => T.of R L h fun p1 S1 H1 d v R1 x1 L1 r1 h1 => Post.nx h1 R1 L1⟩
theorem s_ret (he : EM X E e m) : SM X E (.Return (some e) pos) (mRet m) :=
  ⟨(ps_ret he.pe).weak fun s H D0 ⟨p, l, S, R, L, h⟩ => T.of R L h fun p1 S1 H1 d v R1 x1 L1 r1 h1 => Post.ok (Q := QF _ D0) h1 Ext.refl R1 v r1⟩
theorem s_retN : SM X E (.Return none pos) mRetN := ⟨ps_retN.weak fun s H D0 ⟨p, l, S, R, L, h⟩ => Post.ok (Q := QF _ D0) h Ext.refl R .non .non⟩
theorem TSt.last {K : PySem.W.Frag} {s : St} {H : Hp} {D0 : Ends} {p : Nat → Addr} {l : Ls} {S : Hs} (R : Real K p S H) (L : Sl K p S.length H l s) (h : Post K E S.length p H (f l S) (QF K D0)) : TSt K E f D0 s H := ⟨p, l, S, R, L, h⟩
theorem s_if {c : Expr} {a b : List Stmt} {cm : MB} (hc : BM X E c cm) (ha : SMs X E a f) (hb : SMs X E b g) : SM X E (.If c a b pos) (mIfS cm f g) :=
  ⟨(ps_if hc.pt ha.ps hb.ps).weak fun s H D0 ⟨p, l, S, R, L, h⟩ => TB.of R L h fun p1 S1 H1 b R1 x1 L1 h1 => by
    cases b with
    | true => exact TSt.last R1 L1 h1
    | false => exact TSt.last R1 L1 h1⟩
end
/-! ### loops: a tail recursion -/
def iter {A β : Type} (step : A → Sum A (R β)) : Nat → A → R β
  | 0, _ => .bad
  | n + 1, a => Sum.elim (iter step n) id (step a)
theorem iter_succ {A β : Type} (step : A → Sum A (R β)) : ∀ n a, iter step n a ≠ .bad → iter step (n + 1) a = iter step n a
  | 0, a, h => absurd rfl h
  | n + 1, a, h => by
    simp only [iter] at h ⊢
    cases e : step a with
    | inl a' => rw [e] at h; exact iter_succ step n a' h
    | inr r => rfl
theorem iter_le {A β : Type} (step : A → Sum A (R β)) {n m : Nat} (hnm : n ≤ m) {a : A} (h : iter step n a ≠ .bad) : iter step m a = iter step n a := by
  induction hnm with
  | refl => rfl
  | step _ ih => rw [iter_succ step _ a (by rw [ih]; exact h), ih]
open Classical in
noncomputable def runI {A β : Type} (step : A → Sum A (R β)) (a : A) : R β := if h : ∃ n, iter step n a ≠ .bad then iter step h.choose a else .bad
theorem runI_of {A β : Type} {step : A → Sum A (R β)} {n : Nat} {a : A} (h : iter step n a ≠ .bad) : runI step a = iter step n a := by
  have hx : ∃ n, iter step n a ≠ .bad := ⟨n, h⟩
  unfold runI
  rw [dif_pos hx]
  rcases Nat.le_total n hx.choose with q | q
  · exact iter_le step q h
  · exact (iter_le step q hx.choose_spec).symm
theorem runI_ex {A β : Type} {step : A → Sum A (R β)} {a : A} (h : runI step a ≠ .bad) : ∃ n, iter step n a = runI step a ∧ iter step n a ≠ .bad := by
  apply Classical.byContradiction
  intro hx
  refine h ?_
  have : ¬ ∃ n, iter step n a ≠ .bad := fun ⟨n, hn⟩ => hx ⟨n, (runI_of hn).symm, hn⟩
  unfold runI; rw [dif_neg this]
theorem runI_eq {A β : Type} (step : A → Sum A (R β)) (a : A) : runI step a = match step a with
    | .inl a' => runI step a'
    | .inr r => r := by
  cases e : step a with
  | inr r =>
    show runI step a = r
    by_cases hr : r = .bad
    · subst hr
      apply Classical.byContradiction
      intro h
      obtain ⟨n, _, hn⟩ := runI_ex h
      cases n with
      | zero => exact hn rfl
      | succ n => simp only [iter, e] at hn; exact hn rfl
    · have : iter step 1 a = r := by simp only [iter, e]; rfl
      rw [runI_of (n := 1) (by rw [this]; exact hr), this]
  | inl a' =>
    show runI step a = runI step a'
    by_cases h : runI step a' = .bad
    · rw [h]
      apply Classical.byContradiction
      intro h2
      obtain ⟨n, _, hn⟩ := runI_ex h2
      cases n with
      | zero => exact hn rfl
      | succ n =>
        simp only [iter, e] at hn
        exact hn (by rw [Sum.elim_inl, ← runI_of hn]; exact h)
    · obtain ⟨n, e1, hn⟩ := runI_ex h
      have : iter step (n + 1) a = iter step n a' := by simp only [iter, e]; rfl
      rw [runI_of (n := n + 1) (by rw [this]; exact hn), this, e1]
/-- what a turn's body leads to -/
def turnOf {A : Type} (r : R F) (next : Ls → Hs → A) : Sum A (R F) := match r with
  | .ok (.nx l) S => .inl (next l S)
  | .ok (.ct l) S => .inl (next l S)
  | .ok (.bk l) S => .inr (.ok (.nx l) S)
  | .ok (.rt d) S => .inr (.ok (.rt d) S)
  | .exc c fs l S => .inr (.exc c fs l S)
  | .bad => .inr .bad
def wStep (c : MB) (b : MS) (a : Ls × Hs) : Sum (Ls × Hs) (R F) := match c a.1 a.2 with
  | .ok t S1 => if t = true then turnOf (b a.1 S1) Prod.mk else .inr (.ok (.nx a.1) S1)
  | .exc c fs l S => .inr (.exc c fs l S)
  | .bad => .inr .bad
noncomputable def mWhile (c : MB) (b : MS) : MS := fun l S => runI (wStep c b) (l, S)
theorem mWhile_eq (c : MB) (b : MS) (l : Ls) (S : Hs) : mWhile c b l S = (c l S).bind fun t S1 => if t = true then (b l S1).bind fun r S2 => match r with
    | .nx l2 => mWhile c b l2 S2
    | .ct l2 => mWhile c b l2 S2
    | .bk l2 => .ok (.nx l2) S2
    | .rt d => .ok (.rt d) S2
    else .ok (.nx l) S1 := by
  unfold mWhile
  rw [runI_eq]
  unfold wStep turnOf
  simp only []
  cases c l S with
  | ok t S1 =>
    cases t with
    | false => rfl
    | true =>
      simp only [if_true, R.bind_ok]
      cases b l S1 with
      | ok r S2 => cases r <;> rfl
      | exc _ _ _ _ => rfl
      | bad => rfl
  | exc _ _ _ _ => rfl
  | bad => rfl
theorem Post.ne {α : Type} {K : PySem.W.Frag} {E : St → XK} {n : Nat} {p : Nat → Addr} {H : Hp} {r : R α} {Q : α → Hs → (Nat → Addr) → Hp → Prop} (h : Post K E n p H r Q) : r ≠ .bad := fun e => by subst e; exact h
section
variable {X : Cx} {E : St → XK} {g : MS} {pos : Pos}
/-- a turn whose end is wished for -/
theorem turn_post {K : PySem.W.Frag} {A : Type} {step : A → Sum A (R F)} {m : Nat} {p : Nat → Addr} {S : Hs} {H : Hp} {D0 : Ends} {r : R F} {next : Ls → Hs → A} {N : St → Hp → Prop}
    (h : Post K E S.length p H (Sum.elim (iter step m) id (turnOf r next)) (QF K D0))
    (hN : ∀ l S2 p2 H2 s, Ext S.length S2.length p p2 H H2 → Real K p2 S2 H2 → Sl K p2 S2.length H2 l s → Post K E S2.length p2 H2 (iter step m (next l S2)) (QF K D0) → N s H2) :
    Post K E S.length p H r (QF K { D0 with nx := N, ct := N, bk := D0.nx }) := by
  unfold turnOf at h
  cases r with
  | ok f S2 =>
    intro p2 H2 x R2
    cases f with
    | nx l => exact fun s L => hN l S2 p2 H2 s x R2 L (Post.ext h x)
    | ct l => exact fun s L => hN l S2 p2 H2 s x R2 L (Post.ext h x)
    | bk l => exact fun s L => Post.nx (Post.ext h x) R2 L
    | rt d => exact fun v r => Post.ok (Q := QF _ D0) (Post.ext h x) Ext.refl R2 v r
  | exc c fs l S2 => exact h
  | bad => exact h
theorem s_while {c : Expr} {body : List Stmt} {cm : MB} (hp : PassesOwn (model X.prog X.w) X.A X.env X.xe) (hc : BM X E c cm) (hb : SMs X E body g) : SM X E (.While c body [] pos) (mWhile cm g) :=
  ⟨(ps_while hp hc.pt hb.ps).weak fun s H D0 ⟨p, l, S, R, L, h⟩ => by
    obtain ⟨n, hn, _⟩ := runI_ex (Post.ne h)
    rw [show mWhile cm g l S = _ from hn.symm] at h
    refine ⟨fun m s H => ∃ p l S, Real X.K p S H ∧ Sl X.K p S.length H l s ∧ Post X.K E S.length p H (iter (wStep cm g) m (l, S)) (QF X.K D0), ⟨n, p, l, S, R, L, h⟩, ?_⟩
    rintro m s H ⟨p, l, S, R, L, h⟩
    cases m with
    | zero => exact h.elim
    | succ m =>
      simp only [iter, wStep] at h
      refine ⟨p, l, S, R, L, ?_⟩
      cases e : cm l S with
      | bad => rw [e] at h; exact h
      | exc c fs l2 S2 => rw [e] at h; exact h
      | ok t S1 =>
        rw [e] at h
        simp only [] at h
        intro p1 H1 x R1
        cases t with
        | false => exact Post.nx (Post.ext h x) R1 (L.ext x)
        | true =>
          simp only [if_true] at h ⊢
          exact ⟨fun s H => ∃ p l S, Real X.K p S H ∧ Sl X.K p S.length H l s ∧ Post X.K E S.length p H (iter (wStep cm g) m (l, S)) (QF X.K D0), fun s' H' w => ⟨m, Nat.lt_succ_self m, w⟩, p1, l, S1, R1, L.ext x,
            turn_post (Post.ext h x) fun l2 S2 p2 H2 s2 _ R2 L2 h2 => ⟨p2, l2, S2, R2, L2, h2⟩⟩⟩
end
end Ly
set_option Elab.async false
set_option linter.all false
set_option maxRecDepth 100000
namespace Ly
open PySem PySem.Spec L2
open PyProof.Rows hiding St
/-! ### defs -/
/-- an exception is told at the caller's slots -/
def R.at {α : Type} (r : R α) (l : Ls) : R α := match r with
  | .exc c fs _ S => .exc c fs l S
  | r => r
@[simp] theorem R.at_ok {α : Type} (a : α) (S : Hs) (l : Ls) : (R.ok a S).at l = .ok a S := (show (R.ok a S).at l = .ok a S from rfl).trans (Eq.refl _)
@[simp] theorem R.at_exc {α : Type} (c fs l2) (S : Hs) (l : Ls) : (R.exc c fs l2 S : R α).at l = .exc c fs l S := (show (R.exc c fs l2 S : R α).at l = .exc c fs l S from rfl).trans (Eq.refl _)
@[simp] theorem R.at_bad {α : Type} (l : Ls) : (R.bad : R α).at l = .bad := rfl
abbrev MD := List D → Hs → R D
def endOf (r : R F) : R D := match r with
  | .ok (.nx _) S => .ok .non S
  | .ok (.rt d) S => .ok d S
  | .ok _ _ => .bad
  | .exc c fs _ S => .exc c fs [] S
  | .bad => .bad
def mDef (np nl : Nat) (body : MS) : MD := fun ds S => if ds.length = np then endOf (body (ds.map some ++ List.replicate nl none) S) else .bad
def spM (K : PySem.W.Frag) (np : Nat) (m : MD) : Sp := fun vs H Q E => ∃ p S ds, Real K p S H ∧ Reps K p S.length H ds vs ∧ ds.length = np ∧ Post K (fun _ => E) S.length p H (m ds S) (QD K Q)
theorem spM_len {K : PySem.W.Frag} {np : Nat} {m : MD} {vs : List V} {H : Hp} {Q : VK} {E : XK} (h : spM K np m vs H Q E) : vs.length = np := by
  obtain ⟨p, S, ds, R, r, hl, _⟩ := h
  rw [← r.len]; exact hl
theorem Reps.sl {K : PySem.W.Frag} {p : Nat → Addr} {n : Nat} {H : Hp} {ds : List D} {vs : List V} (r : Reps K p n H ds vs) (m : Nat) : Sl K p n H (ds.map some ++ List.replicate m none) (vs.map some ++ List.replicate m none) := by
  induction ds generalizing vs with
  | nil =>
    cases r
    simp only [List.map_nil, List.nil_append]
    induction m with
    | zero => exact .nil
    | succ m ih => exact .no _ ih
  | cons d ds ih => cases r with | cons r s => exact .yes r (ih s)
section
variable {P : Program} {w : World} {K : PySem.W.Frag} {mg : Str → Option Value} {base : Heap}
/-- a def of the text does what its mirror says -/
theorem fn_def {x qual : Str} {st : Stmt} {f : Addr} {fd : FuncData} {N ps : List Str} {k : Nat} {np nl : Nat} {m : MS} (F : Fun K x qual st f fd) (S : FnScope N ps (defScope st)) (hp : ps.length = np) (hn : N.length = np + nl)
    (hb : ∀ (cdv : Value) (A : Around) (outer : List Env) (s : Shared) (H : Hp) (E : XK), Room k (A.deeper (PyProof.Rows.envOfC qual (defScope st) s.heap.objs.size f cdv)) →
      SMs (cxOf (L2.CX P w) P w K mg base N qual (defScope st) f cdv A outer s H E) (fun _ => E) (defBody st) m) : FnOk P w K mg base (L2.CX P w) (k + 1) f fd ps (spM K np (mDef np nl m)) := by
  refine F.okX S (fun vs H Q E h => (spM_len h).trans hp.symm) fun cdv A outer s H vs Q E hr h => ⟨_, (hb cdv A outer s H E hr).ps, ?_⟩
  obtain ⟨p, S0, ds, R, r, hl, h⟩ := h
  have e : L2.start N vs = vs.map some ++ List.replicate nl none := by
    unfold L2.start
    rw [hn, ← r.len, hl, Nat.add_sub_cancel_left]
  refine ⟨p, ds.map some ++ List.replicate nl none, S0, R, by rw [e]; exact r.sl nl, ?_⟩
  unfold mDef at h
  rw [if_pos hl] at h
  revert h
  generalize m _ S0 = res
  intro h
  cases res with
  | ok a S1 =>
    intro p1 H1 x1 R1
    cases a with
    | nx l1 => exact fun s1 L1 => Post.ok (Q := QD K Q) h x1 R1 _ .non
    | rt d => exact fun v r => Post.ok (Q := QD K Q) h x1 R1 v r
    | bk l1 => exact h.elim
    | ct l1 => exact h.elim
  | exc c fs l S1 => exact fun p1 H1 u d s1 x1 R1 rc rf L1 => h p1 H1 u d [] x1 R1 rc rf .nil
  | bad => exact h
/-- the raising wish of a def's body -/
theorem pass_def {N : List Str} {qual : Str} {scope : Scope} {f : Addr} {cdv : Value} {A : Around} {outer : List Env} {s : Shared} {H : Hp} {E : XK} :
    Passes (L2.CX P w) (cxOf (L2.CX P w) P w K mg base N qual scope f cdv A outer s H E) E :=
  passes_call (takes_of rfl rfl rfl rfl) fun _ _ _ _ h => h
end
section
variable {X : Cx} {E : St → XK} {CX : CXT} {k : Nat} {f C : Addr} {fd : FuncData} {ps : List Str} {np : Nat} {md : MD} {x m : Str} {p pos apos : Pos} {e o : Expr} {es : List Expr} {g : ML} {E0 : XK}
def mFn (md : MD) (g : ML) : M := fun l S => (g l S).bind fun ds S1 => (md ds S1).at l
theorem fn_post {α : Type} {K : PySem.W.Frag} {n : Nat} {q : Nat → Addr} {H : Hp} {r : R α} {l : Ls} {s : St} {Q : α → Hs → (Nat → Addr) → Hp → Prop} (L : Sl K q n H l s) (h : Post K E n q H (r.at l) Q) : Post K (fun _ => E s) n q H r Q := by
  cases r with
  | ok a S => exact h
  | exc c fs l2 S => exact fun p1 H1 u d s1 x1 R1 rc rf L1 => h p1 H1 u d s x1 R1 rc rf (L.ext x1)
  | bad => exact h
theorem e_fn (F : FnOk X.prog X.w X.K X.mg X.base CX k f fd ps (spM X.K np md)) (hp : ∀ ds S, ds.length ≠ np → md ds S = .bad) (hr : Room k X.A) (hg : Gl X x) (hm : X.mg x = some (.ref f)) (hk : PySem.W.keepIn X.K (.ref f) = true) (hb : Binds X.K fd ps [])
    (hx : ∀ σ, PassesAt CX X σ (E σ)) (ha : LM X E (e :: es) g) (hdb : (x == ("__debug__" : Str)) = false := by decide) (he : starEach (e :: es) X.env = (false, eval e X.env) :: starEach es X.env := by rfl)
    (hpl : (backTo pos (starEach es X.env)).any (·.1) = false := by rfl) : EM X E (.Call (.Name x p) (e :: es) [] pos) (mFn md g) :=
  ⟨(pe_callSD F hr hg hm hk hb .nil hx ha.pa hdb he hpl).weak fun s H Q ⟨q, l, S, R, L, h⟩ => TL.of R L h fun p1 S1 H1 d v R1 x1 L1 r1 h1 => by
    refine ⟨p1, S1, d, R1, by rw [List.append_nil]; exact r1, ?_, fn_post L1 h1⟩
    apply Classical.byContradiction
    intro hne
    rw [hp d S1 hne] at h1
    exact h1⟩
theorem e_fn0 (F : FnOk X.prog X.w X.K X.mg X.base CX k f fd ps (spM X.K 0 md)) (hr : Room k X.A) (hg : Gl X x) (hm : X.mg x = some (.ref f)) (hk : PySem.W.keepIn X.K (.ref f) = true) (hb : Binds X.K fd ps [])
    (hx : Passes CX X E0) (hdb : (x == ("__debug__" : Str)) = false := by decide) : EM X (fun _ => E0) (.Call (.Name x p) [] [] pos) (mFn md lNil) :=
  ⟨(pe_call0 F hr hg hm hk hb .nil hx hdb).weak fun s H Q ⟨q, l, S, R, L, h⟩ => ⟨q, S, [], R, .nil, rfl, fn_post (E := fun _ => E0) L h⟩⟩
theorem Passes.at (h : Passes CX X E0) (σ : St) : PassesAt CX X σ E0 := fun pins H s e s' => h pins σ H s e s'
end
theorem mDef_len {np nl : Nat} {b : MS} (ds : List D) (S : Hs) (h : ds.length ≠ np) : mDef np nl b ds S = .bad := if_neg h
/-! ### another mirror in the place of the first one -/
mutual
def D.low (n : Nat) : D → Prop
  | .ref i => i < n
  | .tup ds => D.lows n ds
  | .wt ds => D.lows n ds
  | .wl ds => D.lows n ds
  | _ => True
def D.lows (n : Nat) : List D → Prop
  | [] => True
  | d :: ds => D.low n d ∧ D.lows n ds
end
def O.low (n : Nat) : O → Prop
  | .lst ds => D.lows n ds
  | .rol ds => D.lows n ds
  | .dic kvs => D.lows n (kvs.map (·.2))
  | .dit kvs => D.lows n (kvs.map (·.2))
  | .ins _ fs => D.lows n (fs.map (·.2))
/-- nothing leads out of the store -/
def Wf (S : Hs) : Prop := ∀ (i : Nat) (o : O), S[i]? = some o → o.low S.length
section
variable {K : PySem.W.Frag} {pi : Nat → Addr} {n m : Nat} {H : Hp}
mutual
theorem Rep.low : ∀ (d : D) (v : V), Rep K pi n H d v → d.low n
  | .non, _, _ => by simp [D.low]
  | .bl _, _, _ => by simp [D.low]
  | .int _, _, _ => by simp [D.low]
  | .str _, _, _ => by simp [D.low]
  | .tup ds, _, .tup t r => by simp only [D.low]; exact Reps.low ds _ r
  | .wt ds, _, .wt t r => by simp only [D.low]; exact Reps.low ds _ r
  | .wl ds, _, .wl t r => by simp only [D.low]; exact Reps.low ds _ r
  | .ref i, _, .ref h => by simpa [D.low] using h
  | .cst _, _, _ => by simp [D.low]
theorem Reps.low : ∀ (d : List D) (v : List V), Reps K pi n H d v → D.lows n d
  | [], _, _ => by simp [D.lows]
  | d :: ds, _, .cons r s => by simp only [D.lows]; exact ⟨Rep.low d _ r, Reps.low ds _ s⟩
end
mutual
theorem Rep.cut : ∀ (d : D) (v : V), Rep K pi n H d v → d.low m → Rep K pi m H d v
  | .non, _, .non, _ => .non
  | .bl _, _, .bl _, _ => .bl _
  | .int _, _, .int _, _ => .int _
  | .str _, _, .str _, _ => .str _
  | .tup ds, _, .tup t r, h => .tup t (Reps.cutN ds _ r (by simpa only [D.low] using h))
  | .wt ds, _, .wt t r, h => .wt t (Reps.cutN ds _ r (by simpa only [D.low] using h))
  | .wl ds, _, .wl t r, h => .wl t (Reps.cutN ds _ r (by simpa only [D.low] using h))
  | .ref i, _, .ref _, h => .ref (by simpa only [D.low] using h)
  | .cst _, _, .cst _, _ => .cst _
theorem Reps.cutN : ∀ (d : List D) (v : List V), Reps K pi n H d v → D.lows m d → Reps K pi m H d v
  | [], _, .nil, _ => .nil
  | d :: ds, _, .cons r s, h => by
    simp only [D.lows] at h
    exact .cons (Rep.cut d _ r h.1) (Reps.cutN ds _ s h.2)
end
theorem RO.low {a : Addr} {o : O} (h : RO K pi n H a o) : o.low n := by
  cases o with
  | lst ds => obtain ⟨xs, _, h2⟩ := h; exact h2.low
  | rol ds => obtain ⟨o, xs, _, h2⟩ := h; exact h2.low
  | dic kvs => obtain ⟨ks, _, _, h3⟩ := h; exact h3.low
  | dit kvs => obtain ⟨ks, _, _, h3⟩ := h; exact h3.low
  | ins C fs => obtain ⟨dx, ks, _, _, h3⟩ := h; exact h3.low
theorem RO.cut {a : Addr} {o : O} (h : RO K pi n H a o) (l : o.low m) : RO K pi m H a o := by
  cases o with
  | lst ds => obtain ⟨xs, h1, h2⟩ := h; exact ⟨xs, h1, h2.cutN _ _ l⟩
  | rol ds => obtain ⟨o, xs, h1, h2⟩ := h; exact ⟨o, xs, h1, h2.cutN _ _ l⟩
  | dic kvs => obtain ⟨ks, h1, h2, h3⟩ := h; exact ⟨ks, h1, h2, h3.cutN _ _ l⟩
  | dit kvs => obtain ⟨ks, h1, h2, h3⟩ := h; exact ⟨ks, h1, h2, h3.cutN _ _ l⟩
  | ins C fs => obtain ⟨dx, ks, h1, h2, h3⟩ := h; exact ⟨dx, ks, h1, h2, h3.cutN _ _ l⟩
theorem Real.wf {S : Hs} (R : Real K pi S H) : Wf S := fun i o e => (R.ob i o e).low
theorem Real.drop {S g : Hs} (R : Real K pi (S ++ g) H) (w : Wf S) : Real K pi S H := by
  refine ⟨fun i o e => ?_, fun i j hi hj => R.inj i j (by simp; omega) (by simp; omega)⟩
  have hi := (List.getElem?_eq_some_iff.mp e).1
  exact (R.ob i o (by rw [List.getElem?_append_left hi]; exact e)).cut (w i o e)
end
/-- m' says less than m: where it says something, m says it, and may have laid more -/
def Fine (np : Nat) (m' m : MD) : Prop := ∀ ds S, Wf S → D.lows S.length ds → ds.length = np → match m' ds S with
  | .ok v S' => S.length ≤ S'.length ∧ Wf S' ∧ v.low S'.length ∧ ∃ g, m ds S = .ok v (S' ++ g)
  | .exc c fs l S' => l = [] ∧ S.length ≤ S'.length ∧ Wf S' ∧ (∀ l, fs = some l → D.lows S'.length (l.map (·.2))) ∧ ∃ g, m ds S = .exc c fs [] (S' ++ g)
  | .bad => True
theorem spM_fine {K : PySem.W.Frag} {np : Nat} {m' m : MD} (hf : Fine np m' m) {vs : List V} {H : Hp} {Q : VK} {E : XK} (h : spM K np m' vs H Q E) : spM K np m vs H Q E := by
  obtain ⟨p, S, ds, R, r, hl, h⟩ := h
  refine ⟨p, S, ds, R, r, hl, ?_⟩
  have f := hf ds S R.wf r.low hl
  revert f h
  cases m' ds S with
  | ok v S' =>
    intro h f
    obtain ⟨h1, h2, h3, g, e⟩ := f
    rw [e]
    intro p1 H1 x1 R1 u r1
    exact Post.ok (Q := QD K Q) h ⟨h1, x1.ag, x1.tp⟩ (R1.drop h2) u (r1.cut _ _ h3)
  | exc c fs l S' =>
    intro h f
    obtain ⟨rfl, h1, h2, h3, g, e⟩ := f
    rw [e]
    intro p1 H1 u d s x1 R1 rc rf L
    refine h p1 H1 u d s ⟨h1, x1.ag, x1.tp⟩ (R1.drop h2) rc ?_ ?_
    · unfold XFs at rf ⊢
      cases d <;> cases fs <;> first | exact rf | skip
      obtain ⟨ks, k1, k2, k3⟩ := rf
      exact ⟨ks, k1, k2, k3.cutN _ _ (h3 _ rfl)⟩
    · cases L; exact .nil
  | bad => intro h f; exact h.elim
end Ly
set_option Elab.async false
set_option linter.all false
set_option maxRecDepth 100000
namespace Ly
open PySem PySem.Spec L2
open PyProof.Rows hiding St
/-! ### targets -/
abbrev MG := D → Ls → Hs → R Ls
def TG' (K : PySem.W.Frag) (E : St → XK) (f : MG) : TG := fun v s H Q => ∃ p l S d, Real K p S H ∧ Sl K p S.length H l s ∧ Rep K p S.length H d v ∧ Post K E S.length p H (f d l S) (fun l1 S1 p1 H1 => ∀ s1, Sl K p1 S1.length H1 l1 s1 → Q s1 H1)
structure GM (X : Cx) (E : St → XK) (t : Expr) (f : MG) : Prop where pg : PG X t (TG' X.K E f)
theorem _root_.L2.PG.weak {X : Cx} {e : Expr} {t t' : TG} (h : PG X e t) (w : ∀ v s H Q, t' v s H Q → t v s H Q) : PG X e t' := ⟨fun pins s σ H v u Q I r q => h.run pins s σ H v u Q I r (w v σ H Q q)⟩
def gN (i : Nat) : MG := fun d l S => .ok (l.set i (some d)) S
abbrev MGs := List D → Ls → Hs → R Ls
def gsN : MGs := fun ds l S => match ds with
  | [] => .ok l S
  | _ => .bad
def gsC (f : MG) (g : MGs) : MGs := fun ds l S => match ds with
  | d :: r => (f d l S).bind fun l1 S1 => g r l1 S1
  | [] => .bad
def gT (n : Nat) (f : MGs) : MG := fun d l S => match d with
  | .tup ds => if ds.length = n then f ds l S else .bad
  | .wt ds => if ds.length = n then f ds l S else .bad
  | _ => .bad
def TGs' (K : PySem.W.Frag) (E : St → XK) (f : MGs) : TGs := fun v s H Q => ∃ p l S d, Real K p S H ∧ Sl K p S.length H l s ∧ Reps K p S.length H d v ∧ Post K E S.length p H (f d l S) (fun l1 S1 p1 H1 => ∀ s1, Sl K p1 S1.length H1 l1 s1 → Q s1 H1)
structure GMs (X : Cx) (E : St → XK) (t : List Expr) (f : MGs) : Prop where pgs : PGs X t (TGs' X.K E f)
section
variable {X : Cx} {E : St → XK} {pos : Pos}
theorem g_n {i : Nat} {x : Str} (hN : X.N.Nodup) (hi : X.N[i]? = some x := by rfl) (hx : L2.Loc X.env.scope x := by first | exact Or.inl rfl | exact Or.inr rfl) (hf : X.fn x = true ∨ X.env.scope.names.lookup x = some .local := by first | exact .inl rfl | exact .inr rfl | assumption) : GM X E (.Name x pos) (gN i) :=
  ⟨(pg_name hN hi hx hf).weak fun v s H Q ⟨p, l, S, d, R, L, r, h⟩ => Post.ok h Ext.refl R _ (L.set i r)⟩
theorem gs_nil : GMs X E [] gsN := ⟨⟨fun pins s σ H vs us Q I rv ⟨p, l, S, d, R, L, r, h⟩ => by
  refine pgs_nil.run pins s σ H vs us Q I rv ?_
  unfold gsN at h
  split at h
  · cases r; exact ⟨rfl, Post.ok h Ext.refl R _ L⟩
  · exact h.elim⟩⟩
theorem gs_cons {e : Expr} {es : List Expr} {f : MG} {g : MGs} (h1 : GM X E e f) (h2 : GMs X E es g) (hs : (assignEach (e :: es) X.env).map (·.2) = assign e X.env :: (assignEach es X.env).map (·.2) := by rfl) : GMs X E (e :: es) (gsC f g) :=
  ⟨⟨fun pins s σ H vs us Q I rv ⟨p, l, S, d, R, L, r, h⟩ => by
    refine (pgs_cons h1.pg h2.pgs hs).run pins s σ H vs us Q I rv ?_
    unfold gsC at h
    split at h
    · cases r with
      | cons r0 rs =>
      exact ⟨_, _, rfl, p, l, S, _, R, L, r0, h.bind.mono fun l1 S1 p1 H1 _ x1 R1 q s1 L1 => ⟨p1, l1, S1, _, R1, L1, rs.ext x1 _ _, q⟩⟩
    · exact h.elim⟩⟩
theorem g_tup {es : List Expr} {k n : Nat} {f : MGs} (hc : X.calm = true) (h : GMs X E es f) (hn : (assignEach es X.env).length = n := by rfl) (hst : (assignEach es X.env).findIdx? (·.1) = none := by rfl) : GM X E (.Tuple es k pos) (gT n f) :=
  ⟨(pg_tup hc h.pgs hn hst).weak fun v s H Q ⟨p, l, S, d, R, L, r, h⟩ => by
    unfold gT at h
    split at h
    · split at h
      · rename_i hl
        cases r with
        | tup t r => exact ⟨_, _, rfl, SqT.of t, by rw [← r.len]; exact hl, p, l, S, _, R, L, r, h⟩
      · exact h.elim
    · split at h
      · rename_i hl
        cases r with
        | wt t r => exact ⟨_, _, rfl, t.sq, by rw [← r.len]; exact hl, p, l, S, _, R, L, r, h⟩
      · exact h.elim
    · exact h.elim⟩
def mAsg (f : M) (g : MG) : MS := fun l S => (f l S).bind fun d S1 => (g d l S1).bind fun l1 S2 => .ok (.nx l1) S2
theorem s_asg {tg e : Expr} {f : M} {g : MG} (he : EM X E e f) (hg : GM X E tg g) (hs : swapsWithSole [tg] e pos.line X.env = pure false := by rfl) (hw : swappedStores [tg] e X.env = pure none := by rfl)
    (h1 : (assignEach [tg] X.env).map (·.2) = [assign tg X.env] := by rfl) : SM X E (.Assign [tg] e pos) (mAsg f g) :=
  ⟨(ps_asg he.pe hg.pg hs hw h1).weak fun s H D0 ⟨p, l, S, R, L, h⟩ => T.of R L h fun p1 S1 H1 d v R1 x1 L1 r1 h1 => ⟨p1, l, S1, d, R1, L1, r1, h1.bind.mono fun l1 S2 p2 H2 _ x2 R2 q s2 L2 => Post.nx q R2 L2⟩⟩
/-! ### o[i] = v -/
def oSet (x y d : D) (S : Hs) : R Unit := match x with
  | .ref i => match S[i]? with
    | some (.lst xs) => (match y with
      | .int k => (match ixN xs.length k with
        | some j => .ok () (S.set i (.lst (xs.set j d)))
        | none => .bad)
      | _ => .bad)
    | some (.dic kvs) => (match y.key with
      | some k => if kvs.length < sizeLine then .ok () (S.set i (.dic (setK kvs k d))) else .bad
      | none => .bad)
    | some (.dit kvs) => (match y.tkey with
      | some k => if kvs.length < sizeLine then .ok () (S.set i (.dit (setK kvs k d))) else .bad
      | none => .bad)
    | _ => .bad
  | _ => .bad
abbrev rSetD : V → V → V → Hp → (Hp → Prop) → Prop := fun o i v H Q => ∃ a H', o = .ref a ∧ DPut H a i v H' ∧ Q H'
theorem set_dic (hu : X.A.units + 1 < cLine) : PSet X rSetD := by
  intro pins s σ H o i v ov iv u Q I ro ri rv h
  obtain ⟨a, H', rfl, g, q⟩ := h
  obtain rfl : ov = Value.ref a := ro
  exact d_setItem hu I g ri rv fun s4 I4 => ⟨H', I4, q⟩
abbrev rSetA : V → V → V → Hp → (Hp → Prop) → Prop := fun o i v H Q => rSetL o i v H Q ∨ rSetD o i v H Q
theorem set_all (hu : X.A.units + 1 < cLine) : PSet X rSetA := fun pins s σ H o i v ov iv u Q I ro ri rv h => h.elim (set_list pins s σ H o i v ov iv u Q I ro ri rv) (set_dic hu pins s σ H o i v ov iv u Q I ro ri rv)
theorem setK_V {κ : Type} [DecidableEq κ] {K : PySem.W.Frag} {pi : Nat → Addr} {n : Nat} {H : Hp} {kvs : List (κ × D)} {ks : List (κ × V)} (h : ks.map (·.1) = kvs.map (·.1)) (r : Reps K pi n H (kvs.map (·.2)) (ks.map (·.2))) (k : κ) {d : D} {v : V} (rv : Rep K pi n H d v) :
    (putK ks k v).map (·.1) = (setK kvs k d).map (·.1) ∧ Reps K pi n H ((setK kvs k d).map (·.2)) ((putK ks k v).map (·.2)) := by
  have hany : (ks.any fun kv => decide (kv.1 = k)) = kvs.any fun kv => decide (kv.1 = k) := by
    have e1 : (ks.any fun kv => decide (kv.1 = k)) = (ks.map (·.1)).any fun z => decide (z = k) := by rw [List.any_map]; rfl
    have e2 : (kvs.any fun kv => decide (kv.1 = k)) = (kvs.map (·.1)).any fun z => decide (z = k) := by rw [List.any_map]; rfl
    rw [e1, e2, h]
  unfold putK setK
  rw [hany]
  split
  · rename_i hx
    clear hx hany
    induction kvs generalizing ks with
    | nil => cases ks with | nil => exact ⟨rfl, .nil⟩ | cons a b => cases h
    | cons a kvs ih =>
      cases ks with
      | nil => cases h
      | cons b ks =>
        simp only [List.map_cons, List.cons.injEq] at h
        cases r with
        | cons r s =>
          obtain ⟨i1, i2⟩ := ih h.2 s
          simp only [List.map_cons, List.cons.injEq]
          rw [h.1]
          by_cases e : a.1 = k
          · simp only [e, if_true]; exact ⟨⟨trivial, i1⟩, .cons rv i2⟩
          · simp only [e, if_false]; exact ⟨⟨h.1, i1⟩, .cons r i2⟩
  · rw [List.map_append, List.map_append, List.map_append, List.map_append, h]
    exact ⟨rfl, r.append (.cons rv .nil)⟩
theorem Post.put1 {K : PySem.W.Frag} {p : Nat → Addr} {S : Hs} {H : Hp} {i : Nat} {o : O} {u : HO} {Q : Unit → Hs → (Nat → Addr) → Hp → Prop} (h : Post K E S.length p H (.ok () (S.set i o)) Q) (R : Real K p S H) (hi : i < S.length)
    (ro : RO K p S.length (upd H (p i) u) (p i) o) : Q () (S.set i o) p (upd H (p i) u) := by
  have e : (S.set i o).length = S.length := by simp
  exact Post.ok h (by rw [e]; exact ext_upd (R.notup hi)) (R.put hi ro)
theorem ok_set {K : PySem.W.Frag} {p : Nat → Addr} {S : Hs} {H : Hp} {x y d : D} {v u w : V} {Q : Hp → Prop} {QQ : Unit → Hs → (Nat → Addr) → Hp → Prop} (R : Real K p S H) (rx : Rep K p S.length H x v) (ry : Rep K p S.length H y u) (rd : Rep K p S.length H d w)
    (h : Post K E S.length p H (oSet x y d S) QQ) (hq : ∀ S1 H1, Ext S.length S1.length p p H H1 → Real K p S1 H1 → QQ () S1 p H1 → Q H1) : rSetA v u w H Q := by
  have fin : ∀ {i : Nat} {o : O} {z : HO}, i < S.length → Post K E S.length p H (.ok () (S.set i o)) QQ → RO K p S.length (upd H (p i) z) (p i) o → Q (upd H (p i) z) := fun {i o z} hi h ro =>
    hq _ _ (by rw [List.length_set]; exact ext_upd (R.notup hi)) (R.put hi ro) (h.put1 R hi ro)
  unfold oSet at h
  split at h
  · split at h
    · rename_i q
      split at h
      · split at h
        · rename_i j e
          obtain ⟨vs, h1, r⟩ := R.lst q
          cases rx; cases ry
          refine .inl ⟨_, vs, _, j, rfl, rfl, h1, by rw [← r.len]; exact e, fin (Real.lt q) h ⟨_, upd_same, ?_⟩⟩
          exact (r.ext (ext_upd (R.notup (Real.lt q))) _ _).set j (rd.ext (ext_upd (R.notup (Real.lt q))) _ _)
        · exact h.elim
      · exact h.elim
    · rename_i kvs q
      split at h
      · rename_i k ek
        split at h
        · rename_i hl
          obtain ⟨ks, h1, h2, h3⟩ := R.ob _ _ q
          have hlen : ks.length = kvs.length := by simpa using congrArg List.length h2
          cases rx
          have sv := setK_V (H := upd H (p _) (.dK (putK ks k w))) h2 (h3.ext (ext_upd (R.notup (Real.lt q))) _ _) k (rd.ext (ext_upd (R.notup (Real.lt q))) _ _)
          exact .inr ⟨_, _, rfl, .inl ⟨ks, k, h1, key_V ry ek, by rw [hlen]; exact hl, rfl⟩, fin (Real.lt q) h ⟨_, upd_same, sv.1, sv.2⟩⟩
        · exact h.elim
      · exact h.elim
    · rename_i kvs q
      split at h
      · rename_i k ek
        split at h
        · rename_i hl
          obtain ⟨ks, h1, h2, h3⟩ := R.ob _ _ q
          have hlen : ks.length = kvs.length := by simpa using congrArg List.length h2
          cases rx
          have sv := setK_V (H := upd H (p _) (.dT (putK ks k w))) h2 (h3.ext (ext_upd (R.notup (Real.lt q))) _ _) k (rd.ext (ext_upd (R.notup (Real.lt q))) _ _)
          unfold D.tkey at ek
          split at ek
          · cases ry with
            | @tup b _ us t r =>
            exact .inr ⟨_, _, rfl, .inr ⟨ks, k, b, h1, rfl, by rw [← keys_V r ek]; exact t, by rw [hlen]; exact hl, rfl⟩, fin (Real.lt q) h ⟨_, upd_same, sv.1, sv.2⟩⟩
          · cases ek
        · exact h.elim
      · exact h.elim
    · exact h.elim
  · exact h.elim
def gSb (f g : M) : MG := fun d l S => (f l S).bind fun x S1 => (g l S1).bind fun y S2 => (oSet x y d S2).bind fun _ S3 => .ok l S3
theorem g_sub {o i : Expr} {f g : M} (hu : X.A.units + 1 < cLine) (ho : EM X E o f) (hi : EM X E i g)
    (ha : ∀ v, assign (.Subscript o i pos) X.env v = (do
      let ov ← holding [v] (eval o X.env)
      let iv ← holding [v, ov] (eval i X.env)
      standAt pos
      holding [v, ov, iv] (setItem ov iv v)
      release [v, ov, iv] []) := by intro _; rfl) : GM X E (.Subscript o i pos) (gSb f g) :=
  ⟨(pg_sub ho.pe hi.pe (set_all hu) ha).weak fun v s H Q ⟨p, l, S, d, R, L, r, h⟩ => T.of R L h fun p1 S1 H1 x vx R1 x1 L1 r1 h1 => T.of R1 L1 h1 fun p2 S2 H2 y vy R2 x2 L2 r2 h2 =>
    ok_set R2 (r1.ext x2 _ _) r2 ((r.ext x1 _ _).ext x2 _ _) h2.bind fun S3 H3 x3 R3 q => Post.ok q Ext.refl R3 _ (L2.ext x3)⟩
/-- o[i] = v as a statement -/
theorem s_sub {o i e : Expr} {f g m : M} {pos' : Pos} (hu : X.A.units + 1 < cLine) (he : EM X E e m) (ho : EM X E o f) (hi : EM X E i g)
    (hs : swapsWithSole [Expr.Subscript o i pos'] e pos.line X.env = pure false := by rfl) (hw : swappedStores [Expr.Subscript o i pos'] e X.env = pure none := by rfl) (h1 : (assignEach [Expr.Subscript o i pos'] X.env).map (·.2) = [assign (Expr.Subscript o i pos') X.env] := by rfl)
    (ha : ∀ v, assign (.Subscript o i pos') X.env v = (do
      let ov ← holding [v] (eval o X.env)
      let iv ← holding [v, ov] (eval i X.env)
      standAt pos'
      holding [v, ov, iv] (setItem ov iv v)
      release [v, ov, iv] []) := by intro _; rfl) : SM X E (.Assign [.Subscript o i pos'] e pos) (mAsg m (gSb f g)) := s_asg he (g_sub hu ho hi ha) hs hw h1
/-! ### x op= e -/
abbrev rIAddA : R2 := orR (rI0 fun i j => .int (i + j)) (orR (fun x y H Q => ∃ i j, x = V.str i ∧ y = V.str j ∧ i.length + j.length ≤ sizeLine ∧ Q (V.str (i ++ j)) H) (rCatA X.K))
def mAug (i : Nat) (op : D → D → Hs → R D) (f : M) : MS := fun l S => match l[i]? with
  | some (some x) => (f l S).bind fun y S1 => (op x y S1).bind fun d S2 => .ok (.nx (l.set i (some d))) S2
  | _ => .bad
theorem s_aug {i : Nat} {x : Str} {e : Expr} {op : Operator} {r : R2} {o : D → D → Hs → R D} {f : M} {pos' : Pos} (ho : OpR X (inplaceOp op) r) (hk : OpOk X.K E r o) (hN : X.N.Nodup) (he : EM X E e f) (hi : X.N[i]? = some x := by rfl) (hx : L2.Loc X.env.scope x := by first | exact Or.inl rfl | exact Or.inr rfl)
    (hf : X.fn x = true ∨ X.env.scope.names.lookup x = some .local := by first | exact .inl rfl | exact .inr rfl | assumption) : SM X E (.AugAssign (.Name x pos') op e pos) (mAug i o f) :=
  ⟨(ps_aug (ti := r) hN hi hx he.pe ho hf).weak fun s H D0 ⟨p, l, S, R, L, h⟩ => by
    unfold mAug at h
    split at h
    · rename_i d e
      obtain ⟨v, h1, r1⟩ := L.get e
      refine ⟨v, h1, T.of R L h fun p1 S1 H1 d1 v1 R1 x1 L1 r2 h2 => hk p1 S1 H1 _ _ _ _ _ R1 (r1.ext x1 _ _) r2 (h2.bind.mono fun d3 S3 p3 H3 _ x3 R3 q v3 r3 => Post.nx q R3 ((L1.ext x3).set i r3))⟩
    · exact h.elim⟩
def oIAdd : D → D → Hs → R D
  | .int i, .int j, S => .ok (.int (i + j)) S
  | .str x, .str y, S => if x.length + y.length ≤ sizeLine then .ok (.str (x ++ y)) S else .bad
  | _, _, _ => .bad
abbrev rIAdd2 : R2 := orR (rI0 fun i j => .int (i + j)) (fun x y H Q => ∃ i j, x = V.str i ∧ y = V.str j ∧ i.length + j.length ≤ sizeLine ∧ Q (V.str (i ++ j)) H)
theorem ok_iadd {K : PySem.W.Frag} : OpOk K E rIAdd2 oIAdd := by
  intro p S H x y v u Q R rx ry h
  unfold oIAdd at h
  split at h
  · cases rx; cases ry; exact .inl ⟨_, _, rfl, rfl, h.val R (.int _)⟩
  · split at h
    · rename_i hl; cases rx; cases ry; exact .inr ⟨_, _, rfl, rfl, hl, h.val R (.str _)⟩
    · exact h.elim
  · exact h.elim
theorem ok_sub2 {K : PySem.W.Frag} : OpOk K E (rI0 fun i j => .int (i - j)) oSub := ok_I0 (fun _ _ _ => rfl) fun x y S h => by unfold oSub; split <;> first | rfl | exact (h _ _ rfl rfl).elim
theorem s_iadd {i : Nat} {x : Str} {e : Expr} {f : M} {pos' : Pos} (hN : X.N.Nodup) (he : EM X E e f) (hi : X.N[i]? = some x := by rfl) (hx : L2.Loc X.env.scope x := by first | exact Or.inl rfl | exact Or.inr rfl)
    (hf : X.fn x = true ∨ X.env.scope.names.lookup x = some .local := by first | exact .inl rfl | exact .inr rfl | assumption) : SM X E (.AugAssign (.Name x pos') .Add e pos) (mAug i oIAdd f) := s_aug (OpR.or iop_add iop_add_str) ok_iadd hN he hi hx hf
theorem s_isub {i : Nat} {x : Str} {e : Expr} {f : M} {pos' : Pos} (hN : X.N.Nodup) (he : EM X E e f) (hi : X.N[i]? = some x := by rfl) (hx : L2.Loc X.env.scope x := by first | exact Or.inl rfl | exact Or.inr rfl)
    (hf : X.fn x = true ∨ X.env.scope.names.lookup x = some .local := by first | exact .inl rfl | exact .inr rfl | assumption) : SM X E (.AugAssign (.Name x pos') .Sub e pos) (mAug i oSub f) := s_aug iop_sub ok_sub2 hN he hi hx hf
/-- d[k] op= e of a dict -/
def mAugD (op : D → D → Hs → R D) (f g h : M) : MS := fun l S => (f l S).bind fun x S1 => (g l S1).bind fun y S2 => match dGet x y S2 with
  | some (some z) => (h l S2).bind fun w S3 => (op z w S3).bind fun d S4 => if (match x with | .ref i => (match S4[i]? with | some (.lst _) => false | _ => true) | _ => true) = true then (oSet x y d S4).bind fun _ S5 => .ok (.nx l) S5 else .bad
  | _ => .bad
end
end Ly
set_option Elab.async false
set_option linter.all false
set_option maxRecDepth 100000
namespace Ly
open PySem PySem.Spec L2
open PyProof.Rows hiding St
/-! ### what a loop goes over -/
inductive J where
  | tup (ds : List D) | lst (i : Nat) | rng (lo : Int) (n : Nat) | str (x : Str) | enum (i : Nat) | zip (i j : Nat)
def seqAt (S : Hs) (i : Nat) : Option (List D) := seqD (.ref i) S
/-- at the turn k: nothing is said; the end; an item -/
def itGo (j : J) (k : Nat) (S : Hs) : Option (Option D) := match j with
  | .tup ds => some ds[k]?
  | .lst i => (seqAt S i).map (·[k]?)
  | .rng lo n => some (if k < n then some (.int (lo + k)) else none)
  | .str x => some (x.cps[k]?.map fun c => .str ⟨#[c]⟩)
  | .enum i => (seqAt S i).map fun ds => ds[k]?.map fun d => .tup [.int k, d]
  | .zip a b => match seqAt S a, seqAt S b with
    | some xs, some ys => some (match xs[k]?, ys[k]? with
      | some x, some y => some (.tup [x, y])
      | _, _ => none)
    | _, _ => none
/-- what it stands for -/
def JRel (K : PySem.W.Frag) (p : Nat → Addr) (n : Nat) (H : Hp) : J → It → Prop
  | .tup ds, I => ∃ a vs, Rep K p n H (.tup ds) (.ref a) ∧ (H a = some (.tup vs) ∧ Reps K p n H ds vs) ∧ I = Itt K a ∨ Rep K p n H (.wt ds) (.ref a) ∧ (Wt K a vs ∧ Reps K p n H ds vs) ∧ I = Itt K a
  | .lst i, I => i < n ∧ I = Itl K (p i)
  | .rng lo m, I => I = Itr lo m
  | .str x, I => I = Its x
  | .enum i, I => i < n ∧ I = Ite K (p i)
  | .zip i j, I => i < n ∧ j < n ∧ I = Itz K (p i) (p j)
section
variable {K : PySem.W.Frag} {E : St → XK} {p q : Nat → Addr} {n m : Nat} {H H' : Hp} {S : Hs} {j : J} {I : It} {k : Nat}
theorem JRel.ext (h : JRel K p n H j I) (x : Ext n m p q H H') : JRel K q m H' j I := by
  cases j with
  | tup ds =>
    obtain ⟨a, vs, h⟩ := h
    rcases h with ⟨h1, ⟨h2, h3⟩, h4⟩ | ⟨h1, ⟨h2, h3⟩, h4⟩
    · exact ⟨a, vs, .inl ⟨h1.ext x _ _, ⟨x.tp _ _ h2, h3.ext x _ _⟩, h4⟩⟩
    · exact ⟨a, vs, .inr ⟨h1.ext x _ _, ⟨h2, h3.ext x _ _⟩, h4⟩⟩
  | lst i => obtain ⟨h1, h2⟩ := h; exact ⟨Nat.lt_of_lt_of_le h1 x.le, by rw [x.ag i h1]; exact h2⟩
  | rng lo m => exact h
  | str z => exact h
  | enum i => obtain ⟨h1, h2⟩ := h; exact ⟨Nat.lt_of_lt_of_le h1 x.le, by rw [x.ag i h1]; exact h2⟩
  | zip i j => obtain ⟨h1, h1', h2⟩ := h; exact ⟨Nat.lt_of_lt_of_le h1 x.le, Nat.lt_of_lt_of_le h1' x.le, by rw [x.ag i h1, x.ag j h1']; exact h2⟩
theorem seqAt_V {i : Nat} {ds : List D} (R : Real K p S H) (h : seqAt S i = some ds) : ∃ vs, SqL K H (p i) vs ∧ Reps K p S.length H ds vs := by
  have hi : i < S.length := by
    unfold seqAt seqD at h
    simp only at h
    split at h
    · rename_i q; exact Real.lt q
    · rename_i q; exact Real.lt q
    · cases h
  obtain ⟨a, vs, e, h1, r⟩ := seq_V R (.ref hi) h
  cases e
  exact ⟨vs, h1, r⟩
theorem Reps.none {ds : List D} {vs : List V} (r : Reps K p n H ds vs) (e : ds[k]? = none) : vs.length ≤ k := by
  rw [← r.len]; exact List.getElem?_eq_none_iff.mp e
theorem it_stop (R : Real K p S H) (h : JRel K p S.length H j I) (e : itGo j k S = some none) : I.stop k H := by
  cases j with
  | tup ds =>
    obtain ⟨a, vs, h⟩ := h
    simp only [itGo, Option.some.injEq] at e
    rcases h with ⟨h1, ⟨h2, h3⟩, rfl⟩ | ⟨h1, ⟨h2, h3⟩, rfl⟩
    · exact ⟨vs, SqT.of h2, h3.none e⟩
    · exact ⟨vs, h2.sq, h3.none e⟩
  | lst i =>
    obtain ⟨h1, rfl⟩ := h
    simp only [itGo, Option.map_eq_some_iff] at e
    obtain ⟨ds, e, e2⟩ := e
    obtain ⟨vs, hs, r⟩ := seqAt_V R e
    exact ⟨vs, hs, r.none e2⟩
  | rng lo m =>
    cases h
    simp only [itGo, Option.some.injEq] at e
    split at e
    · cases e
    · rename_i hk; exact Nat.le_of_not_lt hk
  | str x =>
    cases h
    simp only [itGo, Option.some.injEq, Option.map_eq_none_iff] at e
    exact Array.getElem?_eq_none_iff.mp e
  | enum i =>
    obtain ⟨h1, rfl⟩ := h
    simp only [itGo, Option.map_eq_some_iff] at e
    obtain ⟨ds, e, e2⟩ := e
    obtain ⟨vs, hs, r⟩ := seqAt_V R e
    exact ⟨vs, hs, r.none (by simpa using e2)⟩
  | zip a b =>
    obtain ⟨h1, h2, rfl⟩ := h
    simp only [itGo] at e
    split at e
    · rename_i xs ys e1 e2
      obtain ⟨vs, hs, r⟩ := seqAt_V R e1
      obtain ⟨us, hs', r'⟩ := seqAt_V R e2
      simp only [Option.some.injEq] at e
      refine ⟨vs, us, hs, hs', ?_⟩
      split at e
      · cases e
      · rename_i hno
        cases q1 : xs[k]? with
        | none => exact .inl (r.none q1)
        | some x =>
          cases q2 : ys[k]? with
          | none => exact .inr (r'.none q2)
          | some y => exact (hno x y q1 q2).elim
    · cases e
theorem it_go (R : Real K p S H) (h : JRel K p S.length H j I) {d : D} (e : itGo j k S = some (some d)) :
    I.go k H ∧ ∀ x H', I.yld k H x H' → Ext S.length S.length p p H H' ∧ Real K p S H' ∧ Rep K p S.length H' d x := by
  cases j with
  | tup ds =>
    obtain ⟨a, vs, h⟩ := h
    simp only [itGo, Option.some.injEq] at e
    rcases h with ⟨h1, ⟨h2, h3⟩, rfl⟩ | ⟨h1, ⟨h2, h3⟩, rfl⟩
    · obtain ⟨v, e2, r⟩ := h3.get e
      refine ⟨⟨vs, v, SqT.of h2, e2⟩, fun x H' y => ?_⟩
      obtain ⟨rfl, y⟩ := y
      have := (y vs (SqT.of h2)).symm.trans e2
      cases this
      exact ⟨Ext.refl, R, r⟩
    · obtain ⟨v, e2, r⟩ := h3.get e
      refine ⟨⟨vs, v, h2.sq, e2⟩, fun x H' y => ?_⟩
      obtain ⟨rfl, y⟩ := y
      have := (y vs h2.sq).symm.trans e2
      cases this
      exact ⟨Ext.refl, R, r⟩
  | lst i =>
    obtain ⟨h1, rfl⟩ := h
    simp only [itGo, Option.map_eq_some_iff] at e
    obtain ⟨ds, e, e2⟩ := e
    obtain ⟨vs, hs, r⟩ := seqAt_V R e
    obtain ⟨v, e3, r3⟩ := r.get e2
    refine ⟨⟨vs, v, hs, e3⟩, fun x H' y => ?_⟩
    obtain ⟨rfl, y⟩ := y
    have := (y vs hs).symm.trans e3
    cases this
    exact ⟨Ext.refl, R, r3⟩
  | rng lo m =>
    cases h
    simp only [itGo, Option.some.injEq] at e
    split at e
    · rename_i hk
      cases e
      refine ⟨hk, fun x H' y => ?_⟩
      obtain ⟨rfl, rfl⟩ := y
      exact ⟨Ext.refl, R, .int _⟩
    · cases e
  | str z =>
    cases h
    simp only [itGo, Option.some.injEq, Option.map_eq_some_iff] at e
    obtain ⟨c, e, rfl⟩ := e
    refine ⟨(Array.getElem?_eq_some_iff.mp e).1, fun x H' y => ?_⟩
    obtain ⟨rfl, c', e', rfl⟩ := y
    rw [e] at e'; cases e'
    exact ⟨Ext.refl, R, .str _⟩
  | enum i =>
    obtain ⟨h1, rfl⟩ := h
    simp only [itGo, Option.map_eq_some_iff] at e
    obtain ⟨ds, e, c, e2, rfl⟩ := e
    obtain ⟨vs, hs, r⟩ := seqAt_V R e
    obtain ⟨v, e3, r3⟩ := r.get e2
    refine ⟨⟨vs, v, hs, e3⟩, fun x H' y => ?_⟩
    obtain ⟨T, z, rfl, hT, rfl, y⟩ := y
    have := (y vs hs).symm.trans e3
    cases this
    exact ⟨ext_junk hT, R.junk hT, .tup upd_same (.cons (.int _) (.cons (r3.ext (ext_junk hT) _ _) .nil))⟩
  | zip a b =>
    obtain ⟨h1, h2, rfl⟩ := h
    simp only [itGo] at e
    split at e
    · rename_i xs ys e1 e2
      obtain ⟨vs, hs, r⟩ := seqAt_V R e1
      obtain ⟨us, hs', r'⟩ := seqAt_V R e2
      simp only [Option.some.injEq] at e
      split at e
      · rename_i x y q1 q2
        cases e
        obtain ⟨v, e3, r3⟩ := r.get q1
        obtain ⟨u, e4, r4⟩ := r'.get q2
        refine ⟨⟨vs, us, v, u, hs, hs', e3, e4⟩, fun z H' w => ?_⟩
        obtain ⟨T, z1, z2, rfl, hT, rfl, y1, y2⟩ := w
        have := (y1 vs hs).symm.trans e3
        cases this
        have := (y2 us hs').symm.trans e4
        cases this
        exact ⟨ext_junk hT, R.junk hT, .tup upd_same (.cons (r3.ext (ext_junk hT) _ _) (.cons (r4.ext (ext_junk hT) _ _) .nil))⟩
      · cases e
    · cases e
end
abbrev MI := Ls → Hs → R J
def TI' (K : PySem.W.Frag) (E : St → XK) (f : MI) : TI := fun s H Q => ∃ p l S, Real K p S H ∧ Sl K p S.length H l s ∧ Post K E S.length p H (f l S) (fun j S1 p1 H1 => ∀ I, JRel K p1 S1.length H1 j I → Q I H1)
structure IM (X : Cx) (E : St → XK) (tg e : Expr) (f : MI) : Prop where pi : PI X tg e (TI' X.K E f)
theorem _root_.L2.PI.weak {X : Cx} {tg e : Expr} {t t' : TI} (h : PI X tg e t) (w : ∀ s H Q, t' s H Q → t s H Q) : PI X tg e t' := ⟨fun pins s σ H Q I q => h.run pins s σ H Q I (w σ H Q q)⟩
theorem _root_.L2.PI.or {X : Cx} {tg e : Expr} {t t' : TI} (h : PI X tg e t) (h' : PI X tg e t') : PI X tg e (fun s H Q => t s H Q ∨ t' s H Q) := ⟨fun pins s σ H Q I q => q.elim (h.run pins s σ H Q I) (h'.run pins s σ H Q I)⟩
def oIt (x : D) (S : Hs) : R J := match x with
  | .tup ds => .ok (.tup ds) S
  | .wt ds => .ok (.tup ds) S
  | .str x => .ok (.str x) S
  | .ref i => match seqAt S i with
    | some _ => .ok (.lst i) S
    | none => .bad
  | _ => .bad
def mIt (f : M) : MI := fun l S => (f l S).bind oIt
def oRng1 (ds : List D) (S : Hs) : R J := match ds with
  | [.int n] => if -(2 ^ 62) ≤ n ∧ n < 2 ^ 62 then .ok (.rng 0 n.toNat) S else .bad
  | _ => .bad
def oRng2 (ds : List D) (S : Hs) : R J := match ds with
  | [.int a, .int b] => if -(2 ^ 62) ≤ a ∧ a < 2 ^ 62 ∧ -(2 ^ 62) ≤ b ∧ b < 2 ^ 62 then .ok (.rng a (b - a).toNat) S else .bad
  | _ => .bad
def mRng1 (f : ML) : MI := fun l S => (f l S).bind oRng1
def mRng2 (f : ML) : MI := fun l S => (f l S).bind oRng2
def oEnum (ds : List D) (S : Hs) : R J := match ds with
  | [.ref i] => match seqAt S i with
    | some _ => .ok (.enum i) S
    | none => .bad
  | _ => .bad
def mEnum (f : ML) : MI := fun l S => (f l S).bind oEnum
def oZip (ds : List D) (S : Hs) : R J := match ds with
  | [.ref i, .ref j] => match seqAt S i, seqAt S j with
    | some _, some _ => .ok (.zip i j) S
    | _, _ => .bad
  | _ => .bad
def mZip (f : ML) : MI := fun l S => (f l S).bind oZip
section
variable {X : Cx} {E : St → XK} {tg e e2 : Expr} {f : M} {g : ML} {p0 pos : Pos}
abbrev QJ (K : PySem.W.Frag) (Q : It → Hp → Prop) : J → Hs → (Nat → Addr) → Hp → Prop := fun j S1 p1 H1 => ∀ I, JRel K p1 S1.length H1 j I → Q I H1
theorem seqAt_lt {S : Hs} {i : Nat} {ds : List D} (h : seqAt S i = some ds) : i < S.length := by
  unfold seqAt seqD at h
  simp only at h
  split at h
  · rename_i q; exact Real.lt q
  · rename_i q; exact Real.lt q
  · cases h
theorem i_it (he : EM X E e f) : IM X E tg e (mIt f) :=
  ⟨(PI.or (pi_list he.pe) (PI.or (pi_tup he.pe) (pi_str he.pe))).weak fun s H Q ⟨p, l, S, R, L, h⟩ => by
    unfold mIt at h
    have hc : ∃ d S1, f l S = .ok d S1 ∨ ∃ c fs l1, f l S = .exc c fs l1 S1 := by
      cases q : f l S with
      | ok d S1 => exact ⟨d, S1, .inl rfl⟩
      | exc c fs l1 S1 => exact ⟨.non, S1, .inr ⟨c, fs, l1, rfl⟩⟩
      | bad => rw [q] at h; exact h.elim
    obtain ⟨d, S1, hc | ⟨c, fs, l1, hc⟩⟩ := hc
    · rw [hc] at h
      simp only [Ly.R.bind_ok] at h
      unfold oIt at h
      split at h
      · refine .inr (.inl ⟨p, l, S, R, L, ?_⟩)
        rw [hc]
        intro p1 H1 x1 R1 v r
        cases r with
        | tup t r => exact ⟨_, rfl, ⟨_, SqT.of t⟩, Post.ok (Q := QJ _ Q) h x1 R1 _ ⟨_, _, .inl ⟨.tup t r, ⟨t, r⟩, rfl⟩⟩⟩
      · refine .inr (.inl ⟨p, l, S, R, L, ?_⟩)
        rw [hc]
        intro p1 H1 x1 R1 v r
        cases r with
        | wt t r => exact ⟨_, rfl, ⟨_, t.sq⟩, Post.ok (Q := QJ _ Q) h x1 R1 _ ⟨_, _, .inr ⟨.wt t r, ⟨t, r⟩, rfl⟩⟩⟩
      · refine .inr (.inr ⟨p, l, S, R, L, ?_⟩)
        rw [hc]
        intro p1 H1 x1 R1 v r
        cases r
        exact ⟨_, rfl, Post.ok (Q := QJ _ Q) h x1 R1 _ rfl⟩
      · refine .inl ⟨p, l, S, R, L, ?_⟩
        rw [hc]
        split at h
        · rename_i ds q
          intro p1 H1 x1 R1 v r
          obtain ⟨vs, hs, _⟩ := seqAt_V R1 q
          cases r
          exact ⟨_, rfl, ⟨_, hs⟩, Post.ok (Q := QJ _ Q) h x1 R1 _ ⟨seqAt_lt q, rfl⟩⟩
        · exact h.elim
      · exact h.elim
    · rw [hc] at h
      refine .inl ⟨p, l, S, R, L, ?_⟩
      rw [hc]
      exact h⟩
theorem i_rng1 {a : Expr} (hm : X.mg "range" = none) (ha : LM X E [a] g) (hg : Gl X "range" := by rfl) (hs : starEach [a] X.env = [(false, eval a X.env)] := by rfl) : IM X E tg (.Call (.Name "range" p0) [a] [] pos) (mRng1 g) :=
  ⟨(pi_range1 hg hm ha.pa hs).weak fun s H Q ⟨p, l, S, R, L, h⟩ => TL.of R L h fun p1 S1 H1 d v R1 x1 L1 r1 h1 => by
    unfold oRng1 at h1
    split at h1
    · split at h1
      · rename_i hb
        cases r1 with
        | cons r0 rs => cases rs; cases r0; exact ⟨_, rfl, hb.1, hb.2, Post.ok (Q := QJ _ Q) h1 Ext.refl R1 _ rfl⟩
      · exact h1.elim
    · exact h1.elim⟩
theorem i_rng2 {a b : Expr} (hm : X.mg "range" = none) (ha : LM X E [a, b] g) (hg : Gl X "range" := by rfl) (hs : starEach [a, b] X.env = [(false, eval a X.env), (false, eval b X.env)] := by rfl) (hs2 : starEach [b] X.env = [(false, eval b X.env)] := by rfl) : IM X E tg (.Call (.Name "range" p0) [a, b] [] pos) (mRng2 g) :=
  ⟨(pi_range2 hg hm ha.pa hs hs2).weak fun s H Q ⟨p, l, S, R, L, h⟩ => TL.of R L h fun p1 S1 H1 d v R1 x1 L1 r1 h1 => by
    unfold oRng2 at h1
    split at h1
    · split at h1
      · rename_i hb
        cases r1 with
        | cons r0 rs => cases rs with | cons r2 rs => cases rs; cases r0; cases r2; exact ⟨_, _, rfl, hb, Post.ok (Q := QJ _ Q) h1 Ext.refl R1 _ rfl⟩
      · exact h1.elim
    · exact h1.elim⟩
theorem i_enum {elts : List Expr} {kk : Nat} {tpos : Pos} (hm : X.mg "enumerate" = none) (ha : LM X E [e] g) (hg : Gl X "enumerate" := by rfl) (hs : starEach [e] X.env = [(false, eval e X.env)] := by rfl) : IM X E (.Tuple elts kk tpos) (.Call (.Name "enumerate" p0) [e] [] pos) (mEnum g) :=
  ⟨(pi_enum hg hm ha.pa hs).weak fun s H Q ⟨p, l, S, R, L, h⟩ => TL.of R L h fun p1 S1 H1 d v R1 x1 L1 r1 h1 => by
    unfold oEnum at h1
    split at h1
    · split at h1
      · rename_i q
        obtain ⟨vs, hs, _⟩ := seqAt_V R1 q
        cases r1 with
        | cons r0 rs => cases rs; cases r0; exact ⟨_, _, rfl, hs, Post.ok (Q := QJ _ Q) h1 Ext.refl R1 _ ⟨seqAt_lt q, rfl⟩⟩
      · exact h1.elim
    · exact h1.elim⟩
theorem i_zip {elts : List Expr} {kk : Nat} {tpos : Pos} (hm : X.mg "zip" = none) (ha : LM X E [e, e2] g) (hg : Gl X "zip" := by rfl) (hs : starEach [e, e2] X.env = (false, eval e X.env) :: starEach [e2] X.env := by rfl) (hpl : (backTo pos (starEach [e2] X.env)).any (·.1) = false := by rfl) :
    IM X E (.Tuple elts kk tpos) (.Call (.Name "zip" p0) [e, e2] [] pos) (mZip g) :=
  ⟨(pi_zip hg hm ha.pa hs hpl).weak fun s H Q ⟨p, l, S, R, L, h⟩ => TL.of R L h fun p1 S1 H1 d v R1 x1 L1 r1 h1 => by
    unfold oZip at h1
    split at h1
    · split at h1
      · rename_i q q'
        obtain ⟨vs, hs, _⟩ := seqAt_V R1 q
        obtain ⟨us, hs', _⟩ := seqAt_V R1 q'
        cases r1 with
        | cons r0 rs => cases rs with | cons r2 rs => cases rs; cases r0; cases r2; exact ⟨_, _, _, _, rfl, hs, hs', Post.ok (Q := QJ _ Q) h1 Ext.refl R1 _ ⟨seqAt_lt q, seqAt_lt q', rfl⟩⟩
      · exact h1.elim
    · exact h1.elim⟩
end
/-! ### for -/
def fStep (j : J) (g : MG) (b : MS) (a : Nat × Ls × Hs) : Sum (Nat × Ls × Hs) (R F) := match itGo j a.1 a.2.2 with
  | none => .inr .bad
  | some none => .inr (.ok (.nx a.2.1) a.2.2)
  | some (some d) => match g d a.2.1 a.2.2 with
    | .ok l1 S1 => turnOf (b l1 S1) fun l2 S2 => (a.1 + 1, l2, S2)
    | .exc c fs l1 S1 => .inr (.exc c fs l1 S1)
    | .bad => .inr .bad
noncomputable def fLoop (j : J) (g : MG) (b : MS) (k : Nat) : MS := fun l S => runI (fStep j g b) (k, l, S)
noncomputable def mFor (it : MI) (g : MG) (b : MS) : MS := fun l S => (it l S).bind fun j S1 => fLoop j g b 0 l S1
theorem fLoop_eq (j : J) (g : MG) (b : MS) (k : Nat) (l : Ls) (S : Hs) : fLoop j g b k l S = match itGo j k S with
    | none => .bad
    | some none => .ok (.nx l) S
    | some (some d) => (g d l S).bind fun l1 S1 => (b l1 S1).bind fun r S2 => match r with
      | .nx l2 => fLoop j g b (k + 1) l2 S2
      | .ct l2 => fLoop j g b (k + 1) l2 S2
      | .bk l2 => .ok (.nx l2) S2
      | .rt d => .ok (.rt d) S2 := by
  unfold fLoop
  rw [runI_eq]
  unfold fStep turnOf
  simp only []
  cases itGo j k S with
  | none => rfl
  | some o =>
    cases o with
    | none => rfl
    | some d =>
      simp only []
      cases g d l S with
      | ok l1 S1 =>
        simp only [R.bind_ok]
        cases b l1 S1 with
        | ok r S2 => cases r <;> rfl
        | exc _ _ _ _ => rfl
        | bad => rfl
      | exc _ _ _ _ => rfl
      | bad => rfl
section
variable {X : Cx} {E : St → XK} {tg e : Expr} {it : MI} {g : MG} {b : MS} {pos : Pos} {body : List Stmt}
theorem s_for (hp : PassesOwn (model X.prog X.w) X.A X.env X.xe) (hc : X.calm = true) (hi : IM X E tg e it) (hg : GM X E tg g) (hb : SMs X E body b) (hs : ∀ x, foldedSetIterable e X.env x = pure x := by intro _; rfl) : SM X E (.For tg e body [] pos) (mFor it g b) :=
  ⟨(ps_for hp hc hi.pi hg.pg hb.ps hs).weak fun s H D0 ⟨p, l, S, R, L, h⟩ => by
    refine ⟨p, l, S, R, L, (Post.bind (r := it l S) h).mono fun j S1 p1 H1 _ x1 R1 q I hI => ?_⟩
    obtain ⟨n, hn, _⟩ := runI_ex (Post.ne q)
    rw [show fLoop j g b 0 l S1 = _ from hn.symm] at q
    refine ⟨fun k m s H => ∃ p l S, Real X.K p S H ∧ Sl X.K p S.length H l s ∧ JRel X.K p S.length H j I ∧ Post X.K E S.length p H (iter (fStep j g b) m (k, l, S)) (QF X.K D0), ⟨n, p1, l, S1, R1, L.ext x1, hI, q⟩, ?_⟩
    rintro k m s H ⟨p, l, S, R, L, hI, h⟩
    cases m with
    | zero => exact h.elim
    | succ m =>
      simp only [iter, fStep] at h
      cases e1 : itGo j k S with
      | none => rw [e1] at h; exact h.elim
      | some o =>
        cases o with
        | none => rw [e1] at h; exact .inl ⟨it_stop R hI e1, Post.nx h R L⟩
        | some d =>
          obtain ⟨g1, g2⟩ := it_go R hI e1
          rw [e1] at h
          simp only [] at h
          refine .inr ⟨g1, fun s H => ∃ p l S, Real X.K p S H ∧ Sl X.K p S.length H l s ∧ JRel X.K p S.length H j I ∧ Post X.K E S.length p H (iter (fStep j g b) m (k + 1, l, S)) (QF X.K D0), fun s' H' w => ⟨m, Nat.lt_succ_self m, w⟩, fun x H' y => ?_⟩
          obtain ⟨x2, R2, r2⟩ := g2 x H' y
          refine ⟨p, l, S, d, R2, L.ext x2, r2, ?_⟩
          have h2 := Post.ext h x2
          cases e2 : g d l S with
          | bad => rw [e2] at h2; exact h2
          | exc c fs l1 S1 => rw [e2] at h2; exact h2
          | ok l1 S3 =>
            rw [e2] at h2
            simp only [] at h2
            intro p3 H3 x3 R3 s3 L3
            refine ⟨p3, l1, S3, R3, L3, turn_post (Post.ext h2 x3) fun l2 S4 p4 H4 s4 x4 R4 L4 h4 => ⟨p4, l2, S4, R4, L4, hI.ext (x2.trans (x3.trans x4)), h4⟩⟩⟩
end
end Ly
set_option Elab.async false
set_option linter.all false
set_option maxRecDepth 100000
namespace Ly
open PySem PySem.Spec L2
open PyProof.Rows hiding St
/-! ### list comprehensions -/
def wipeL (l : Ls) : List Nat → Ls
  | [] => l
  | v :: vs => (wipeL l vs).set v none
theorem Sl.wipe {K : PySem.W.Frag} {p : Nat → Addr} {n : Nat} {H : Hp} {l : Ls} {s : St} (h : Sl K p n H l s) : ∀ vs, Sl K p n H (wipeL l vs) (L2.wipe s vs)
  | [] => h
  | v :: vs => (Sl.wipe h vs).skip v none
abbrev CG := D → Ls → Option Ls
def GOk (K : PySem.W.Frag) (vs : List Nat) (g : TG) (gl : CG) : Prop := ∀ (p : Nat → Addr) (n : Nat) (H : Hp) (d : D) (x : V) (l l1 : Ls) (s : St) (Q : St → Hp → Prop), Sl K p n H l (L2.wipe s vs) → Rep K p n H d x → gl d l = some l1 →
  (∀ s2, L2.wipe s2 vs = L2.wipe s vs → Sl K p n H l1 s2 → Q s2 H) → g x (L2.wipe s vs) H Q
def cN (i : Nat) : CG := fun d l => some (l.set i (some d))
def cT : List Nat → CG := fun is d l => match d with
  | .tup ds => if ds.length = is.length then some ((is.zip ds).foldl (fun l x => l.set x.1 (some x.2)) l) else none
  | .wt ds => if ds.length = is.length then some ((is.zip ds).foldl (fun l x => l.set x.1 (some x.2)) l) else none
  | _ => none
theorem gok_n {K : PySem.W.Frag} {i : Nat} {vs : List Nat} (hv : vs = [i]) : GOk K vs (gName i) (cN i) := by
  subst hv
  intro p n H d x l l1 s Q L r e hq
  cases e
  refine hq _ ?_ (L.set i r)
  simp only [L2.wipe, List.set_set]
def gNames : List Nat → TGs
  | [] => gNil
  | i :: is => gCons (gName i) (gNames is)
theorem wipe_set {s : St} {vs : List Nat} {i : Nat} {o : Option V} (h : i ∈ vs) : L2.wipe (s.set i o) vs = L2.wipe s vs := by
  induction vs with
  | nil => cases h
  | cons v vs ih =>
    simp only [L2.wipe]
    by_cases e : i ∈ vs
    · rw [ih e]
    · have : i = v := by
        rcases List.mem_cons.mp h with h | h
        · exact h
        · exact absurd h e
      subst this
      clear ih h
      have key : ∀ ws : List Nat, i ∉ ws → L2.wipe (s.set i o) ws = (L2.wipe s ws).set i o := by
        intro ws
        induction ws with
        | nil => intro _; rfl
        | cons w ws ih =>
          intro hw
          simp only [L2.wipe]
          rw [ih fun z => hw (List.mem_cons_of_mem _ z), List.set_comm _ _ (fun z => hw (by rw [← z]; exact List.mem_cons_self ..))]
      rw [key vs e, List.set_set]
theorem wipe_wipe {s : St} (vs : List Nat) : L2.wipe (L2.wipe s vs) vs = L2.wipe s vs := by
  have key : ∀ ws : List Nat, (∀ i ∈ ws, i ∈ vs) → L2.wipe (L2.wipe s ws) vs = L2.wipe s vs := by
    intro ws
    induction ws with
    | nil => intro _; rfl
    | cons w ws ih =>
      intro h
      simp only [L2.wipe]
      rw [wipe_set (h w (List.mem_cons_self ..)), ih fun i hi => h i (List.mem_cons_of_mem _ hi)]
  exact key vs fun _ h => h
theorem gnames_ok {K : PySem.W.Frag} {p : Nat → Addr} {n : Nat} {H : Hp} : ∀ (is : List Nat) (ds : List D) (xs : List V) (l : Ls) (s : St) (Q : St → Hp → Prop), Sl K p n H l s → Reps K p n H ds xs → ds.length = is.length →
    (∀ s2, (∀ vs, (∀ i ∈ is, i ∈ vs) → L2.wipe s2 vs = L2.wipe s vs) → Sl K p n H ((is.zip ds).foldl (fun l x => l.set x.1 (some x.2)) l) s2 → Q s2 H) → gNames is xs s H Q
  | [], ds, xs, l, s, Q, L, r, e, hq => by
    cases ds with
    | nil => cases r; exact ⟨rfl, hq s (fun _ _ => rfl) L⟩
    | cons a b => simp at e
  | i :: is, ds, xs, l, s, Q, L, r, e, hq => by
    cases ds with
    | nil => simp at e
    | cons d ds =>
      cases r with
      | cons r0 rs =>
        refine ⟨_, _, rfl, gnames_ok is ds _ (l.set i (some d)) _ Q (L.set i r0) rs (by simpa using e) fun s2 h2 L2' => hq s2 (fun vs hv => ?_) L2'⟩
        rw [h2 vs fun j hj => hv j (List.mem_cons_of_mem _ hj), wipe_set (hv i (List.mem_cons_self ..))]
theorem gok_t {K : PySem.W.Frag} {is vs : List Nat} (hv : ∀ i ∈ is, i ∈ vs) : GOk K vs (gTup K is.length (gNames is)) (cT is) := by
  intro p n H d x l l1 s Q L r e hq
  unfold cT at e
  split at e
  · split at e
    · rename_i hl
      cases e
      cases r with
      | tup t r => exact ⟨_, _, rfl, SqT.of t, by rw [← r.len]; exact hl, gnames_ok is _ _ l _ Q L r hl fun s2 h2 L2' => hq s2 (by rw [h2 vs hv, wipe_wipe]) L2'⟩
    · cases e
  · split at e
    · rename_i hl
      cases e
      cases r with
      | wt t r => exact ⟨_, _, rfl, t.sq, by rw [← r.len]; exact hl, gnames_ok is _ _ l _ Q L r hl fun s2 h2 L2' => hq s2 (by rw [h2 vs hv, wipe_wipe]) L2'⟩
    · cases e
  · cases e
def mYes : MB := fun _ S => .ok true S
def cStep (j : J) (gl : CG) (tt : MB) (te : M) (l : Ls) (n : Nat) (a : Nat × Hs) : Sum (Nat × Hs) (R D) := match itGo j a.1 a.2 with
  | none => .inr .bad
  | some none => .inr (.ok (.ref n) a.2)
  | some (some d) => match gl d l with
    | none => .inr .bad
    | some l1 => match tt l1 a.2 with
      | .ok false S2 => .inl (a.1 + 1, S2)
      | .ok true S2 => (match te l1 S2 with
        | .ok y S3 => (match S3[n]? with
          | some (.lst acc) => if acc.length < sizeLine then .inl (a.1 + 1, S3.set n (.lst (acc ++ [y]))) else .inr .bad
          | _ => .inr .bad)
        | _ => .inr .bad)
      | _ => .inr .bad
noncomputable def cLoop (j : J) (gl : CG) (tt : MB) (te : M) (l : Ls) (n k : Nat) (S : Hs) : R D := runI (cStep j gl tt te l n) (k, S)
noncomputable def mLc (it : MI) (gl : CG) (tt : MB) (te : M) (vs : List Nat) : M := fun l S => (it l S).bind fun j S1 => cLoop j gl tt te (wipeL l vs) S1.length 0 (S1 ++ [.lst []])
theorem cLoop_eq (j : J) (gl : CG) (tt : MB) (te : M) (l : Ls) (n k : Nat) (S : Hs) : cLoop j gl tt te l n k S = match cStep j gl tt te l n (k, S) with
    | .inl a => cLoop j gl tt te l n a.1 a.2
    | .inr r => r := by
  unfold cLoop
  rw [runI_eq]
  cases cStep j gl tt te l n (k, S) <;> rfl
abbrev E00 : St → XK := fun _ => L2.E0
section
variable {X : Cx} {E : St → XK} {elt tg iter : Expr} {ifs : List Expr} {scope : Scope} {own : List (Str × Nat)} {pos : Pos} {it : MI} {g : TG} {gl : CG} {tm : MB} {te : M} {tt : TT}
/-- the test of a comprehension -/
structure CT (X : Cx) (ifs : List Expr) (tm : MB) : Prop where pts : PTs X ifs (TB X.K E00 tm)
theorem ct_nil : CT X [] mYes := ⟨⟨fun pins s σ H Q I ⟨p, l, S, R, L, h⟩ => pts_nil.run pins s σ H Q I (Post.ok (Q := QB Q) h Ext.refl R)⟩⟩
theorem ct_one {c : Expr} (h : BM X E00 c tm) : CT X [c] tm := ⟨pts_one h.pt⟩
theorem lc_reading {K : PySem.W.Frag} {vs : List Nat} (hgk : GOk K vs g gl) {s : St} {H : Hp} {Q : VK} {p : Nat → Addr} {l : Ls} {S : Hs} {j : J} {I : It} (R : Real K p S H) (L : Sl K p S.length H l s) (hI : JRel K p S.length H j I)
    (h : Post K E S.length p H (cLoop j gl tm te (wipeL l vs) S.length 0 (S ++ [.lst []])) (QD K Q)) : ∀ D0, H D0 = none → ∃ W : Nat → Nat → Hp → Prop, (∃ m, W 0 m (upd H D0 (.lst []))) ∧ ∀ i m H, W i m H →
      (I.stop i H ∧ Q (.ref D0) H) ∨ (I.go i H ∧ ∃ Nx : Hp → Prop, (∀ H', Nx H' → ∃ m', m' < m ∧ W (i + 1) m' H') ∧ ∀ x H', I.yld i H x H' → g x (L2.wipe s vs) H' fun s2 H2 => L2.wipe s2 vs = L2.wipe s vs ∧
        TB K E00 tm s2 H2 fun b H3 => if b = true then T K E00 te s2 H3 fun y H4 => ∃ acc, H4 D0 = some (.lst acc) ∧ acc.length < sizeLine ∧ Nx (upd H4 D0 (.lst (acc ++ [y]))) else Nx H3) := by
  intro D0 hD
  obtain ⟨m0, hm, _⟩ := runI_ex (Post.ne h)
  rw [show cLoop j gl tm te (wipeL l vs) S.length 0 (S ++ [.lst []]) = _ from hm.symm] at h
  have x0 := ext_new (S := S) (pi := p) (u := .lst []) hD
  have R0 := R.new (u := .lst []) (o := .lst []) hD ⟨[], upd_same, .nil⟩
  have e0 : (S ++ [O.lst []]).length = S.length + 1 := by simp
  refine ⟨fun k m H => ∃ q S1, S.length < S1.length ∧ q S.length = D0 ∧ Real K q S1 H ∧ Sl K q S1.length H (wipeL l vs) (L2.wipe s vs) ∧ JRel K q S1.length H j I ∧ Post K E S1.length q H (iter (cStep j gl tm te (wipeL l vs) S.length) m (k, S1)) (QD K Q),
    ⟨m0, piN p S.length D0, S ++ [.lst []], by omega, piN_same, R0, by rw [e0]; exact (L.wipe vs).ext x0, by rw [e0]; exact hI.ext x0, Post.ext h (by rw [e0]; exact x0)⟩, ?_⟩
  rintro k m H1 ⟨q, S1, hn, hq, R1, L1, hI1, h1⟩
  cases m with
  | zero => exact h1.elim
  | succ m =>
    simp only [iter, cStep] at h1
    cases e1 : itGo j k S1 with
    | none => rw [e1] at h1; exact h1.elim
    | some o =>
      cases o with
      | none =>
        rw [e1] at h1
        refine .inl ⟨it_stop R1 hI1 e1, ?_⟩
        have := Post.ok (Q := QD K Q) h1 Ext.refl R1 (.ref (q S.length)) (.ref hn)
        rwa [hq] at this
      | some d =>
        obtain ⟨g1, g2⟩ := it_go R1 hI1 e1
        rw [e1] at h1
        simp only [] at h1
        refine .inr ⟨g1, fun H => ∃ q S1, S.length < S1.length ∧ q S.length = D0 ∧ Real K q S1 H ∧ Sl K q S1.length H (wipeL l vs) (L2.wipe s vs) ∧ JRel K q S1.length H j I ∧ Post K E S1.length q H (iter (cStep j gl tm te (wipeL l vs) S.length) m (k + 1, S1)) (QD K Q),
          fun H' w => ⟨m, Nat.lt_succ_self m, w⟩, fun x H' y => ?_⟩
        obtain ⟨x2, R2, r2⟩ := g2 x H' y
        have h2 := Post.ext h1 x2
        cases e2 : gl d (wipeL l vs) with
        | none => rw [e2] at h2; exact h2.elim
        | some l1 =>
          rw [e2] at h2
          simp only [] at h2
          refine hgk q S1.length H' d x _ l1 s _ (L1.ext x2) r2 e2 fun s2 w2 L2' => ⟨w2, ?_⟩
          refine ⟨q, l1, S1, R2, L2', ?_⟩
          cases e3 : tm l1 S1 with
          | bad => rw [e3] at h2; exact h2.elim
          | exc _ _ _ _ => rw [e3] at h2; exact h2.elim
          | ok b S2 =>
            rw [e3] at h2
            intro q3 H3 x3 R3
            have h3 := Post.ext h2 x3
            cases b with
            | false => exact ⟨q3, S2, Nat.lt_of_lt_of_le hn x3.le, (x3.ag _ hn).trans hq, R3, (L1.ext x2).ext x3, (hI1.ext x2).ext x3, h3⟩
            | true =>
              show T K E00 te s2 H3 _
              refine ⟨q3, l1, S2, R3, L2'.ext x3, ?_⟩
              simp only [] at h3
              cases e4 : te l1 S2 with
              | bad => rw [e4] at h3; exact h3.elim
              | exc _ _ _ _ => rw [e4] at h3; exact h3.elim
              | ok y S3 =>
                rw [e4] at h3
                simp only [] at h3
                intro q4 H4 x4 R4 v r4
                have h4 := Post.ext h3 x4
                have hn4 : S.length < S3.length := Nat.lt_of_lt_of_le hn (Nat.le_trans x3.le x4.le)
                have hq4 : q4 S.length = D0 := (x4.ag _ (Nat.lt_of_lt_of_le hn x3.le)).trans ((x3.ag _ hn).trans hq)
                cases e5 : S3[S.length]? with
                | none => rw [e5] at h4; exact h4.elim
                | some ob =>
                  cases ob with
                  | lst acc =>
                    rw [e5] at h4
                    simp only [] at h4
                    split at h4
                    · rename_i hl
                      obtain ⟨us, h5, r5⟩ := R4.lst e5
                      have xu : ∀ u, Ext S3.length S3.length q4 q4 H4 (upd H4 (q4 S.length) u) := fun u => ext_upd (R4.notup hn4)
                      rw [hq4] at h5
                      refine ⟨us, h5, by rw [← r5.len]; exact hl, q4, S3.set S.length (.lst (acc ++ [y])), by rw [List.length_set]; exact hn4, hq4, ?_, ?_, ?_, ?_⟩
                      · rw [← hq4]
                        exact R4.put hn4 ⟨_, upd_same, (r5.ext (xu _) _ _).append (.cons (r4.ext (xu _) _ _) .nil)⟩
                      · rw [← hq4, List.length_set]; exact (((L1.ext x2).ext x3).ext x4).ext (xu _)
                      · rw [← hq4, List.length_set]; exact (((hI1.ext x2).ext x3).ext x4).ext (xu _)
                      · rw [← hq4, List.length_set]; exact Post.ext h4 (xu _)
                    · exact h4.elim
                  | _ => rw [e5] at h4; exact h4.elim
theorem e_lc (hc : X.calm = true) (hN : X.N.Nodup) (hi : IM X E tg iter it) (ok : BlkOk X.N X.env.scope scope own) (hgk : GOk X.K (own.map (·.2)) g gl)
    (hg : ∀ (s : Shared) (H : Hp) (C : Addr) (cl : List (Str × Addr)) (fp : List Addr), PG (X.blk s H scope (compEnvC scope cl C X.env) fp) tg g)
    (ht : ∀ (s : Shared) (H : Hp) (C : Addr) (cl : List (Str × Addr)) (fp : List Addr), CT (X.blk s H scope (compEnvC scope cl C X.env) fp) ifs tm)
    (he : ∀ (s : Shared) (H : Hp) (C : Addr) (cl : List (Str × Addr)) (fp : List Addr), EM (X.blk s H scope (compEnvC scope cl C X.env) fp) E00 elt te) (hs : ∀ x, foldedSetIterable iter X.env x = pure x := by intro _; rfl) :
    EM X E (.ListComp elt [⟨tg, iter, ifs, 0⟩] scope pos) (mLc it gl tm te (own.map (·.2))) :=
  ⟨(pe_lc hc hN hi.pi ok hg (fun s H C cl fp => (ht s H C cl fp).pts) (fun s H C cl fp => (he s H C cl fp).pe) hs).weak fun s H Q ⟨p, l, S, R, L, h⟩ =>
    ⟨p, l, S, R, L, (Post.bind (r := it l S) h).mono fun j S1 p1 H1 _ x1 R1 q I hI => lc_reading hgk R1 (L.ext x1) hI q⟩⟩
theorem s_setLc {i : Nat} {y : Str} {py spos : Pos} (hc : X.calm = true) (hN : X.N.Nodup) (hsw : swapsWith (.ListComp elt [⟨tg, iter, ifs, 0⟩] scope pos) (some (.Name y py)) spos.line X.env = pure true) (hi : IM X E tg iter it) (ok : BlkOk X.N X.env.scope scope own) (hgk : GOk X.K (own.map (·.2)) g gl)
    (hg : ∀ (s : Shared) (H : Hp) (C : Addr) (cl : List (Str × Addr)) (fp : List Addr), PG (X.blk s H scope (compEnvC scope cl C X.env) fp) tg g)
    (ht : ∀ (s : Shared) (H : Hp) (C : Addr) (cl : List (Str × Addr)) (fp : List Addr), CT (X.blk s H scope (compEnvC scope cl C X.env) fp) ifs tm)
    (he : ∀ (s : Shared) (H : Hp) (C : Addr) (cl : List (Str × Addr)) (fp : List Addr), EM (X.blk s H scope (compEnvC scope cl C X.env) fp) E00 elt te) (hy : X.N[i]? = some y := by rfl) (hl : X.env.scope.names.lookup y = some .local := by rfl) (hs : ∀ x, foldedSetIterable iter X.env x = pure x := by intro _; rfl) :
    SM X E (.Assign [.Name y py] (.ListComp elt [⟨tg, iter, ifs, 0⟩] scope pos) spos) (mSet i (mLc it gl tm te (own.map (·.2)))) :=
  ⟨(ps_setLc hc hN hy hl hsw hi.pi ok hg (fun s H C cl fp => (ht s H C cl fp).pts) (fun s H C cl fp => (he s H C cl fp).pe) hs).weak fun s H D0 ⟨p, l, S, R, L, h⟩ => by
    have h' : Post X.K E S.length p H ((mLc it gl tm te (own.map (·.2)) l S).bind fun d S1 => .ok (.nx (l.set i (some d))) S1) (QF X.K D0) := h
    have h2 : Post X.K E S.length p H (mLc it gl tm te (own.map (·.2)) l S) (QD X.K fun v H' => D0.nx (s.set i (some v)) H') := h'.bind.mono fun d S1 p1 H1 _ x1 R1 q v r => Post.nx q R1 ((L.ext x1).set i r)
    exact ⟨p, l, S, R, L, (Post.bind (r := it l S) h2).mono fun j S1 p1 H1 _ x1 R1 q I hI => lc_reading hgk R1 (L.ext x1) hI q⟩⟩
end
end Ly
set_option Elab.async false
set_option linter.all false
set_option maxRecDepth 100000
namespace Ly
open PySem PySem.Spec L2
open PyProof.Rows hiding St
/-! ### isinstance -/
def tyName (x : D) (S : Hs) : Option String := match x with
  | .non => some "NoneType"
  | .bl _ => some "bool"
  | .int _ => some "int"
  | .str _ => some "str"
  | .tup _ => some "tuple"
  | .wt _ => some "tuple"
  | .wl _ => some "list"
  | .ref i => match S[i]? with
    | some (.lst _) => some "list"
    | some (.rol _) => some "list"
    | some (.dic _) => some "dict"
    | some (.dit _) => some "dict"
    | _ => none
  | .cst _ => none
def oIsi (c : String) (x : D) (S : Hs) : R D := match (tyName x S).bind fun t => kitB t c with
  | some b => .ok (.bl b) S
  | none => .bad
section
variable {K : PySem.W.Frag} {E : St → XK} {X : Cx} {p : Nat → Addr} {S : Hs} {H : Hp}
theorem tyName_V {x : D} {v : V} {t : String} (R : Real K p S H) (r : Rep K p S.length H x v) (h : tyName x S = some t) : TyX K H v (.type t) := by
  unfold tyName at h
  cases r with
  | non => cases h; exact .base .non
  | bl b => cases h; exact .base (.bl _)
  | int b => cases h; exact .base (.int _)
  | str b => cases h; exact .base (.str _)
  | tup t r => cases h; exact .base (.tup t)
  | wt t r => cases h; obtain ⟨o, its, n, h1, h2, _⟩ := t; exact .kTuple h1 h2
  | wl t r => cases h; obtain ⟨o, its, n, h1, h2, _⟩ := t; exact .kList h1 h2
  | ref hi =>
    simp only at h
    split at h
    · rename_i q; cases h; obtain ⟨vs, h1, r⟩ := R.lst q; exact .base (.lst h1)
    · rename_i q; cases h; obtain ⟨o, vs, h1, r⟩ := R.ob _ _ q; exact .base (.frz h1)
    · rename_i q; cases h; obtain ⟨ks, h1, _⟩ := R.ob _ _ q; exact .base (.dK h1)
    · rename_i q; cases h; obtain ⟨ks, h1, _⟩ := R.ob _ _ q; exact .base (.dT h1)
    · cases h
  | cst a => cases h
theorem c_isi {e : Expr} {f : M} {c : Str} {cn : String} {p0 p1 pos : Pos} (hm : X.mg "isinstance" = none) (hmc : X.mg c = none) (ha : EM X E e f) (hbt : bootBuiltins c = some (.type cn) := by decide +kernel) (hg : Gl X "isinstance" := by rfl) (hgc : Gl X c := by rfl)
    (hn : c ≠ "__name__" := by decide) (hd : (c == ("__debug__" : Str)) = false := by decide)
    (he : starEach [e, Expr.Name c p1] X.env = (false, eval e X.env) :: starEach [Expr.Name c p1] X.env := by rfl) (he2 : starEach [Expr.Name c p1] X.env = (false, eval (Expr.Name c p1) X.env) :: starEach [] X.env := by rfl)
    (hpl : (backTo pos (starEach [Expr.Name c p1] X.env)).any (·.1) = false := by rfl) : EM X E (.Call (.Name "isinstance" p0) [e, .Name c p1] [] pos) (mUn (oIsi cn) f) :=
  ⟨(pe_callB call_isi hg hm (by decide +kernel) (pa_cons ha.pe (pa_cons (pe_bltn hgc hmc hbt (v := .ty cn) rfl hn hd) pa_nil he2) he) (by decide) (by decide) he hpl).weak fun s H Q ⟨p, l, S, R, L, h⟩ => T.of R L h fun p1 S1 H1 d v R1 x1 L1 r1 h1 => by
    unfold oIsi at h1
    split at h1
    · rename_i b e
      rw [Option.bind_eq_some_iff] at e
      obtain ⟨t, e1, e2⟩ := e
      exact ⟨_, _, _, _, b, rfl, .ty cn, tyName_V R1 r1 e1, kit_ty e2, h1.val R1 (.bl _)⟩
    · exact h1.elim⟩
end
/-! ### a dict written out -/
abbrev MP := Ls → Hs → R (List (D × D))
def dpNil : MP := fun _ S => .ok [] S
def dpCons (f g : M) (h : MP) : MP := fun l S => (f l S).bind fun x S1 => (g l S1).bind fun y S2 => (h l S2).bind fun r S3 => .ok ((x, y) :: r) S3
def keysP : List (D × D) → Option (List (Key × D))
  | [] => some []
  | (x, y) :: r => match x.key, keysP r with
    | some k, some l => some ((k, y) :: l)
    | _, _ => none
def mergeD (kvs : List (Key × D)) (more : List (Key × D)) : List (Key × D) := more.foldl (fun acc kv => setK acc kv.1 kv.2) kvs
def mDisp (h : MP) : M := fun l S => (h l (S ++ [.dic []])).bind fun ps S1 => match keysP ps, S1[S.length]? with
  | some kvs, some (.dic []) => if kvs.length ≤ 15 then .ok (.ref S.length) (S1.set S.length (.dic (mergeD [] kvs))) else .bad
  | _, _ => .bad
structure DP (X : Cx) (E : St → XK) (pos : Pos) (keys : List (Option Expr)) (values : List Expr) (trs : List (TE × TE)) (f : MP) : Prop where
  pps : PPs X pos keys values trs
  rd : ∀ (s : St) (H : Hp) (p : Nat → Addr) (l : Ls) (S : Hs) (Q : List (V × V) → Hp → Prop), Real X.K p S H → Sl X.K p S.length H l s →
    Post X.K E S.length p H (f l S) (fun ps S1 p1 H1 => ∀ ks vs, Reps X.K p1 S1.length H1 (ps.map (·.1)) ks → Reps X.K p1 S1.length H1 (ps.map (·.2)) vs → Q (ks.zip vs) H1) → tPairs trs s H Q
section
variable {X : Cx} {E : St → XK} {pos : Pos} {keys : List (Option Expr)} {values : List Expr} {trs : List (TE × TE)} {f g : M} {h : MP} {k v : Expr}
theorem dp_nil : DP X E pos [] [] [] dpNil := ⟨pps_nil, fun s H p l S Q R L h => Post.ok h Ext.refl R [] [] .nil .nil⟩
theorem dp_cons (hk : EM X E k f) (hv : EM X E v g) (hr : DP X E pos keys values trs h) : DP X E pos (some k :: keys) (v :: values) ((T X.K E f, T X.K E g) :: trs) (dpCons f g h) :=
  ⟨pps_cons hk.pe hv.pe hr.pps, fun s H p l S Q R L q => T.of R L q fun p1 S1 H1 d1 v1 R1 x1 L1 r1 q1 => T.of R1 L1 q1 fun p2 S2 H2 d2 v2 R2 x2 L2 r2 q2 => hr.rd s H2 p2 l S2 _ R2 L2 (q2.bind.mono fun ps S3 p3 H3 _ x3 R3 q3 ks vs rk rv => by
    have := Post.ok q3 Ext.refl R3 (v1 :: ks) (v2 :: vs) (.cons ((r1.ext x2 _ _).ext x3 _ _) rk) (.cons (r2.ext x3 _ _) rv)
    exact this)⟩
theorem keysP_V {K : PySem.W.Frag} {p : Nat → Addr} {n : Nat} {H : Hp} {ps : List (D × D)} {kvs : List (Key × D)} {ks vs : List V} (h : keysP ps = some kvs) (rk : Reps K p n H (ps.map (·.1)) ks) (rv : Reps K p n H (ps.map (·.2)) vs) :
    ∃ ls : List (Key × V), ks.zip vs = ls.map (fun kv => (kV kv.1, kv.2)) ∧ ls.map (·.1) = kvs.map (·.1) ∧ Reps K p n H (kvs.map (·.2)) (ls.map (·.2)) := by
  induction ps generalizing kvs ks vs with
  | nil =>
    cases h; cases rk; cases rv
    exact ⟨[], rfl, rfl, .nil⟩
  | cons a ps ih =>
    obtain ⟨x, y⟩ := a
    simp only [List.map_cons] at rk rv
    cases rk with
    | cons r0 rs =>
    cases rv with
    | @cons _ _ v0 us s0 ss =>
    simp only [keysP] at h
    split at h
    · rename_i k l e1 e2
      cases h
      obtain ⟨ls, h1, h2, h3⟩ := ih e2 rs ss
      exact ⟨(k, v0) :: ls, by simp only [List.zip_cons_cons, List.map_cons, h1, key_V r0 e1], by simp only [List.map_cons, h2], .cons s0 h3⟩
    · cases h
theorem merge_V {K : PySem.W.Frag} {p : Nat → Addr} {n : Nat} {H : Hp} : ∀ (more : List (Key × D)) (ms : List (Key × V)) (kvs : List (Key × D)) (ks : List (Key × V)), ms.map (·.1) = more.map (·.1) → Reps K p n H (more.map (·.2)) (ms.map (·.2)) →
    ks.map (·.1) = kvs.map (·.1) → Reps K p n H (kvs.map (·.2)) (ks.map (·.2)) → (mergeK ks ms).map (·.1) = (mergeD kvs more).map (·.1) ∧ Reps K p n H ((mergeD kvs more).map (·.2)) ((mergeK ks ms).map (·.2))
  | [], ms, kvs, ks, e, _, e2, r2 => by
    cases ms with
    | nil => exact ⟨e2, r2⟩
    | cons a b => cases e
  | a :: more, ms, kvs, ks, e, r, e2, r2 => by
    cases ms with
    | nil => cases e
    | cons b ms =>
      simp only [List.map_cons, List.cons.injEq] at e
      cases r with
      | cons r0 rs =>
        have s := setK_V e2 r2 a.1 r0
        have := merge_V more ms (setK kvs a.1 a.2) (putK ks a.1 b.2) e.2 rs s.1 s.2
        show (mergeK (putK ks b.1 b.2) ms).map _ = _ ∧ Reps K p n H _ ((mergeK (putK ks b.1 b.2) ms).map _)
        rw [e.1]
        exact this
theorem e_disp (hd : DP X E pos keys values trs h) (hall : keys.all (·.isSome) = true := by rfl) (hl : keys.length = values.length := by rfl) (h0 : keys ≠ [] := by simp) (h15 : keys.length ≤ 15 := by decide) : EM X E (.Dict keys values pos) (mDisp h) :=
  ⟨(pe_disp hd.pps hall hl h0 h15).weak fun s H Q ⟨p, l, S, R, L, q⟩ => by
    intro a ha
    have x0 := ext_new (S := S) (pi := p) (u := .dK []) ha
    have R0 := R.new (u := .dK []) (o := .dic []) ha ⟨[], upd_same, rfl, .nil⟩
    have e0 : (S ++ [O.dic []]).length = S.length + 1 := by simp
    refine hd.rd s _ (piN p S.length a) l (S ++ [.dic []]) _ R0 (by rw [e0]; exact L.ext x0) ?_
    have q' := Post.ext q (show Ext S.length (S ++ [O.dic []]).length _ _ _ _ by rw [e0]; exact x0)
    refine Post.mono (Q' := fun (ps : List (D × D)) S1 p1 H1 => ∀ ks vs, Reps X.K p1 S1.length H1 (ps.map (·.1)) ks → Reps X.K p1 S1.length H1 (ps.map (·.2)) vs → _) (Post.bind (r := h l (S ++ [.dic []])) q') fun ps S1 p1 H1 _ x1 R1 q1 ks vs rk rv => ?_
    have hn : S.length < S1.length := Nat.lt_of_lt_of_le (by rw [e0]; exact Nat.lt_succ_self _) x1.le
    have hp : p1 S.length = a := (x1.ag _ (by rw [e0]; exact Nat.lt_succ_self _)).trans piN_same
    split at q1
    · rename_i kvs e1 e2
      split at q1
      · rename_i hlen
        obtain ⟨ls, h1, h2, h3⟩ := keysP_V e1 rk rv
        obtain ⟨zs, z1, z2, z3⟩ := R1.ob _ _ e2
        have : zs = [] := by cases zs with | nil => rfl | cons _ _ => cases z2
        subst this
        rw [hp] at z1
        have hll : ls.length = kvs.length := by simpa using congrArg List.length h2
        refine ⟨z1, ls, h1, by rw [hll]; exact hlen, ?_⟩
        have xu : Ext S1.length S1.length p1 p1 H1 (upd H1 (p1 S.length) (.dK (mergeK [] ls))) := ext_upd (R1.notup hn)
        have m := merge_V (K := X.K) (p := p1) (n := S1.length) (H := upd H1 (p1 S.length) (.dK (mergeK [] ls))) kvs ls [] [] h2 (h3.ext xu _ _) rfl .nil
        have := Post.put q1 R1 hn ⟨_, upd_same, m.1, m.2⟩ (.ref hn)
        rw [hp] at this
        exact this
      · exact q1.elim
    · exact q1.elim⟩
/-! ### d.get(k, x) -/
def mGet2 (f g h : M) : M := fun l S => (f l S).bind fun x S1 => if hasTy "dict" x S1 = true then (g l S1).bind fun y S2 => (h l S2).bind fun z S3 => match dGet x y S3 with
  | some (some d) => .ok d S3
  | some none => .ok z S3
  | none => .bad else .bad
theorem isD_V {K : PySem.W.Frag} {p : Nat → Addr} {S : Hs} {H : Hp} {x : D} {v : V} (R : Real K p S H) (r : Rep K p S.length H x v) (h : hasTy "dict" x S = true) : ∃ a, v = .ref a ∧ IsD H a := by
  unfold hasTy at h
  cases r with
  | str x => exact absurd (of_decide_eq_true h) (by decide)
  | int x => exact absurd (of_decide_eq_true h) (by decide)
  | ref hi =>
    simp only at h
    split at h
    · exact absurd (of_decide_eq_true h) (by decide)
    · exact absurd (of_decide_eq_true h) (by decide)
    · rename_i q
      obtain ⟨ks, h1, _⟩ := R.ob _ _ q
      exact ⟨_, rfl, .inl ⟨_, .inl h1⟩⟩
    · rename_i q
      obtain ⟨ks, h1, _⟩ := R.ob _ _ q
      exact ⟨_, rfl, .inr ⟨_, .inl h1⟩⟩
    · cases h
  | _ => cases h
theorem e_get2 {o e e2 : Expr} {apos cpos : Pos} {hh : M} (hu : X.A.units + 1 < cLine) (ho : EM X E o f) (he : EM X E e g) (hf : EM X E e2 hh) (m : M2 X o "get" apos e e2 cpos := by exact ⟨rfl, rfl, rfl, rfl⟩) : EM X E (.Call (.Attribute o "get" apos) [e, e2] [] cpos) (mGet2 f g hh) :=
  ⟨(pe_dget2 hu ho.pe he.pe hf.pe m).weak fun s H Q ⟨p, l, S, R, L, h⟩ => T.of R L h fun p1 S1 H1 d v R1 x1 L1 r1 h1 => by
    split at h1
    · rename_i ht
      obtain ⟨a, rfl, ia⟩ := isD_V R1 r1 ht
      refine ⟨a, rfl, ia, T.of R1 L1 h1 fun p2 S2 H2 d2 v2 R2 x2 L2 r2 h2 => T.of R2 L2 h2 fun p3 S3 H3 d3 v3 R3 x3 L3 r3 h3 => ?_⟩
      split at h3
      · rename_i dd e
        obtain ⟨a', w, e1, gg, m⟩ := dGet_V R3 ((r1.ext x2 _ _).ext x3 _ _) (r2.ext x3 _ _) e
        cases e1
        obtain ⟨z, rfl, rz⟩ := m
        exact ⟨_, gg, h3.val R3 rz⟩
      · rename_i e
        obtain ⟨a', w, e1, gg, m⟩ := dGet_V R3 ((r1.ext x2 _ _).ext x3 _ _) (r2.ext x3 _ _) e
        cases e1
        cases (show w = none from m)
        exact ⟨_, gg, h3.val R3 r3⟩
      · exact h3.elim
    · exact h1.elim⟩
/-! ### d[k] += e -/
def isDic (x : D) (S : Hs) : Bool := match x with
  | .ref i => match S[i]? with
    | some (.dic _) => true
    | some (.dit _) => true
    | _ => false
  | _ => false
def mAugI (op : D → D → Hs → R D) (f g h : M) : MS := fun l S => (f l S).bind fun x S1 => (g l S1).bind fun y S2 => match dGet x y S2 with
  | some (some z) => (h l S2).bind fun w S3 => (op z w S3).bind fun d S4 => if isDic x S4 = true then (oSet x y d S4).bind fun _ S5 => .ok (.nx l) S5 else .bad
  | _ => .bad
theorem s_augI {o i value : Expr} {tpos : Pos} {hh : M} {opr : Operator} {rd : V → V → Hp → VK → Prop} {op : D → D → Hs → R D} (hu : X.A.units + 1 < cLine) (ho : EM X E o f) (hi : EM X E i g) (hv : EM X E value hh) (hop : InOp X opr rd) (hk : OpOk X.K E rd op)
    (ha : ∀ ov iv new, augStore i ov iv new = (do holding [new, ov, iv] (setItem ov iv new); release [new, ov, iv] []; pure .next) := by intro _ _ _; rfl) : SM X E (.AugAssign (.Subscript o i tpos) opr value pos) (mAugI op f g hh) :=
  ⟨(ps_daug hu ho.pe hi.pe hv.pe hop ha).weak fun s H D0 ⟨p, l, S, R, L, h⟩ => T.of R L h fun p1 S1 H1 d v R1 x1 L1 r1 h1 => T.of R1 L1 h1 fun p2 S2 H2 d2 v2 R2 x2 L2 r2 h2 => by
    split at h2
    · rename_i z e
      obtain ⟨a, w, e1, gg, m⟩ := dGet_V R2 (r1.ext x2 _ _) r2 e
      obtain ⟨w0, rfl, rw0⟩ := m
      refine ⟨a, w0, e1, gg, T.of R2 L2 h2 fun p3 S3 H3 d3 v3 R3 x3 L3 r3 h3 => hk p3 S3 H3 _ _ _ _ _ R3 (rw0.ext x3 _ _) r3 (h3.bind.mono fun d4 S4 p4 H4 _ x4 R4 q4 v4 r4 => ?_)⟩
      split at q4
      · rename_i hd
        have rx := ((r1.ext x2 _ _).ext x3 _ _).ext x4 _ _
        have ry := (r2.ext x3 _ _).ext x4 _ _
        have key := ok_set (Q := fun H => D0.nx s H) R4 rx ry r4 q4.bind fun S5 H5 x5 R5 q5 => Post.nx q5 R5 (((L2.ext x3).ext x4).ext x5)
        rcases key with ⟨b, xs, kk, jj, eb, ek, hb, _⟩ | ⟨b, H', eb, put, q⟩
        · exfalso
          subst e1
          cases eb
          unfold isDic at hd
          cases rx with
          | ref hlt =>
            simp only at hd
            split at hd
            · rename_i q
              obtain ⟨ks, k1, _⟩ := R4.ob _ _ q
              rw [hb] at k1; cases k1
            · rename_i q
              obtain ⟨ks, k1, _⟩ := R4.ob _ _ q
              rw [hb] at k1; cases k1
            · cases hd
          | _ => cases hd
        · subst e1
          cases eb
          exact ⟨H', put, q⟩
      · exact q4.elim
    · exact h2.elim⟩
def oAddI : D → D → Hs → R D := fun x y S => match x, y with | .int i, .int j => .ok (.int (i + j)) S | _, _ => .bad
def oSubI : D → D → Hs → R D := fun x y S => match x, y with | .int i, .int j => .ok (.int (i - j)) S | _, _ => .bad
theorem ok_rAdd {K : PySem.W.Frag} {E : St → XK} : OpOk K E rAdd oAddI := by
  intro p S H x y v u Q R rx ry h
  unfold oAddI at h
  split at h
  · cases rx; cases ry; exact ⟨_, _, rfl, rfl, h.val R (.int _)⟩
  · exact h.elim
theorem ok_rSub {K : PySem.W.Frag} {E : St → XK} : OpOk K E rSub oSubI := by
  intro p S H x y v u Q R rx ry h
  unfold oSubI at h
  split at h
  · cases rx; cases ry; exact ⟨_, _, rfl, rfl, h.val R (.int _)⟩
  · exact h.elim
theorem s_addI {o i value : Expr} {tpos : Pos} {hh : M} (hu : X.A.units + 1 < cLine) (ho : EM X E o f) (hi : EM X E i g) (hv : EM X E value hh) (ha : ∀ ov iv new, augStore i ov iv new = (do holding [new, ov, iv] (setItem ov iv new); release [new, ov, iv] []; pure .next) := by intro _ _ _; rfl) :
    SM X E (.AugAssign (.Subscript o i tpos) .Add value pos) (mAugI oAddI f g hh) := s_augI hu ho hi hv in_add ok_rAdd ha
theorem s_subI {o i value : Expr} {tpos : Pos} {hh : M} (hu : X.A.units + 1 < cLine) (ho : EM X E o f) (hi : EM X E i g) (hv : EM X E value hh) (ha : ∀ ov iv new, augStore i ov iv new = (do holding [new, ov, iv] (setItem ov iv new); release [new, ov, iv] []; pure .next) := by intro _ _ _; rfl) :
    SM X E (.AugAssign (.Subscript o i tpos) .Sub value pos) (mAugI oSubI f g hh) := s_augI hu ho hi hv in_sub ok_rSub ha
end
end Ly
set_option Elab.async false
set_option linter.all false
set_option maxRecDepth 100000
namespace Ly
open PySem PySem.Spec L2
open PyProof.Rows hiding St
/-! ### the text's own names -/
/-- a module's constant -/
def GV (K : PySem.W.Frag) (mg : Str → Option Value) (x : Str) (d : D) : Prop := ∃ u v, mg x = some u ∧ RelV v u ∧ ∀ p n H, Rep K p n H d v
/-- a def of the top -/
structure DefAt (K : PySem.W.Frag) (mg : Str → Option Value) (x : Str) (st : Stmt) (ps : List Str) (f : Addr) (fd : FuncData) : Prop where
  F : Fun K x x st f fd
  g : mg x = some (.ref f)
  b : Binds K fd ps []
section
variable {X : Cx} {E : St → XK}
theorem e_g {x : Str} {d : D} {pos : Pos} (g : GV X.K X.mg x d) (hg : Gl X x := by rfl) (hd : (x == ("__debug__" : Str)) = false := by decide) : EM X E (.Name x pos) (mC d) := by
  obtain ⟨u, v, h1, h2, h3⟩ := g
  exact e_of_c (pe_glob hg h1 h2 hd) h3
variable {k : Nat}
theorem or_inAll (hr : Room k X.A) : OpR X (compareOp .In) (rInAll X.K) :=
  OpR.or op_in_sign (OpR.or op_in_str (OpR.or op_in_seq (OpR.or (op_inD (by have := hr.un; omega)) (or_din (hu_of hr)))))
theorem or_notinAll (hr : Room k X.A) : OpR X (compareOp .NotIn) (rNotInAll X.K) :=
  OpR.or op_notIn_sign (OpR.or op_notin_str (OpR.or op_notIn_seq (OpR.or (op_notInD (by have := hr.un; omega)) (or_dnotin (hu_of hr)))))
end
theorem or_eqA {X : Cx} {k : Nat} (hr : Room k X.A) : OpR X (compareOp .Eq) (orR rEq (rEqD X.K)) := OpR.or op_eq (op_eqD hr.units)
theorem or_neA {X : Cx} {k : Nat} (hr : Room k X.A) : OpR X (compareOp .NotEq) (orR rNe (rNeD X.K)) := OpR.or op_ne (op_neD hr.units)
theorem or_isA {X : Cx} : OpR X (compareOp .Is) (orR rIsNA rIsB) := OpR.or op_isN op_isBl
theorem or_isnotA {X : Cx} : OpR X (compareOp .IsNot) (orR rNotNA rNotB) := OpR.or op_notN op_notBl
theorem gv_int {K : PySem.W.Frag} {mg : Str → Option Value} {x : Str} {u : Value} {i : Int} (h : mg x = some u) (e : absV u = some (.int i)) : GV K mg x (.int i) := by
  refine ⟨u, .int i, h, ?_, fun _ _ _ => .int _⟩
  cases u <;> first | (simp only [absV] at e; cases e; exact ⟨_, rfl⟩) | cases e
theorem gv_str {K : PySem.W.Frag} {mg : Str → Option Value} {x : Str} {u : Value} {i : Str} (h : mg x = some u) (e : absV u = some (.str i)) : GV K mg x (.str i) := by
  refine ⟨u, .str i, h, ?_, fun _ _ _ => .str _⟩
  cases u <;> first | (simp only [absV] at e; cases e; exact ⟨_, rfl⟩) | cases e
def strsOf : List Value → Option (List Str)
  | [] => some []
  | .str x _ :: r => (strsOf r).map (x :: ·)
  | _ => none
theorem strsOf_V : ∀ {us : List Value} {xs : List Str}, strsOf us = some xs → Vals (xs.map V.str) us
  | [], _, h => by simp only [strsOf] at h; cases h; exact .nil
  | u :: us, xs, h => by
    cases u <;> simp only [strsOf, Option.map_eq_some_iff] at h <;> first | cases h | skip
    obtain ⟨h1, rfl⟩ := by assumption
    exact .cons ⟨_, rfl⟩ (strsOf_V h1)
theorem reps_strs {K : PySem.W.Frag} {p : Nat → Addr} {n : Nat} {H : Hp} : ∀ xs : List Str, Reps K p n H (xs.map D.str) (xs.map V.str)
  | [] => .nil
  | x :: xs => .cons (.str x) (reps_strs xs)
theorem reps_ints {K : PySem.W.Frag} {p : Nat → Addr} {n : Nat} {H : Hp} : ∀ xs : List Int, Reps K p n H (xs.map D.int) (xs.map V.int)
  | [] => .nil
  | x :: xs => .cons (.int x) (reps_ints xs)
theorem gv_strs {K : PySem.W.Frag} {mg : Str → Option Value} {x : Str} {a : Addr} {od : Option Addr} {its : Array Value} {n : Nat} {sl : Array (Option Value)} {xs : List Str} {ds : List D} (h : mg x = some (.ref a)) (l : K.lookup a = some ⟨.type "tuple", od, .seq its n, sl⟩)
    (e : strsOf its.toList = some xs) (hd : ds = xs.map D.str) (hz : xs.length ≤ sizeLine := by decide) : GV K mg x (.wt ds) := by
  have v := strsOf_V e
  refine ⟨.ref a, .ref a, h, rfl, fun p m H => .wt (xs := xs.map V.str) ⟨_, its, n, l, rfl, rfl, ?_, v⟩ (by rw [hd]; exact reps_strs xs)⟩
  have := v.length
  simp only [List.length_map, Array.length_toList] at this
  omega
/-! ### the law's end -/
/-- the law's mirror says True, however the script stands -/
def LawTrue (m : MD) : Prop := ∀ (ns : List Int) (x : D) (S : Hs), ns.length ≤ 63 → (∀ z ∈ ns, Builtin.Int.intBits z ≤ 1048576) → S.length ≤ 1 → Wf S → x.low S.length → seqD x S = some (ns.map D.int) → (∀ o ∈ S, o = .rol (ns.map D.int)) → ∃ S', m [x] S = .ok (.bl true) S'
theorem law_end {K : PySem.W.Frag} {m : MD} (hm : LawTrue m) {H : Hp} {a : Addr} {ns : List Int} (hl : ns.length ≤ 63) (hb : ∀ z ∈ ns, Builtin.Int.intBits z ≤ 1048576) (hO : Only H) (hS : SqL K H a (ns.map V.int)) : spM K 1 m [.ref a] H (fun v _ => v = .bl true) fun _ _ _ => False := by
  have fin : ∀ {p : Nat → Addr} {S : Hs} {S' : Hs} {H : Hp} {r : R D}, r = .ok (.bl true) S' → Post K (fun _ _ _ _ => False) S.length p H r (QD K fun v _ => v = .bl true) := fun {p S S' H r} e => by
    subst e
    intro p' H' x R v r
    cases r; rfl
  have h0 : (∃ o, H a = some (.frz o (.lst (ns.map V.int)))) ∨ Wl K a (ns.map V.int) := by
    rcases hS with hS | hS
    · rcases hS with hS | ⟨o, hS⟩
      · rcases hO a with q | ⟨o, xs, q⟩
        · rw [q] at hS; cases hS
        · rw [q] at hS; cases hS
      · exact .inl ⟨o, hS⟩
    · exact .inr hS
  rcases h0 with ⟨o, h0⟩ | h0
  · have R0 : Real K (fun _ => a) [.rol (ns.map D.int)] H := by
      refine ⟨fun i o' e => ?_, fun i j hi hj _ => by simp at hi hj; omega⟩
      cases i with
      | zero => simp at e; subst e; exact ⟨o, _, h0, reps_ints ns⟩
      | succ i => simp at e
    obtain ⟨S', e⟩ := hm ns (.ref 0) [.rol (ns.map D.int)] hl hb (by simp) R0.wf (by simp [D.low]) rfl (by simp)
    exact ⟨fun _ => a, [.rol (ns.map D.int)], [.ref 0], R0, .cons (.ref (by simp)) .nil, rfl, fin e⟩
  · have R0 : Real K (fun _ => a) [] H := ⟨fun i o' e => by simp at e, fun i j hi hj _ => by simp at hi⟩
    have r0 : Rep K (fun _ => a) 0 H (.wl (ns.map D.int)) (.ref a) := .wl h0 (reps_ints ns)
    obtain ⟨S', e⟩ := hm ns (.wl (ns.map D.int)) [] hl hb (by simp) R0.wf (r0.low) rfl (by simp)
    exact ⟨fun _ => a, [], [.wl (ns.map D.int)], R0, .cons r0 .nil, rfl, fin e⟩
theorem law_noexc {P : Program} {w : World} {l : List Env} {H : Hp} {s : Shared} {e : Value} {s' : Shared} (h : L2.CX P w l H s (fun _ _ _ => False) e s') : False := by
  obtain ⟨_, _, _, _, _, _, _, _, _, _, _, _, z⟩ := h
  exact z
end Ly
set_option Elab.async false
set_option linter.all false
set_option maxRecDepth 100000
namespace Ly
open PySem PySem.Spec L2
open PyProof.Rows hiding St
/-! ### helpers that many laws share -/
theorem mulok_r {i j : Int} (h : j.natAbs < 2 ^ 64) : IntMulOk i j := .of_right (intBits_le_64 (by omega) (by omega))
theorem mulok_l {i j : Int} (h : i.natAbs < 2 ^ 64) : IntMulOk i j := .of_left (intBits_le_64 (by omega) (by omega))
theorem fine_of {np : Nat} {m' m : MD} (hx : ∀ ds S c fs l S', m' ds S ≠ .exc c fs l S')
    (h : ∀ ds S v S', Wf S → D.lows S.length ds → ds.length = np → m' ds S = .ok v S' → S.length ≤ S'.length ∧ Wf S' ∧ v.low S'.length ∧ ∃ g, m ds S = .ok v (S' ++ g)) : Fine np m' m := by
  intro ds S wf lo hl
  cases e : m' ds S with
  | ok v S' => exact h ds S v S' wf lo hl e
  | exc c fs l S' => exact absurd e (hx ds S c fs l S')
  | bad => trivial
/-- where the store is left as it is -/
theorem fine_pure {np : Nat} {m' m : MD} (h : ∀ ds S, Wf S → D.lows S.length ds → ds.length = np → m' ds S = .bad ∨ ∃ v, m' ds S = .ok v S ∧ v.low S.length ∧ ∃ g, m ds S = .ok v (S ++ g)) : Fine np m' m := by
  intro ds S wf lo hl
  rcases h ds S wf lo hl with e | ⟨v, e, hv, hg⟩
  · rw [e]; trivial
  · rw [e]; exact ⟨Nat.le_refl _, wf, hv, hg⟩
def mixI (c k : Int) : Int :=
  let low := (c * 48271 + k * 69621 + 11) % 2147483647
  (low * low + c * 40692 + k * 7 + 3) % 1000003 % 1000
def S_mix : MD := fun ds S => match ds with
  | [.int c, .int k] => .ok (.int (mixI c k)) S
  | _ => .bad
theorem len_mix (ds : List D) (S : Hs) (h : ds.length ≠ 2) : S_mix ds S = .bad := by
  unfold S_mix; split
  · simp at h
  · rfl
def b_mix : MS := (mSeq (mSet 2 (mBin oMod (mCall bInt (lCons (mBin oAdd (mBin oAdd (mBin oMul (mVar 0) (mC (.int 48271))) (mBin oMul (mVar 1) (mC (.int 69621)))) (mC (.int 11))) lNil)) (mC (.int 2147483647))))
    (mRet (mBin oMod (mBin oMod (mCall bInt (lCons (mBin oAdd (mBin oAdd (mBin oAdd (mBin oMul (mVar 2) (mVar 2)) (mBin oMul (mVar 0) (mC (.int 40692)))) (mBin oMul (mVar 1) (mC (.int 7)))) (mC (.int 3))) lNil)) (mC (.int 1000003))) (mC (.int 1000)))))
theorem fine_mix : Fine 2 S_mix (mDef 2 1 b_mix) := fine_pure fun ds S wf lo hl => by
  unfold S_mix
  split
  · rename_i c k
    refine .inr ⟨_, rfl, by simp [D.low], [], ?_⟩
    have h1 : IntMulOk c 48271 := mulok_r (by decide)
    have h2 : IntMulOk k 69621 := mulok_r (by decide)
    have h3 : IntMulOk c 40692 := mulok_r (by decide)
    have h4 : IntMulOk k 7 := mulok_r (by decide)
    have h5 : IntMulOk ((c * 48271 + k * 69621 + 11) % 2147483647) ((c * 48271 + k * 69621 + 11) % 2147483647) := mulok_r (by omega)
    simp [mDef, b_mix, mSeq, mSet, mRet, mBin, mCall, lCons, lNil, mVar, mC, oAdd, oMul, oMod, bInt, endOf, h1, h2, h3, h4, h5, mixI]
  · exact .inl rfl
/-! ### the draws of a script -/
theorem kRA : ¬ (("row" : Str) = "at") := by decide +kernel
theorem kRS : ¬ (("row" : Str) = "seed") := by decide +kernel
theorem kAS : ¬ (("at" : Str) = "seed") := by decide +kernel
theorem kSA : ¬ (("seed" : Str) = "at") := by decide +kernel
theorem get_put {S : Hs} {i : Nat} {o u : O} (h : S[i]? = some o) : (S.set i u)[i]? = some u := List.getElem?_set_self (Real.lt h)
def drawsK (r a s : D) : List (Key × D) := [(.inr "row", r), (.inr "at", a), (.inr "seed", s)]
@[simp] theorem drawsK_row (r a s : D) : getK (drawsK r a s) (.inr "row") = some r := by simp [getK, drawsK]
@[simp] theorem drawsK_at (r a s : D) : getK (drawsK r a s) (.inr "at") = some a := by simp [getK, drawsK, kRA]
@[simp] theorem drawsK_seed (r a s : D) : getK (drawsK r a s) (.inr "seed") = some s := by simp [getK, drawsK, kRS, kAS]
@[simp] theorem drawsK_len (r a s : D) : (drawsK r a s).length = 3 := rfl
@[simp] theorem drawsK_set (r a s b : D) : setK (drawsK r a s) (.inr "at") b = drawsK r b s := by simp [setK, drawsK, kRA, kSA]
def drawsO (j : Nat) (a sd : Int) : O := .dic (drawsK (.ref j) (.int a) (.int sd))
def pickV (row : List Int) (sd a many : Int) : Int := (if a < (row.length : Int) then row.getD a.toNat 0 else mixI sd a) % many
/-- the draws stand at i, their row at j -/
structure Drw (S : Hs) (i j : Nat) (row : List Int) (a sd : Int) : Prop where
  d : S[i]? = some (drawsO j a sd)
  r : S[j]? = some (.lst (row.map D.int))
  ne : i ≠ j
  nn : 0 ≤ a
open Classical in
noncomputable def S_pick : MD := fun ds S => match ds with
  | [.ref i, .int many] => if h : ∃ t : Nat × List Int × Int × Int, Drw S i t.1 t.2.1 t.2.2.1 t.2.2.2 ∧ 0 < many then
      .ok (.int (pickV h.choose.2.1 h.choose.2.2.2 h.choose.2.2.1 many)) (S.set i (drawsO h.choose.1 (h.choose.2.2.1 + 1) h.choose.2.2.2))
    else .bad
  | _ => .bad
theorem map_int_inj : ∀ {xs ys : List Int}, xs.map D.int = ys.map D.int → xs = ys
  | [], [], _ => rfl
  | [], _ :: _, h => by cases h
  | _ :: _, [], h => by cases h
  | x :: xs, y :: ys, h => by
    simp only [List.map_cons, List.cons.injEq, D.int.injEq] at h
    rw [h.1, map_int_inj h.2]
theorem Drw.same {S : Hs} {i j j' : Nat} {row row' : List Int} {a a' sd sd' : Int} (h : Drw S i j row a sd) (h' : Drw S i j' row' a' sd') : j = j' ∧ row = row' ∧ a = a' ∧ sd = sd' := by
  have e := h.d.symm.trans h'.d
  simp only [drawsO, drawsK, Option.some.injEq, O.dic.injEq, List.cons.injEq, Prod.mk.injEq, D.ref.injEq, D.int.injEq, and_true, true_and] at e
  obtain ⟨rfl, rfl, rfl⟩ := e
  have e := h.r.symm.trans h'.r
  simp only [Option.some.injEq, O.lst.injEq] at e
  exact ⟨rfl, map_int_inj e, rfl, rfl⟩
theorem S_pick_eq {S : Hs} {i j : Nat} {row : List Int} {a sd many : Int} (h : Drw S i j row a sd) (hm : 0 < many) : S_pick [.ref i, .int many] S = .ok (.int (pickV row sd a many)) (S.set i (drawsO j (a + 1) sd)) := by
  have hx : ∃ t : Nat × List Int × Int × Int, Drw S i t.1 t.2.1 t.2.2.1 t.2.2.2 ∧ 0 < many := ⟨(j, row, a, sd), h, hm⟩
  unfold S_pick
  simp only [dif_pos hx]
  obtain ⟨e1, e2, e3, e4⟩ := hx.choose_spec.1.same h
  rw [e1, e2, e3, e4]
theorem len_pick (ds : List D) (S : Hs) (h : ds.length ≠ 2) : S_pick ds S = .bad := by
  unfold S_pick; split
  · simp at h
  · rfl
def b_pick (mix : MD) : MS := (mSeq (mSet 2 (mBin oIx (mVar 0) (mC (.str "at"))))
    (mSeq (mAsg (mBin oAdd (mVar 2) (mC (.int 1))) (gSb (mVar 0) (mC (.str "at"))))
    (mSeq (mSet 3 (mFn mix (lCons (mBin oIx (mVar 0) (mC (.str "seed"))) (lCons (mVar 2) lNil))))
    (mSeq (mIfS (mCmp oLt (mVar 2) (mCall bLen (lCons (mBin oIx (mVar 0) (mC (.str "row"))) lNil))) (mSet 3 (mBin oIx (mBin oIx (mVar 0) (mC (.str "row"))) (mVar 2))) mPass)
    (mRet (mBin oMod (mCall bInt (lCons (mVar 3) lNil)) (mVar 1)))))))
theorem atI_nat {α : Type} {xs : List α} {i : Int} (h0 : 0 ≤ i) (h1 : i < (xs.length : Int)) : L2.atI xs i = xs[i.toNat]? := by
  unfold L2.atI L2.ixN
  rw [if_pos h0, if_pos h1]; rfl
theorem wf_set {S : Hs} {i : Nat} {o : O} (w : Wf S) (l : o.low S.length) : Wf (S.set i o) := by
  intro j o' e
  rw [List.length_set]
  by_cases h : j = i
  · subst h
    have hl := (List.getElem?_eq_some_iff.mp e).1
    rw [List.length_set] at hl
    rw [List.getElem?_set_self hl] at e
    cases e; exact l
  · rw [List.getElem?_set_ne (Ne.symm h)] at e
    exact w j o' e
theorem fine_pick : Fine 2 S_pick (mDef 2 2 (b_pick S_mix)) := by
  intro ds S wf lo hl
  by_cases hp : ∃ i many j row a sd, ds = [.ref i, .int many] ∧ Drw S i j row a sd ∧ 0 < many
  · obtain ⟨i, many, j, row, a, sd, rfl, h, hm⟩ := hp
    rw [S_pick_eq h hm]
    have hi : i < S.length := Real.lt h.d
    have hj : j < S.length := Real.lt h.r
    refine ⟨by simp, wf_set wf (by simp [O.low, drawsO, drawsK, D.lows, D.low, hj]), by simp [D.low], [], ?_⟩
    have d0 : S[i]? = some (.dic (drawsK (.ref j) (.int a) (.int sd))) := h.d
    have hr2 : (S.set i (O.dic (drawsK (.ref j) (.int (a + 1)) (.int sd))))[j]? = some (.lst (row.map D.int)) := by rw [List.getElem?_set_ne h.ne]; exact h.r
    have nn := h.nn
    by_cases hlt : a < (row.length : Int)
    · have hx : row[a.toNat]? = some (row.getD a.toNat 0) := by
        have : a.toNat < row.length := by omega
        simp [List.getD, List.getElem?_eq_getElem this]
      have hat : L2.atI (row.map D.int) a = some (.int (row.getD a.toNat 0)) := by
        rw [atI_nat nn (by simpa using hlt), List.getElem?_map, hx]; rfl
      simp [mDef, b_pick, mSeq, mSet, mRet, mBin, mCall, lCons, lNil, mVar, mC, oAdd, oIx, dGet, D.key, oMod, bInt, endOf, mAsg, gSb, oSet, mFn, S_mix, mIfS, mCmp, bLen, lenD, oLt, mPass, d0, get_put d0, hr2, hlt, hat, hm, pickV, drawsO, show (3:Nat) < sizeLine by decide]
    · simp [mDef, b_pick, mSeq, mSet, mRet, mBin, mCall, lCons, lNil, mVar, mC, oAdd, oIx, dGet, D.key, oMod, bInt, endOf, mAsg, gSb, oSet, mFn, S_mix, mIfS, mCmp, bLen, lenD, oLt, mPass, d0, get_put d0, hr2, hlt, hm, pickV, drawsO, show (3:Nat) < sizeLine by decide]
  · have e : S_pick ds S = .bad := by
      unfold S_pick
      split
      · rename_i i many
        rw [dif_neg]
        rintro ⟨⟨j, row, a, sd⟩, h, hm⟩
        exact hp ⟨i, many, j, row, a, sd, rfl, h, hm⟩
      · rfl
    rw [e]; trivial
/-! ### loops without a way out -/
theorem range_loop {lo : Int} {n i : Nat} {b : MS} (Inv : Nat → Ls → Hs → Prop) (step : ∀ k l S, k < n → Inv k l S → ∃ l' S', b (l.set i (some (.int (lo + k)))) S = .ok (.nx l') S' ∧ Inv (k + 1) l' S') :
    ∀ m k l S, k + m = n → Inv k l S → ∃ l' S', fLoop (.rng lo n) (gN i) b k l S = .ok (.nx l') S' ∧ Inv n l' S'
  | 0, k, l, S, e, h => by
    have hk : k = n := by omega
    subst hk
    exact ⟨l, S, by rw [fLoop_eq]; simp [itGo], h⟩
  | m + 1, k, l, S, e, h => by
    have hk : k < n := by omega
    obtain ⟨l1, S1, e1, h1⟩ := step k l S hk h
    obtain ⟨l2, S2, e2, h2⟩ := range_loop Inv step m (k + 1) l1 S1 (by omega) h1
    exact ⟨l2, S2, by rw [fLoop_eq]; simp [itGo, hk, gN, e1, e2], h2⟩
def b_str1 : MS := (mIfS (mAndB (mCmp oGt (mVar 4) (mC (.int 0))) (mCmp oLt (mCall bLen (lCons (mVar 2) lNil)) (mVar 1))) (mSeq (mExpr (mBM "list" oAppend (mVar 2) (lCons (mBin oMod (mCall bInt (lCons (mVar 4) lNil)) (mC (.int 1000))) lNil)))
    (mSet 4 (mBin oFdiv (mVar 4) (mC (.int 1000))))) mPass)
def b_str2 (mix : MD) : MS := (mIfS (mCmp oLt (mCall bLen (lCons (mVar 2) lNil)) (mVar 1)) (mExpr (mBM "list" oAppend (mVar 2) (lCons (mFn mix (lCons (mVar 4) (lCons (mBin oAdd (mBin oMul (mC (.int 64)) (mVar 5)) (mVar 3)) lNil))) lNil))) mPass)
noncomputable def b_str3 (mix : MD) : MS := (mSeq (mSet 4 (mBin oIx (mVar 0) (mVar 3)))
    (mIfS (mCmp oGe (mVar 4) (mBin oPow (mC (.int 10)) (mC (.int 18)))) (mFor (mRng1 (lCons (mC (.int 60)) lNil)) (gN 5) b_str1) (mFor (mRng1 (lCons (mC (.int 3)) lNil)) (gN 5) (b_str2 mix))))
noncomputable def b_stream (mix : MD) : MS := (mSeq (mSet 2 (mLst lNil))
    (mSeq (mFor (mRng1 (lCons (mCall bMin (lCons (mCall bLen (lCons (mVar 0) lNil)) (lCons (mC (.int 63)) lNil))) lNil)) (gN 3) (b_str3 mix))
    (mRet (mDisp (dpCons (mC (.str "row")) (mVar 2) (dpCons (mC (.str "at")) (mC (.int 0)) (dpCons (mC (.str "seed")) (mCall bLen (lCons (mVar 2) lNil)) dpNil)))))))
theorem get_end {S : Hs} {o : O} : (S ++ [o])[S.length]? = some o := by simp
theorem set_end {S : Hs} {o u : O} : (S ++ [o]).set S.length u = S ++ [u] := by simp [List.set_append]
theorem lenD_seq {x : D} {S : Hs} {ds : List D} (h : seqD x S = some ds) : lenD x S = some ds.length := by
  unfold seqD at h
  split at h
  · unfold lenD
    split at h <;> first | (rename_i q; cases h; simp [q]) | cases h
  · cases h; rfl
  · cases h
theorem seqD_more {x : D} {S g : Hs} {ds : List D} (h : seqD x S = some ds) : seqD x (S ++ g) = some ds := by
  unfold seqD at h ⊢
  split at h
  · rename_i i
    split at h
    · rename_i q; rw [List.getElem?_append_left (Real.lt q), q]; exact h
    · rename_i q; rw [List.getElem?_append_left (Real.lt q), q]; exact h
    · cases h
  · exact h
  · cases h
theorem oIx_seq {x : D} {S : Hs} {ds : List D} {i : Int} {d : D} (h : seqD x S = some ds) (h0 : 0 ≤ i) (h1 : i < (ds.length : Int)) (hd : ds[i.toNat]? = some d) : oIx x (.int i) S = .ok d S := by
  have ha : L2.atI ds i = some d := by rw [atI_nat h0 h1]; exact hd
  unfold seqD at h
  split at h
  · split at h <;> first | (rename_i q; cases h; simp [oIx, q, ha]) | cases h
  · cases h; simp [oIx, ha]
  · cases h
theorem line_big {n : Nat} (h : n ≤ 1000000) : n < sizeLine := Nat.lt_of_le_of_lt h (by decide)
def RowAt (S0 : Hs) (most : Int) (S : Hs) : Prop := ∃ row : List Int, S = S0 ++ [.lst (row.map D.int)] ∧ (row.length : Int) ≤ max most 0
theorem rowAt_push {S0 : Hs} {most : Int} {row : List Int} {v : Int} (h : (row.length : Int) < most) : RowAt S0 most (S0 ++ [.lst (row.map D.int ++ [.int v])]) := ⟨row ++ [v], by simp, by simp; omega⟩
theorem pow18 (S : Hs) : oPow (.int 10) (.int 18) S = .ok (.int 1000000000000000000) S := by
  have e : (10 : Int) ^ (18 : Int).toNat = 1000000000000000000 := by decide +kernel
  have h : 0 ≤ (18 : Int) ∧ (18 : Int) ≤ 1000000 ∧ (10 : Int).natAbs < 2 ^ 64 := by decide +kernel
  simp only [oPow]
  rw [if_pos h, e]
theorem rng1 {n : Int} (S : Hs) (h0 : -1000000000 ≤ n) (h1 : n ≤ 1000000000) : oRng1 [.int n] S = .ok (.rng 0 n.toNat) S := by
  have h : -(2 ^ 62) ≤ n ∧ n < 2 ^ 62 := ⟨Int.le_trans (by decide +kernel) h0, Int.lt_of_le_of_lt h1 (by decide +kernel)⟩
  simp only [oRng1]
  rw [if_pos h]
theorem str1_true {S : Hs} {x : D} {most : Int} {o3 o5 : Option D} {rest : Int} {S' : Hs} (hm : most ≤ 1000000) (hS : RowAt S most S') : ∃ l' S'', fLoop (.rng 0 60) (gN 5) b_str1 0 [some x, some (.int most), some (.ref S.length), o3, some (.int rest), o5] S' = .ok (.nx l') S'' ∧
    (RowAt S most S'' ∧ ∃ o4 o5, l' = [some x, some (.int most), some (.ref S.length), o3, o4, o5]) := by
  have := range_loop (lo := 0) (n := 60) (i := 5) (b := b_str1) (fun _ l S' => RowAt S most S' ∧ ∃ (rest : Int) (o5 : Option D), l = [some x, some (.int most), some (.ref S.length), o3, some (.int rest), o5]) ?_ 60 0 _ S' (by omega) ⟨hS, rest, o5, rfl⟩
  · obtain ⟨l', S'', e, h1, r, o, h2⟩ := this
    exact ⟨l', S'', e, h1, _, _, h2⟩
  · rintro k l S' hk ⟨⟨row, rfl, hr⟩, rest, o5, rfl⟩
    by_cases h0 : 0 < rest
    · by_cases h1 : (row.length : Int) < most
      · refine ⟨_, _, ?_, rowAt_push (v := rest % 1000) h1, rest / 1000, some (.int (0 + k)), rfl⟩
        have hb : row.length < sizeLine := line_big (by omega)
        simp [b_str1, mIfS, mAndB, mCmp, mVar, mC, oGt, oLt, mCall, bLen, lCons, lNil, lenD, h0, h1, mSeq, mExpr, mBM, hasTy, oAppend, mBin, oMod, bInt, mSet, oFdiv, hb, show Nat.log2 1000 < 9000 by decide]
      · refine ⟨_, _, ?_, ⟨row, rfl, hr⟩, rest, some (.int (0 + k)), rfl⟩
        simp [b_str1, mIfS, mAndB, mCmp, mVar, mC, oGt, oLt, mCall, bLen, lCons, lNil, lenD, h0, h1, mPass]
    · refine ⟨_, _, ?_, ⟨row, rfl, hr⟩, rest, some (.int (0 + k)), rfl⟩
      simp [b_str1, mIfS, mAndB, mCmp, mVar, mC, oGt, h0, mPass]
theorem str2_true {S : Hs} {x : D} {most : Int} {c : Int} {o5 : Option D} {rest : Int} {S' : Hs} (hm : most ≤ 1000000) (hS : RowAt S most S') : ∃ l' S'', fLoop (.rng 0 3) (gN 5) (b_str2 S_mix) 0 [some x, some (.int most), some (.ref S.length), some (.int c), some (.int rest), o5] S' = .ok (.nx l') S'' ∧
    (RowAt S most S'' ∧ ∃ o5, l' = [some x, some (.int most), some (.ref S.length), some (.int c), some (.int rest), o5]) := by
  refine range_loop (lo := 0) (n := 3) (i := 5) (fun _ l S' => RowAt S most S' ∧ ∃ (o5 : Option D), l = [some x, some (.int most), some (.ref S.length), some (.int c), some (.int rest), o5]) ?_ 3 0 _ S' (by omega) ⟨hS, o5, rfl⟩
  rintro k l S' hk ⟨⟨row, rfl, hr⟩, o5, rfl⟩
  by_cases h1 : (row.length : Int) < most
  · refine ⟨_, _, ?_, rowAt_push (v := mixI rest (64 * (0 + k) + c)) h1, some (.int (0 + k)), rfl⟩
    have hb : row.length < sizeLine := line_big (by omega)
    have hmul : IntMulOk 64 (k : Int) := mulok_l (by decide)
    simp [b_str2, mIfS, mCmp, mVar, mC, oLt, mCall, bLen, lCons, lNil, lenD, h1, mExpr, mBM, hasTy, oAppend, mBin, hb, mFn, S_mix, oMul, oAdd, hmul]
  · refine ⟨_, _, ?_, ⟨row, rfl, hr⟩, some (.int (0 + k)), rfl⟩
    simp [b_str2, mIfS, mCmp, mVar, mC, oLt, mCall, bLen, lCons, lNil, lenD, h1, mPass]
theorem str3_true {x : D} {S : Hs} {ns : List Int} {most : Int} (hx : seqD x S = some (ns.map D.int)) (hm : most ≤ 1000000) (k : Nat) (l : Ls) (S' : Hs) (hk : k < ns.length) (h : RowAt S most S' ∧ ∃ (o3 o4 o5 : Option D), l = [some x, some (.int most), some (.ref S.length), o3, o4, o5]) :
    ∃ l' S'', b_str3 S_mix (l.set 3 (some (.int (0 + k)))) S' = .ok (.nx l') S'' ∧ RowAt S most S'' ∧ ∃ (o3 o4 o5 : Option D), l' = [some x, some (.int most), some (.ref S.length), o3, o4, o5] := by
  obtain ⟨hS, o3, o4, o5, rfl⟩ := h
  have hS0 := hS
  obtain ⟨row, rfl, hr⟩ := hS
  have hix : oIx x (.int (k : Int)) (S ++ [.lst (row.map D.int)]) = .ok (.int ns[k]) (S ++ [.lst (row.map D.int)]) := oIx_seq (seqD_more hx) (by omega) (by simpa using hk) (by simp [hk])
  by_cases hg : (1000000000000000000 : Int) ≤ ns[k]
  · obtain ⟨l', S'', e, h1, o4', o5', h2⟩ := str1_true (S := S) (x := x) (o3 := some (.int (0 + k))) (o5 := o5) (rest := ns[k]) hm hS0
    refine ⟨l', S'', ?_, h1, _, _, _, h2⟩
    rw [← e]
    simp [b_str3, mSeq, mSet, mBin, mVar, hix, mIfS, mCmp, mC, pow18, oGe, hg, mFor, mRng1, rng1, lCons, lNil]
  · obtain ⟨l', S'', e, h1, o5', h2⟩ := str2_true (S := S) (x := x) (c := 0 + k) (o5 := o5) (rest := ns[k]) hm hS0
    refine ⟨l', S'', ?_, h1, _, _, _, h2⟩
    rw [← e]
    simp [b_str3, mSeq, mSet, mBin, mVar, hix, mIfS, mCmp, mC, pow18, oGe, hg, mFor, mRng1, rng1, lCons, lNil]
theorem mLst_nil (l : Ls) (S : Hs) : mLst lNil l S = .ok (.ref S.length) (S ++ [.lst []]) := by
  have h : ([] : List D).length ≤ sizeLine := Nat.zero_le _
  simp only [mLst, lNil, R.bind_ok]
  rw [if_pos h]
theorem stream_true {x : D} {S : Hs} {ns : List Int} {most : Int} (hx : seqD x S = some (ns.map D.int)) (hl : ns.length ≤ 63) (hm : most ≤ 1000000) :
    ∃ row : List Int, (row.length : Int) ≤ max most 0 ∧ mDef 2 4 (b_stream S_mix) [x, .int most] S = .ok (.ref (S.length + 1)) (S ++ [.lst (row.map D.int), drawsO S.length 0 row.length]) := by
  have outer := range_loop (lo := 0) (n := ns.length) (i := 3) (b := b_str3 S_mix)
    (fun _ l S' => RowAt S most S' ∧ ∃ (o3 o4 o5 : Option D), l = [some x, some (.int most), some (.ref S.length), o3, o4, o5]) (fun k l S' hk h => str3_true hx hm k l S' hk h) ns.length 0 [some x, some (.int most), some (.ref S.length), none, none, none] (S ++ [.lst []]) (by omega) ⟨⟨[], rfl, by simp; omega⟩, none, none, none, rfl⟩
  obtain ⟨l', S', e, ⟨row, rfl, hr⟩, o3, o4, o5, rfl⟩ := outer
  refine ⟨row, hr, ?_⟩
  have hmin : (if (63 : Int) < (ns.length : Int) then (63 : Int) else (ns.length : Int)) = (ns.length : Int) := if_neg (by omega)
  have hlen' : lenD x (S ++ [.lst []]) = some ns.length := by
    have := lenD_seq (seqD_more (g := [.lst []]) hx)
    rwa [List.length_map] at this
  have hb1 : (ns.length : Int) ≤ 1000000000 := by omega
  have hb0 : -1000000000 ≤ (ns.length : Int) := by omega
  have hb : row.length < sizeLine := line_big (by omega)
  have e1 : mFor (mRng1 (lCons (mCall bMin (lCons (mCall bLen (lCons (mVar 0) lNil)) (lCons (mC (.int 63)) lNil))) lNil)) (gN 3) (b_str3 S_mix) [some x, some (.int most), some (.ref S.length), none, none, none] (S ++ [.lst []]) = .ok (.nx [some x, some (.int most), some (.ref S.length), o3, o4, o5]) (S ++ [.lst (row.map D.int)]) := by
    simp only [mFor, mRng1, lCons, mCall, mVar, List.getElem?_cons_zero, lNil, R.bind_ok, bLen, hlen', mC, bMin, hmin, rng1 _ hb0 hb1, Int.toNat_natCast, e]
  simp [mDef, b_stream, mSeq, mSet, mLst_nil, e1, mRet, mDisp, dpCons, dpNil, mC, mVar, mCall, bLen, lCons, lNil, lenD, keysP, D.key, endOf, drawsO, mergeD, setK, drawsK, kRA, kRS, kAS]
end Ly
set_option Elab.async false
set_option linter.all false
set_option maxRecDepth 100000
namespace Ly
open PySem PySem.Spec L2
open PyProof.Rows hiding St
/-! ### texts as rows of signs -/
def tx (cs : List Nat) : Str := ⟨⟨cs⟩⟩
@[simp] theorem tx_len (cs : List Nat) : (tx cs).length = cs.length := rfl
@[simp] theorem tx_list (cs : List Nat) : (tx cs).cps.toList = cs := rfl
theorem tx_app (a b : List Nat) : tx a ++ tx b = tx (a ++ b) := by
  show (⟨(⟨a⟩ : Array Nat) ++ (⟨b⟩ : Array Nat)⟩ : Str) = _
  simp [tx]
theorem tx_of (x : Str) : x = tx x.cps.toList := rfl
theorem tx_inj {a b : List Nat} (h : tx a = tx b) : a = b := congrArg (fun z => z.cps.toList) h
@[simp] theorem tx_eq {a b : List Nat} : (tx a = tx b) = (a = b) := propext ⟨tx_inj, fun h => by rw [h]⟩
def posC (c : Nat) : List Nat → Nat → List Nat
  | [], _ => []
  | x :: r, a => if x = c then a :: posC c r (a + 1) else posC c r (a + 1)
theorem occ_run (x : Str) (c limit : Nat) : ∀ (rest : List Nat) (a : Nat) (fd : Array Nat) (fr : Nat), x.cps.toList.drop a = rest → a ≤ x.length → fr ≤ a → fd.size ≤ limit →
    (forIn (List.range' a (x.length + 1 - a)) (fd, fr) (StrLaws.occBody x ⟨#[c]⟩ x.length limit)).run.fst.toList = fd.toList ++ (posC c rest a).take (limit - fd.size)
  | [], a, fd, fr, h, ha, hf, hs => by
    have hl : x.length ≤ a := by
      have := congrArg List.length h
      simp [Str.length] at this ⊢
      omega
    have e : x.length + 1 - a = 1 := by omega
    rw [e, List.range'_one, List.forIn_cons]
    unfold StrLaws.occBody
    have hn : ¬ (((fd.size < limit ∧ fr ≤ a) ∧ a + (⟨#[c]⟩ : Str).length ≤ x.length) ∧ Builtin.Str.subAt x ⟨#[c]⟩ a = true) := by
      intro hh
      have : (⟨#[c]⟩ : Str).length = 1 := rfl
      omega
    rw [if_neg hn]
    simp [posC]
  | y :: r, a, fd, fr, h, ha, hf, hs => by
    have hy : x.cps.toList[a]? = some y := by
      have : (x.cps.toList.drop a)[0]? = some y := by rw [h]; rfl
      rw [List.getElem?_drop] at this
      simpa using this
    have hlt : a < x.length := by
      obtain ⟨q, _⟩ := List.getElem?_eq_some_iff.mp hy
      simpa [Str.length] using q
    have hd : x.cps.toList.drop (a + 1) = r := by
      rw [← List.drop_drop, h]; rfl
    have e : x.length + 1 - a = (x.length + 1 - (a + 1)) + 1 := by omega
    rw [e, List.range'_succ, List.forIn_cons]
    unfold StrLaws.occBody
    by_cases hc : y = c
    · subst hc
      have hsub := (StrLaws.subAt_one x y a).mpr hy
      by_cases hsz : fd.size < limit
      · rw [if_pos ⟨⟨⟨hsz, hf⟩, hsub.1⟩, hsub.2⟩]
        show (forIn (List.range' (a + 1) (x.length + 1 - (a + 1))) (fd.push a, a + 1) (StrLaws.occBody x ⟨#[y]⟩ x.length limit)).run.fst.toList = _
        rw [occ_run x y limit r (a + 1) (fd.push a) (a + 1) hd (by omega) (by omega) (by simp; omega)]
        have e2 : limit - fd.size = (limit - (fd.size + 1)) + 1 := by omega
        simp [posC, e2]
      · rw [if_neg (fun hh => hsz hh.1.1.1)]
        show (forIn (List.range' (a + 1) (x.length + 1 - (a + 1))) (fd, fr) (StrLaws.occBody x ⟨#[y]⟩ x.length limit)).run.fst.toList = _
        rw [occ_run x y limit r (a + 1) fd fr hd (by omega) (by omega) (by omega)]
        have e2 : limit - fd.size = 0 := by omega
        simp [e2]
    · rw [if_neg (fun hh => hc (by
        have := (StrLaws.subAt_one x c a).mp ⟨hh.1.2, hh.2⟩
        rw [hy] at this; exact Option.some.inj this))]
      show (forIn (List.range' (a + 1) (x.length + 1 - (a + 1))) (fd, fr) (StrLaws.occBody x ⟨#[c]⟩ x.length limit)).run.fst.toList = _
      rw [occ_run x c limit r (a + 1) fd fr hd (by omega) (by omega) (by omega)]
      simp [posC, hc]
theorem occ_pos (cs : List Nat) (c a limit : Nat) (ha : a ≤ cs.length) : Builtin.Str.occurrences (tx cs) ⟨#[c]⟩ a cs.length limit = (posC c (cs.drop a) a).take limit := by
  rw [StrLaws.occ_eq]
  have := occ_run (tx cs) c limit (cs.drop a) a #[] a rfl ha (Nat.le_refl _) (Nat.zero_le _)
  simpa using this
theorem posC_len (c : Nat) : ∀ (cs : List Nat) (a : Nat), (posC c cs a).length = cs.count c
  | [], _ => rfl
  | x :: r, a => by
    by_cases h : x = c
    · simp [posC, h, posC_len c r (a + 1)]
    · simp [posC, h, posC_len c r (a + 1), List.count_cons, h]
theorem count_tx (cs : List Nat) (c : Nat) : Txt.count (tx cs) ⟨#[c]⟩ = (cs.count c : Int) := by
  have h : Txt.count (tx cs) ⟨#[c]⟩ = ((Builtin.Str.occurrences (tx cs) ⟨#[c]⟩ 0 cs.length (cs.length + 1)).length : Int) := rfl
  rw [h, occ_pos cs c 0 _ (Nat.zero_le _), List.drop_zero, List.length_take, posC_len]
  have := List.count_le_length (a := c) (l := cs)
  omega
/-- where the first c stands from a on -/
def firstC (c : Nat) : List Nat → Nat → Option Nat
  | [], _ => none
  | x :: r, a => if x = c then some a else firstC c r (a + 1)
theorem posC_head (c : Nat) : ∀ (cs : List Nat) (a : Nat), (posC c cs a).head? = firstC c cs a
  | [], _ => rfl
  | x :: r, a => by
    by_cases h : x = c
    · simp [posC, h, firstC]
    · simp [posC, h, firstC, posC_head c r (a + 1)]
theorem from_nat {n a : Nat} (h : a ≤ n) : fromIndex n (a : Int) = a := by
  unfold fromIndex
  split <;> omega
theorem find3_tx (cs : List Nat) (c a : Nat) (ha : a ≤ cs.length) : Txt.find3 (tx cs) ⟨#[c]⟩ (a : Int) = (match firstC c (cs.drop a) a with | some i => (i : Int) | none => -1) := by
  have h : Txt.find3 (tx cs) ⟨#[c]⟩ (a : Int) = (match Builtin.Str.occurrences (tx cs) ⟨#[c]⟩ (fromIndex cs.length (a : Int)) cs.length 1 with | k :: _ => (k : Int) | [] => -1) := rfl
  rw [h, from_nat ha, occ_pos cs c a 1 ha, ← posC_head]
  cases posC c (cs.drop a) a <;> simp
/-- the place behind the last c, or 0 -/
def behC (c : Nat) : List Nat → Nat → Nat → Nat
  | [], _, e => e
  | x :: r, a, e => behC c r (a + 1) (if x = c then a + 1 else e)
theorem behC_app (c : Nat) : ∀ (xs ys : List Nat) (a e : Nat), behC c (xs ++ ys) a e = behC c ys (a + xs.length) (behC c xs a e)
  | [], ys, a, e => by simp [behC]
  | x :: r, ys, a, e => by
    simp only [List.cons_append, behC, List.length_cons]
    rw [behC_app c r ys (a + 1), Nat.add_assoc, Nat.add_comm 1]
def lastBody (s sub : Str) (hi : Nat) (i : Nat) (st : Option Nat) : Id (ForInStep (Option Nat)) :=
  if i + sub.length ≤ hi ∧ Builtin.Str.subAt s sub i = true then pure (ForInStep.yield (some i)) else pure (ForInStep.yield st)
theorem last_eq (s sub : Str) (hi : Nat) : Builtin.Str.lastOccurrence s sub 0 hi = (forIn (List.range' 0 (hi + 1)) (none : Option Nat) (lastBody s sub hi)).run := by
  unfold Builtin.Str.lastOccurrence lastBody
  simp
def upO (e : Nat) : Option Nat := if e = 0 then none else some (e - 1)
theorem last_run (x : Str) (c : Nat) : ∀ (rest : List Nat) (a e : Nat), x.cps.toList.drop a = rest → a ≤ x.length →
    (forIn (List.range' a (x.length + 1 - a)) (upO e) (lastBody x ⟨#[c]⟩ x.length)).run = upO (behC c rest a e)
  | [], a, e, h, ha => by
    have hl : x.length ≤ a := by
      have := congrArg List.length h
      simp [Str.length] at this ⊢
      omega
    have e1 : x.length + 1 - a = 1 := by omega
    rw [e1, List.range'_one, List.forIn_cons]
    unfold lastBody
    have hn : ¬ (a + (⟨#[c]⟩ : Str).length ≤ x.length ∧ Builtin.Str.subAt x ⟨#[c]⟩ a = true) := by
      intro hh
      have : (⟨#[c]⟩ : Str).length = 1 := rfl
      omega
    rw [if_neg hn]
    simp [behC]
  | y :: r, a, e, h, ha => by
    have hy : x.cps.toList[a]? = some y := by
      have : (x.cps.toList.drop a)[0]? = some y := by rw [h]; rfl
      rw [List.getElem?_drop] at this
      simpa using this
    have hlt : a < x.length := by
      obtain ⟨q, _⟩ := List.getElem?_eq_some_iff.mp hy
      simpa [Str.length] using q
    have hd : x.cps.toList.drop (a + 1) = r := by
      rw [← List.drop_drop, h]; rfl
    have e1 : x.length + 1 - a = (x.length + 1 - (a + 1)) + 1 := by omega
    rw [e1, List.range'_succ, List.forIn_cons]
    unfold lastBody
    by_cases hc : y = c
    · subst hc
      rw [if_pos ((StrLaws.subAt_one x y a).mpr hy)]
      show (forIn (List.range' (a + 1) (x.length + 1 - (a + 1))) (upO (a + 1)) (lastBody x ⟨#[y]⟩ x.length)).run = _
      rw [last_run x y r (a + 1) (a + 1) hd (by omega)]
      simp [behC]
    · rw [if_neg (fun hh => hc (by
        have := (StrLaws.subAt_one x c a).mp hh
        rw [hy] at this; exact Option.some.inj this))]
      show (forIn (List.range' (a + 1) (x.length + 1 - (a + 1))) (upO e) (lastBody x ⟨#[c]⟩ x.length)).run = _
      rw [last_run x c r (a + 1) e hd (by omega)]
      simp [behC, hc]
theorem rfind_tx (cs : List Nat) (c : Nat) : Txt.rfind (tx cs) ⟨#[c]⟩ = (behC c cs 0 0 : Int) - 1 := by
  have h : Txt.rfind (tx cs) ⟨#[c]⟩ = (match Builtin.Str.lastOccurrence (tx cs) ⟨#[c]⟩ 0 cs.length with | some i => (i : Int) | none => -1) := rfl
  have e := last_run (tx cs) c cs 0 0 rfl (Nat.zero_le _)
  rw [h, last_eq]
  have e' : (forIn (List.range' 0 (cs.length + 1)) (none : Option Nat) (lastBody (tx cs) ⟨#[c]⟩ cs.length)).run = upO (behC c cs 0 0) := e
  rw [e']
  unfold upO
  split
  · rename_i q; split at q
    · cases q
    · cases q
      rename_i hz
      have h1 : 1 ≤ behC c cs 0 0 := Nat.one_le_iff_ne_zero.mpr hz
      exact Int.ofNat_sub h1
  · rename_i q; split at q
    · rename_i hz; rw [hz]; rfl
    · cases q
theorem behC_le (c : Nat) : ∀ (cs : List Nat) (a e : Nat), e ≤ a → behC c cs a e ≤ a + cs.length
  | [], a, e, h => by simpa [behC] using h
  | x :: r, a, e, h => by
    have := behC_le c r (a + 1) (if x = c then a + 1 else e) (by split <;> omega)
    simp only [behC, List.length_cons]
    omega
/-! ### signs and parts of a text -/
theorem ix_tx {cs : List Nat} {i c : Nat} {S : Hs} (h : cs[i]? = some c) (hl : cs.length ≤ sizeLine) : oIx (.str (tx cs)) (.int (i : Int)) S = .ok (.str (tx [c])) S := by
  have hlt : i < cs.length := (List.getElem?_eq_some_iff.mp h).1
  have ha : L2.atI cs (i : Int) = some c := by rw [atI_nat (by omega) (by omega)]; simpa using h
  have hl' : (tx cs).length ≤ sizeLine := hl
  simp only [oIx]
  rw [if_pos hl', tx_list, ha]
  rfl
theorem sl_tx {cs : List Nat} {a b : Nat} {S : Hs} (ha : a ≤ b) (hl : cs.length ≤ sizeLine) : oSl (.str (tx cs)) (some (a : Int)) (some (b : Int)) S = .ok (.str (tx ((cs.drop a).take (b - a)))) S := by
  have hl' : (tx cs).length ≤ sizeLine := hl
  simp only [oSl]
  rw [if_pos hl']
  have e : cutS (tx cs) (some (a : Int)) (some (b : Int)) = tx ((cs.drop a).take (b - a)) := by
    show tx _ = tx _
    simp only [HT.sIx, tx_len, tx_list, Int.toNat_natCast]
    rw [if_neg (by omega), if_neg (by omega)]
    by_cases h1 : a ≤ cs.length
    · rw [Nat.min_eq_left h1]
      by_cases h2 : b ≤ cs.length
      · rw [Nat.min_eq_left h2]
      · rw [Nat.min_eq_right (by omega)]
        rw [List.take_of_length_le (i := b - a) (by simp; omega), List.take_of_length_le (by simp)]
    · rw [Nat.min_eq_right (by omega : cs.length ≤ a), List.drop_of_length_le (Nat.le_refl _), List.drop_of_length_le (by omega : cs.length ≤ a)]; simp
  rw [e]
theorem add_tx {a b : List Nat} {S : Hs} (h : a.length + b.length ≤ sizeLine) : oAdd (.str (tx a)) (.str (tx b)) S = .ok (.str (tx (a ++ b))) S := by
  have h' : (tx a).length + (tx b).length ≤ sizeLine := h
  simp only [oAdd]
  rw [if_pos h', tx_app]
theorem in_tx {c : Nat} {cs : List Nat} {S : Hs} : oIn (.str (tx [c])) (.str (tx cs)) S = .ok (.bl (decide (c ∈ cs))) S := rfl
/-! ### equal data -/
mutual
def D.plain : D → Bool
  | .non => true
  | .bl _ => true
  | .int _ => true
  | .str x => PyData.strOk x
  | .tup ds => D.plains ds
  | .wt ds => D.plains ds
  | _ => false
def D.plains : List D → Bool
  | [] => true
  | d :: ds => D.plain d && D.plains ds
end
mutual
def D.toP : D → PyData
  | .non => .none
  | .bl b => .bool b
  | .int i => .int i
  | .str x => .str x
  | .tup ds => .tuple (D.toPs ds)
  | .wt ds => .tuple (D.toPs ds)
  | _ => .none
def D.toPs : List D → List PyData
  | [] => []
  | d :: ds => D.toP d :: D.toPs ds
end
mutual
theorem D.pd_plain (S : Hs) : ∀ (d : D) (k : Nat), d.plain = true → 2 * d.toP.depth < k → D.pd S k d = some d.toP
  | d, 0, _, h => absurd h (Nat.not_lt_zero _)
  | .non, k + 1, _, _ => by rw [D.pd, D.toP]
  | .bl _, k + 1, _, _ => by rw [D.pd, D.toP]
  | .int _, k + 1, _, _ => by rw [D.pd, D.toP]
  | .str _, k + 1, _, _ => by rw [D.pd, D.toP]
  | .tup ds, k + 1, h, hk => by
    rw [D.pd, D.toP, D.pds_plain S ds k (by simpa [D.plain] using h) (by simp [D.toP, PyData.depth] at hk; omega)]; rfl
  | .wt ds, k + 1, h, hk => by
    rw [D.pd, D.toP, D.pds_plain S ds k (by simpa [D.plain] using h) (by simp [D.toP, PyData.depth] at hk; omega)]; rfl
  | .wl _, _ + 1, h, _ => by simp [D.plain] at h
  | .ref _, _ + 1, h, _ => by simp [D.plain] at h
  | .cst _, _ + 1, h, _ => by simp [D.plain] at h
theorem D.pds_plain (S : Hs) : ∀ (ds : List D) (k : Nat), D.plains ds = true → 2 * PyData.depthAll (D.toPs ds) + 1 < k → D.pds S k ds = some (D.toPs ds)
  | [], k, _, _ => by cases k <;> simp [D.pds, D.toPs]
  | d :: ds, 0, _, h => absurd h (Nat.not_lt_zero _)
  | d :: ds, k + 1, h, hk => by
    simp only [D.plains, Bool.and_eq_true] at h
    simp only [D.toPs, PyData.depthAll] at hk
    rw [D.pds, D.pd_plain S d k h.1 (by omega), D.pds_plain S ds (k + 1) h.2 (by omega), D.toPs]
end
mutual
theorem D.lay_plain : ∀ (d : D), d.plain = true → d.toP.canLay0 = true
  | .non, _ => by simp [D.toP, PyData.canLay0]
  | .bl _, _ => by simp [D.toP, PyData.canLay0]
  | .int _, _ => by simp [D.toP, PyData.canLay0]
  | .str x, h => by simpa [D.toP, PyData.canLay0, D.plain] using h
  | .tup ds, h => by
    rw [D.toP, PyData.canLay0]; exact D.lays_plain ds (by simpa [D.plain] using h)
  | .wt ds, h => by
    rw [D.toP, PyData.canLay0]; exact D.lays_plain ds (by simpa [D.plain] using h)
  | .wl _, h => by simp [D.plain] at h
  | .ref _, h => by simp [D.plain] at h
  | .cst _, h => by simp [D.plain] at h
theorem D.lays_plain : ∀ (ds : List D), D.plains ds = true → PyData.canLayAll0 (D.toPs ds) = true
  | [], _ => by simp [D.toPs, PyData.canLayAll0]
  | d :: ds, h => by
    simp only [D.plains, Bool.and_eq_true] at h
    simp [D.toPs, PyData.canLayAll0, D.lay_plain d h.1, D.lays_plain ds h.2]
end
theorem plains_app : ∀ (xs ys : List D), D.plains (xs ++ ys) = (D.plains xs && D.plains ys)
  | [], ys => by simp [D.plains]
  | x :: xs, ys => by simp [D.plains, plains_app xs ys, Bool.and_assoc]
theorem plains_mem : ∀ (xs : List D), D.plains xs = true ↔ ∀ x ∈ xs, D.plain x = true
  | [] => by simp [D.plains]
  | x :: xs => by simp [D.plains, plains_mem xs]
theorem depthAll_mem {n : Nat} : ∀ (xs : List D), (∀ x ∈ xs, x.toP.depth ≤ n) → PyData.depthAll (D.toPs xs) ≤ n
  | [], _ => by simp [D.toPs, PyData.depthAll]
  | x :: xs, h => by
    simp only [D.toPs, PyData.depthAll]
    have h1 := h x (List.mem_cons_self ..)
    have h2 := depthAll_mem xs (fun y m => h y (List.mem_cons_of_mem _ m))
    omega
/-- the data of a thing, as == sees it -/
theorem cEqD_same {x y : D} {S : Hs} {a : PyData} (e : cEqS x y = none) (hx : D.pd S 70 x = some a) (hy : D.pd S 70 y = some a) (hs : SeqAt.shaped a = true) : cEqD x y S = some true := by
  unfold cEqD
  rw [e, hx, hy]
  simp only []
  have h : a.canLay0 = true := by
    simp only [SeqAt.shaped, Bool.and_eq_true] at hs; exact hs.1
  rw [if_pos ⟨hs, hs⟩, PySem.SeqAt.eqv_refl a h]
theorem pd_lst {S : Hs} {i : Nat} {xs : List D} (h : S[i]? = some (.lst xs)) (hp : D.plains xs = true) (hd : PyData.depthAll (D.toPs xs) ≤ 30) : D.pd S 70 (.ref i) = some (.list (D.toPs xs)) ∧ SeqAt.shaped (.list (D.toPs xs)) = true := by
  refine ⟨?_, ?_⟩
  · rw [D.pd, h]
    simp only []
    rw [D.pds_plain S xs 69 hp (by omega)]; rfl
  · show (_ && _) = true
    rw [Bool.and_eq_true]
    refine ⟨by rw [PyData.canLay0]; exact D.lays_plain xs hp, decide_eq_true ?_⟩
    rw [PyData.depth]
    omega
theorem pd_tup {S : Hs} {xs : List D} (hp : D.plains xs = true) (hd : PyData.depthAll (D.toPs xs) ≤ 30) : D.pd S 70 (.tup xs) = some (.tuple (D.toPs xs)) ∧ SeqAt.shaped (.tuple (D.toPs xs)) = true := by
  refine ⟨?_, ?_⟩
  · rw [D.pd, D.pds_plain S xs 69 hp (by omega)]; rfl
  · show (_ && _) = true
    rw [Bool.and_eq_true]
    refine ⟨by rw [PyData.canLay0]; exact D.lays_plain xs hp, decide_eq_true ?_⟩
    rw [PyData.depth]
    omega
theorem eq_lsts {S : Hs} {i j : Nat} {xs : List D} (hi : S[i]? = some (.lst xs)) (hj : S[j]? = some (.lst xs)) (hp : D.plains xs = true) (hd : PyData.depthAll (D.toPs xs) ≤ 30) : cEqD (.ref i) (.ref j) S = some true :=
  cEqD_same rfl (pd_lst hi hp hd).1 (pd_lst hj hp hd).1 (pd_lst hi hp hd).2
end Ly
set_option Elab.async false
set_option linter.all false
set_option maxRecDepth 100000
namespace Ly
open PySem PySem.Spec L2
open PyProof.Rows hiding St
/-! ### the steps, one by one: for simp, without opening what stands within -/
theorem nr {α : Type} {a b : α} (h : a = b) : a = b := h.trans (Eq.refl _)
section
variable {f g h : M} {fl : ML} {fm : MO} {c c2 : MB} {b b2 : MS} {gg : MG} {gs : MGs} {l : Ls} {S : Hs} {i n : Nat} {d : D} {ds : List D} {md : MD} {op2 : D → D → Hs → R D} {op1 : D → Hs → R D} {opn : List D → Hs → R D} {opm : D → List D → Hs → R D} {T : String} {it : MI} {mp : MP} {lo hi : MO}
theorem ap_bin : mBin op2 f g l S = (f l S).bind fun x S1 => (g l S1).bind fun y S2 => op2 x y S2 := nr rfl
theorem ap_var : mVar i l S = match l[i]? with | some (some d) => .ok d S | _ => .bad := nr rfl
theorem ap_c : mC d l S = .ok d S := nr rfl
theorem ap_un : mUn op1 f l S = (f l S).bind op1 := nr rfl
theorem ap_cmp : mCmp op2 f g l S = (f l S).bind fun x S1 => (g l S1).bind fun y S2 => (op2 x y S2).bind fun d S3 => match d with
  | .bl b => .ok b S3
  | _ => .bad := nr rfl
theorem ap_nil : lNil l S = .ok [] S := nr rfl
theorem ap_cons : lCons f fl l S = (f l S).bind fun x S1 => (fl l S1).bind fun xs S2 => .ok (x :: xs) S2 := nr rfl
theorem ap_tru : mTru f l S = (f l S).bind oTru := nr rfl
theorem ap_notB : mNotB c l S = (c l S).bind fun b S1 => .ok (!b) S1 := nr rfl
theorem ap_andB : mAndB c c2 l S = (c l S).bind fun b S1 => if b = true then c2 l S1 else .ok false S1 := nr rfl
theorem ap_orB : mOrB c c2 l S = (c l S).bind fun b S1 => if b = true then .ok true S1 else c2 l S1 := nr rfl
theorem ap_and : mAnd f g l S = (f l S).bind fun x S1 => (oTru x S1).bind fun b S2 => if b = true then g l S2 else .ok x S2 := nr rfl
theorem ap_or : mOr f g l S = (f l S).bind fun x S1 => (oTru x S1).bind fun b S2 => if b = true then .ok x S2 else g l S2 := nr rfl
theorem ap_if : mIf c f g l S = (c l S).bind fun b S1 => if b = true then f l S1 else g l S1 := nr rfl
theorem ap_no : oNo l S = .ok none S := nr rfl
theorem ap_some : oSome f l S = (f l S).bind fun d S1 => match d with
  | .int i => .ok (some i) S1
  | _ => .bad := nr rfl
theorem ap_sl : mSl f lo hi l S = (f l S).bind fun x S1 => (lo l S1).bind fun a S2 => (hi l S2).bind fun b S3 => oSl x a b S3 := nr rfl
theorem ap_tup : mTup fl l S = (fl l S).bind fun ds S1 => if ds.length ≤ sizeLine then .ok (.tup ds) S1 else .bad := nr rfl
theorem ap_lst : mLst fl l S = (fl l S).bind fun ds S1 => if ds.length ≤ sizeLine then .ok (.ref S1.length) (S1 ++ [.lst ds]) else .bad := nr rfl
theorem ap_call : mCall opn fl l S = (fl l S).bind opn := nr rfl
theorem ap_bm : mBM T opm f fl l S = (f l S).bind fun x S1 => if hasTy T x S1 = true then (fl l S1).bind fun ds S2 => opm x ds S2 else .bad := nr rfl
theorem ap_set : mSet i f l S = (f l S).bind fun d S1 => .ok (.nx (l.set i (some d))) S1 := nr rfl
theorem ap_expr : mExpr f l S = (f l S).bind fun _ S1 => .ok (.nx l) S1 := nr rfl
theorem ap_ret : mRet f l S = (f l S).bind fun d S1 => .ok (.rt d) S1 := nr rfl
theorem ap_retN : mRetN l S = .ok (.rt .non) S := nr rfl
theorem ap_pass : mPass l S = .ok (.nx l) S := nr rfl
theorem ap_brk : mBrk l S = .ok (.bk l) S := nr rfl
theorem ap_cnt : mCnt l S = .ok (.ct l) S := nr rfl
theorem ap_seq : mSeq b b2 l S = (b l S).bind fun r S1 => match r with
  | .nx l1 => b2 l1 S1
  | r => .ok r S1 := nr rfl
theorem ap_ifS : mIfS c b b2 l S = (c l S).bind fun t S1 => if t = true then b l S1 else b2 l S1 := nr rfl
theorem ap_fn : mFn md fl l S = (fl l S).bind fun ds S1 => (md ds S1).at l := nr rfl
theorem ap_gN : gN i d l S = .ok (l.set i (some d)) S := nr rfl
theorem ap_gsN : gsN [] l S = .ok l S := nr rfl
theorem ap_gsC : gsC gg gs (d :: ds) l S = (gg d l S).bind fun l1 S1 => gs ds l1 S1 := nr rfl
theorem ap_gT : gT n gs (.tup ds) l S = if ds.length = n then gs ds l S else .bad := nr rfl
theorem ap_asg : mAsg f gg l S = (f l S).bind fun d S1 => (gg d l S1).bind fun l1 S2 => .ok (.nx l1) S2 := nr rfl
theorem ap_gSb : gSb f g d l S = (f l S).bind fun x S1 => (g l S1).bind fun y S2 => (oSet x y d S2).bind fun _ S3 => .ok l S3 := nr rfl
theorem ap_aug : mAug i op2 f l S = match l[i]? with
  | some (some x) => (f l S).bind fun y S1 => (op2 x y S1).bind fun d S2 => .ok (.nx (l.set i (some d))) S2
  | _ => .bad := nr rfl
theorem ap_it : mIt f l S = (f l S).bind oIt := nr rfl
theorem ap_rng1 : mRng1 fl l S = (fl l S).bind oRng1 := nr rfl
theorem ap_rng2 : mRng2 fl l S = (fl l S).bind oRng2 := nr rfl
theorem ap_enum : mEnum fl l S = (fl l S).bind oEnum := nr rfl
theorem ap_zip : mZip fl l S = (fl l S).bind oZip := nr rfl
theorem ap_for : mFor it gg b l S = (it l S).bind fun j S1 => fLoop j gg b 0 l S1 := nr rfl
theorem ap_yes : mYes l S = .ok true S := nr rfl
end
/-! ### a law's draws, one after the other -/
theorem set_same {S : Hs} {i : Nat} {o : O} (h : S[i]? = some o) : S.set i o = S := by
  obtain ⟨hlt, rfl⟩ := List.getElem?_eq_some_iff.mp h
  exact List.set_getElem_self hlt
def DrwA (S : Hs) (i j : Nat) (row : List Int) (sd : Int) : Prop := ∃ a, Drw S i j row a sd
/-- draws were taken, and new things made -/
def Upd (i j : Nat) (sd : Int) (S S' : Hs) : Prop := ∃ a g, 0 ≤ a ∧ S' = S.set i (drawsO j a sd) ++ g
section
variable {i j : Nat} {row : List Int} {sd : Int} {S S1 S2 g : Hs}
theorem Upd.refl (h : DrwA S i j row sd) : Upd i j sd S S := by
  obtain ⟨a, h⟩ := h
  exact ⟨a, [], h.nn, by rw [set_same h.d]; simp⟩
theorem Upd.trans (h : DrwA S i j row sd) (u : Upd i j sd S S1) (v : Upd i j sd S1 S2) : Upd i j sd S S2 := by
  obtain ⟨_, h⟩ := h
  obtain ⟨a, g, ha, rfl⟩ := u
  obtain ⟨b, g', hb, rfl⟩ := v
  have hi : i < S.length := Real.lt h.d
  refine ⟨b, g ++ g', hb, ?_⟩
  rw [List.set_append_left _ _ (by simpa using hi), List.set_set, List.append_assoc]
theorem Upd.app (u : Upd i j sd S S1) : Upd i j sd S (S1 ++ g) := by
  obtain ⟨a, g', ha, rfl⟩ := u
  exact ⟨a, g' ++ g, ha, by rw [List.append_assoc]⟩
theorem Upd.new (h : DrwA S i j row sd) : Upd i j sd S (S ++ g) := (Upd.refl h).app
theorem Upd.get (u : Upd i j sd S S1) {k : Nat} {o : O} (h : S[k]? = some o) (hk : k ≠ i) : S1[k]? = some o := by
  obtain ⟨a, g', ha, rfl⟩ := u
  have hl : k < S.length := Real.lt h
  rw [List.getElem?_append_left (by simpa using hl), List.getElem?_set_ne (Ne.symm hk), h]
theorem Upd.drw (h : DrwA S i j row sd) (u : Upd i j sd S S1) : DrwA S1 i j row sd := by
  obtain ⟨_, h⟩ := h
  have hr := u.get h.r (Ne.symm h.ne)
  obtain ⟨a, g', ha, rfl⟩ := u
  have hi : i < S.length := Real.lt h.d
  exact ⟨a, by rw [List.getElem?_append_left (by simpa using hi)]; exact get_put h.d, hr, h.ne, ha⟩
theorem Upd.le (u : Upd i j sd S S1) : S.length ≤ S1.length := by
  obtain ⟨a, g', ha, rfl⟩ := u
  simp
theorem pick_ok (h : DrwA S i j row sd) {many : Int} (hm : 0 < many) : ∃ v S', S_pick [.ref i, .int many] S = .ok (.int v) S' ∧ Upd i j sd S S' ∧ 0 ≤ v ∧ v < many := by
  obtain ⟨a, h⟩ := h
  refine ⟨_, _, S_pick_eq h hm, ⟨a + 1, [], by have := h.nn; omega, by simp⟩, ?_, ?_⟩
  · exact Int.emod_nonneg _ (by omega)
  · exact Int.emod_lt_of_pos _ hm
/-- pick(draws, many) -/
theorem pick_at (h : DrwA S i j row sd) {many : Int} (hm : 0 < many) {l : Ls} {k : Nat} (hk : l[k]? = some (some (.ref i))) :
    ∃ v S', mFn S_pick (lCons (mVar k) (lCons (mC (.int many)) lNil)) l S = .ok (.int v) S' ∧ Upd i j sd S S' ∧ 0 ≤ v ∧ v < many := by
  obtain ⟨v, S', e, u, h1, h2⟩ := pick_ok h hm
  refine ⟨v, S', ?_, u, h1, h2⟩
  simp only [mFn, lCons, mVar, hk, R.bind_ok, mC, lNil, e, R.at_ok]
/-- [..][pick(draws, many)] -/
theorem choose_gen (h : DrwA S i j row sd) {f : M} {ds : List D} (hf : ∀ l S, f l S = .ok (.ref S.length) (S ++ [.lst ds])) {many : Int} (hn : (ds.length : Int) = many) (hm : 0 < many) {l : Ls} {k : Nat} (hk : l[k]? = some (some (.ref i))) :
    ∃ d S', mBin oIx f (mFn S_pick (lCons (mVar k) (lCons (mC (.int many)) lNil))) l S = .ok d S' ∧ Upd i j sd S S' ∧ d ∈ ds := by
  have u0 : Upd i j sd S (S ++ [.lst ds]) := Upd.new h
  obtain ⟨v, S', e, u, h1, h2⟩ := pick_at (u0.drw h) hm hk
  have hi : i < S.length := by obtain ⟨_, h⟩ := h; exact Real.lt h.d
  have hg : S'[S.length]? = some (.lst ds) := u.get get_end (by omega)
  have hv : v.toNat < ds.length := by omega
  have ha : L2.atI ds v = some ds[v.toNat] := by rw [atI_nat h1 (by omega), List.getElem?_eq_getElem hv]
  refine ⟨ds[v.toNat], S', ?_, u0.trans h u, List.getElem_mem hv⟩
  simp only [mBin, hf, R.bind_ok, e, oIx, hg, ha]
theorem choose_at (h : DrwA S i j row sd) {f : ML} {ds : List D} (hf : ∀ l S, f l S = .ok ds S) {many : Int} (hn : (ds.length : Int) = many) (hm : 0 < many) (hz : ds.length ≤ sizeLine) {l : Ls} {k : Nat} (hk : l[k]? = some (some (.ref i))) :
    ∃ d S', mBin oIx (mLst f) (mFn S_pick (lCons (mVar k) (lCons (mC (.int many)) lNil))) l S = .ok d S' ∧ Upd i j sd S S' ∧ d ∈ ds :=
  choose_gen h (fun l S => by simp only [mLst, hf, R.bind_ok, if_pos hz]) hn hm hk
/-- xs[pick(draws, many)], xs a list that stands in a slot -/
theorem choose_var (h : DrwA S i j row sd) {q : Nat} {ds : List D} (hq : S[q]? = some (.lst ds)) (hqi : q ≠ i) {many : Int} (hn : (ds.length : Int) = many) (hm : 0 < many) {l : Ls} {k m : Nat} (hk : l[k]? = some (some (.ref i))) (hm' : l[m]? = some (some (.ref q))) :
    ∃ d S', mBin oIx (mVar m) (mFn S_pick (lCons (mVar k) (lCons (mC (.int many)) lNil))) l S = .ok d S' ∧ Upd i j sd S S' ∧ d ∈ ds := by
  obtain ⟨v, S', e, u, h1, h2⟩ := pick_at h hm hk
  have hg : S'[q]? = some (.lst ds) := u.get hq hqi
  have hv : v.toNat < ds.length := by omega
  have ha : L2.atI ds v = some ds[v.toNat] := by rw [atI_nat h1 (by omega), List.getElem?_eq_getElem hv]
  refine ⟨ds[v.toNat], S', ?_, u, List.getElem_mem hv⟩
  simp only [mBin, mVar, hm', R.bind_ok, e, oIx, hg, ha]
/-- the same, value by value: a list is made, a number drawn, the item read -/
theorem choose_val (h : DrwA S i j row sd) (ds : List D) {many : Int} (hn : (ds.length : Int) = many) (hm : 0 < many) :
    ∃ d v S', S_pick [.ref i, .int many] (S ++ [.lst ds]) = .ok (.int v) S' ∧ oIx (.ref S.length) (.int v) S' = .ok d S' ∧ Upd i j sd S S' ∧ d ∈ ds := by
  have u0 : Upd i j sd S (S ++ [.lst ds]) := Upd.new h
  obtain ⟨v, S', e, u, h1, h2⟩ := pick_ok (u0.drw h) hm
  have hi : i < S.length := by obtain ⟨_, h⟩ := h; exact Real.lt h.d
  have hg : S'[S.length]? = some (.lst ds) := u.get get_end (by omega)
  have hv : v.toNat < ds.length := by omega
  have ha : L2.atI ds v = some ds[v.toNat] := by rw [atI_nat h1 (by omega), List.getElem?_eq_getElem hv]
  exact ⟨ds[v.toNat], v, S', e, by simp only [oIx, hg, ha], u0.trans h u, List.getElem_mem hv⟩
theorem line_le {n : Nat} (h : n ≤ 1000000) : n ≤ sizeLine := Nat.le_trans h (by decide)
end
theorem oAdd_int {a b : Int} {S : Hs} : oAdd (.int a) (.int b) S = .ok (.int (a + b)) S := nr rfl
theorem oSub_int {a b : Int} {S : Hs} : oSub (.int a) (.int b) S = .ok (.int (a - b)) S := nr rfl
theorem oLt_int {a b : Int} {S : Hs} : oLt (.int a) (.int b) S = .ok (.bl (decide (a < b))) S := nr rfl
theorem oTru_bl {b : Bool} {S : Hs} : oTru (.bl b) S = .ok b S := nr rfl
theorem oEq_int {a b : Int} {S : Hs} : oEq (.int a) (.int b) S = .ok (.bl (decide (a = b))) S := nr rfl
theorem oNe_int {a b : Int} {S : Hs} : oNe (.int a) (.int b) S = .ok (.bl (!decide (a = b))) S := nr rfl
theorem oEq_str {a b : Str} {S : Hs} : oEq (.str a) (.str b) S = .ok (.bl (decide (a = b))) S := nr rfl
theorem oNe_str {a b : Str} {S : Hs} : oNe (.str a) (.str b) S = .ok (.bl (!decide (a = b))) S := nr rfl
theorem of_strs {xs : List Str} {d : D} (h : d ∈ xs.map D.str) : ∃ x ∈ xs, d = .str x := by
  rw [List.mem_map] at h
  obtain ⟨x, h1, h2⟩ := h
  exact ⟨x, h1, h2.symm⟩
theorem isi_lst {S : Hs} {i : Nat} {xs : List D} (h : S[i]? = some (.lst xs)) : oIsi "list" (.ref i) S = .ok (.bl true) S := by
  have hk : L2.kitB "list" "list" = some true := by simp [L2.kitB]
  simp only [oIsi, tyName, h, Option.bind_some, hk]
theorem ix_row {S : Hs} {i j : Nat} {row : List Int} {sd : Int} (h : DrwA S i j row sd) : oIx (.ref i) (.str "row") S = .ok (.ref j) S ∧ bLen [.ref j] S = .ok (.int (row.length : Int)) S := by
  obtain ⟨a, h⟩ := h
  have hd := h.d
  simp only [drawsO] at hd
  refine ⟨?_, ?_⟩
  · simp [oIx, hd, dGet, D.key]
  · simp [bLen, lenD, h.r]
end Ly
set_option Elab.async false
set_option linter.all false
set_option maxRecDepth 100000
namespace Ly
open PySem PySem.Spec L2
open PyProof.Rows hiding St
/-! ### the tokens of a text, as the program reads them -/
def wsS : Str := "_0123456789abcdefghijklmnopqrstuvwxyzABCDEFGHIJKLMNOPQRSTUVWXYZ"
def digS : Str := "0123456789"
def letS : Str := "abcdefghijklmnopqrstuvwxyzABCDEFGHIJKLMNOPQRSTUVWXYZ"
def kwL : List Str := ["public", "secret", "array", "fn", "main", "return", "if", "else", "for", "to", "max", "out", "div", "mod"]
def longL : List Str := ["<=", "<<", ">>", "=="]
def shortL : List Str := ["{", "}", "(", ")", "[", "]", ",", ";", "=", "+", "-", "*", "&", "|", "^", "!", "?", ":", "<"]
def isWs (c : Nat) : Bool := decide (c ∈ wsS.cps.toList)
def isDig (c : Nat) : Bool := decide (c ∈ digS.cps.toList)
def isLet (c : Nat) : Bool := decide (c ∈ letS.cps.toList)
def wtS (xs : List Str) : D := .wt (xs.map .str)
theorem in_wtS {x : Str} {xs : List Str} {S : Hs} : oIn (.str x) (wtS xs) S = .ok (.bl (xs.any fun z => z == x)) S := by
  have h1 : (xs.map D.str).all flatD = true := by simp [flatD]
  have h2 : (xs.map D.str).any (fun z => eqF z (.str x)) = xs.any fun z => z == x := by
    rw [List.any_map]; rfl
  have h : cIn (.str x) (wtS xs) S = some (xs.any fun z => z == x) := by
    simp [cIn, wtS, flatD, h2]
  simp [oIn, h]
section bodies
def b_comment : MS := (mSeq (mSet 2 (mBM "str" oFind (mVar 0) (lCons (mC (.str "\n")) (lCons (mVar 1) lNil))))
    (mRet (mIf (mCmp oLt (mVar 2) (mC (.int 0))) (mCall bLen (lCons (mVar 0) lNil)) (mVar 2))))
def b_wordC : MB := (mAndB (mCmp oLt (mVar 2) (mCall bLen (lCons (mVar 0) lNil))) (mCmp oIn (mBin oIx (mVar 0) (mVar 2)) (mC (.str wsS))))
def b_wordB : MS := (mAug 2 oIAdd (mC (.int 1)))
noncomputable def b_word : MS := (mSeq (mSet 2 (mVar 1))
    (mSeq (mWhile b_wordC b_wordB)
    (mRet (mSl (mVar 0) (oSome (mVar 1)) (oSome (mVar 2))))))
def b_numB : MS := (mIfS (mCmp oNotIn (mVar 1) (mC (.str digS))) (mRet (mC (.bl false))) mPass)
noncomputable def b_num : MS := (mSeq (mIfS (mOrB (mCmp oGt (mCall bLen (lCons (mVar 0) lNil)) (mC (.int 10))) (mAndB (mCmp oGt (mCall bLen (lCons (mVar 0) lNil)) (mC (.int 1))) (mCmp oEq (mBin oIx (mVar 0) (mC (.int 0))) (mC (.str "0"))))) (mRet (mC (.bl false))) mPass)
    (mSeq (mFor (mIt (mVar 0)) (gN 1) b_numB)
    (mRet (mBin oLe (mCall bInt (lCons (mVar 0) lNil)) (mC (.int 4294967295))))))
noncomputable def b_token (r1 r2 : MS) : MS := (mSeq (mSet 4 (mBin oIx (mVar 0) (mVar 1)))
    (mSeq (mIfS (mCmp oIn (mVar 4) (mC (.str letS))) (mSeq (mSet 5 (mFn (mDef 2 1 b_word) (lCons (mVar 0) (lCons (mVar 1) lNil))))
    (mSeq (mSet 6 (mIf (mCmp oIn (mVar 5) (mC (wtS kwL))) (mC (.str "keyword")) (mC (.str "name"))))
    (mRet (mTup (lCons (mVar 6) (lCons (mVar 5) (lCons (mVar 2) (lCons (mVar 3) lNil)))))))) mPass)
    (mSeq (mIfS (mCmp oIn (mVar 4) (mC (.str digS))) (mSeq (mSet 5 (mFn (mDef 2 1 b_word) (lCons (mVar 0) (lCons (mVar 1) lNil))))
    (mSeq (mIfS (mNotB (mTru (mFn (mDef 1 1 b_num) (lCons (mVar 5) lNil)))) r1 mPass)
    (mRet (mTup (lCons (mC (.str "number")) (lCons (mVar 5) (lCons (mVar 2) (lCons (mVar 3) lNil)))))))) mPass)
    (mSeq (mSet 7 (mSl (mVar 0) (oSome (mVar 1)) (oSome (mBin oAdd (mVar 1) (mC (.int 2))))))
    (mSeq (mIfS (mCmp oIn (mVar 7) (mC (wtS longL))) (mRet (mTup (lCons (mC (.str "sign")) (lCons (mVar 7) (lCons (mVar 2) (lCons (mVar 3) lNil)))))) mPass)
    (mSeq (mIfS (mCmp oIn (mVar 4) (mC (wtS shortL))) (mRet (mTup (lCons (mC (.str "sign")) (lCons (mVar 4) (lCons (mVar 2) (lCons (mVar 3) lNil)))))) mPass)
    r2))))))
def b_toksC : MB := (mCmp oLt (mVar 2) (mCall bLen (lCons (mVar 0) lNil)))
noncomputable def b_toksB (r1 r2 : MS) : MS := (mSeq (mSet 5 (mBin oIx (mVar 0) (mVar 2)))
    (mIfS (mCmp oEq (mVar 5) (mC (.str "\n"))) (mSeq (mAug 2 oIAdd (mC (.int 1)))
    (mSeq (mAug 3 oIAdd (mC (.int 1)))
    (mSet 4 (mVar 2)))) (mIfS (mCmp oEq (mVar 5) (mC (.str " "))) (mAug 2 oIAdd (mC (.int 1))) (mIfS (mCmp oEq (mVar 5) (mC (.str "#"))) (mSet 2 (mFn (mDef 2 1 b_comment) (lCons (mVar 0) (lCons (mVar 2) lNil)))) (mSeq (mSet 6 (mFn (mDef 4 4 (b_token r1 r2)) (lCons (mVar 0) (lCons (mVar 2) (lCons (mVar 3) (lCons (mBin oAdd (mBin oSub (mVar 2) (mVar 4)) (mC (.int 1))) lNil))))))
    (mSeq (mExpr (mBM "list" oAppend (mVar 1) (lCons (mVar 6) lNil)))
    (mAug 2 oIAdd (mCall bLen (lCons (mBin oIx (mVar 6) (mC (.int 1))) lNil)))))))))
noncomputable def b_toks (r1 r2 : MS) : MS := (mSeq (mSet 1 (mLst lNil))
    (mSeq (mSet 2 (mC (.int 0)))
    (mSeq (mSet 3 (mC (.int 1)))
    (mSeq (mSet 4 (mC (.int 0)))
    (mSeq (mWhile b_toksC (b_toksB r1 r2))
    (mSeq (mExpr (mBM "list" oAppend (mVar 1) (lCons (mTup (lCons (mC (.str "end")) (lCons (mC (.str "")) (lCons (mVar 3) (lCons (mBin oAdd (mBin oSub (mVar 2) (mVar 4)) (mC (.int 1))) lNil))))) lNil)))
    (mRet (mVar 1))))))))
end bodies
section
/-! #### words -/
theorem nlS : (("\n" : Str)) = ⟨#[10]⟩ := by decide +kernel
theorem spS : (("\n" : Str)) = tx [10] ∧ ((" " : Str)) = tx [32] ∧ (("#" : Str)) = tx [35] ∧ (("0" : Str)) = tx [48] := by decide +kernel
theorem len_tx {cs : List Nat} {S : Hs} (hl : cs.length ≤ sizeLine) : bLen [.str (tx cs)] S = .ok (.int (cs.length : Int)) S := by
  simp [mSeq, mSet, mRet, mBin, mCall, lCons, lNil, mVar, mC, mIfS, mCmp, mAndB, mOrB, mNotB, mTru, mIf, mAnd, mOr, mPass, mExpr, mBM, mAug, mAsg, gN, gT, gsC, gsN, mFn, mTup, mSl, oSome, mUn, mFor, mIt, mRng1, bLen, lenD, oLt, oLe, oGt, oGe, oAppend, oFind, hasTy, mDef, endOf, oIAdd, oSub, oIt, bLen, lenD, hl]
theorem in_list {c : Nat} {z : Str} {S : Hs} : oIn (.str (tx [c])) (.str z) S = .ok (.bl (decide (c ∈ z.cps.toList))) S := rfl
theorem word_loop {cs : List Nat} (hl : cs.length ≤ sizeLine) {S : Hs} {x1 : Option D} : ∀ (w pre rest : List Nat), cs = pre ++ w ++ rest → w.all isWs = true → (∀ c, rest.head? = some c → isWs c = false) →
    mWhile b_wordC b_wordB [some (.str (tx cs)), x1, some (.int (pre.length : Int))] S = .ok (.nx [some (.str (tx cs)), x1, some (.int ((pre.length + w.length : Nat) : Int))]) S
  | [], pre, rest, hc, _, hr => by
    have hC : b_wordC [some (.str (tx cs)), x1, some (.int (pre.length : Int))] S = .ok false S := by
      cases rest with
      | nil =>
        have : ¬ (pre.length : Int) < (cs.length : Int) := by rw [hc]; simp [mSeq, mSet, mRet, mBin, mCall, lCons, lNil, mVar, mC, mIfS, mCmp, mAndB, mOrB, mNotB, mTru, mIf, mAnd, mOr, mPass, mExpr, mBM, mAug, mAsg, gN, gT, gsC, gsN, mFn, mTup, mSl, oSome, mUn, mFor, mIt, mRng1, bLen, lenD, oLt, oLe, oGt, oGe, oAppend, oFind, hasTy, mDef, endOf, oIAdd, oSub, oIt]
        simp [mSeq, mSet, mRet, mBin, mCall, lCons, lNil, mVar, mC, mIfS, mCmp, mAndB, mOrB, mNotB, mTru, mIf, mAnd, mOr, mPass, mExpr, mBM, mAug, mAsg, gN, gT, gsC, gsN, mFn, mTup, mSl, oSome, mUn, mFor, mIt, mRng1, lenD, oLt, oLe, oGt, oGe, oAppend, oFind, hasTy, mDef, endOf, oIAdd, oSub, oIt, b_wordC, this, len_tx hl,]
      | cons c rest =>
        have hg : cs[pre.length]? = some c := by rw [hc]; simp [mSeq, mSet, mRet, mBin, mCall, lCons, lNil, mVar, mC, mIfS, mCmp, mAndB, mOrB, mNotB, mTru, mIf, mAnd, mOr, mPass, mExpr, mBM, mAug, mAsg, gN, gT, gsC, gsN, mFn, mTup, mSl, oSome, mUn, mFor, mIt, mRng1, bLen, lenD, oLt, oLe, oGt, oGe, oAppend, oFind, hasTy, mDef, endOf, oIAdd, oSub, oIt]
        have : (pre.length : Int) < (cs.length : Int) := by rw [hc]; simp [mSeq, mSet, mRet, mBin, mCall, lCons, lNil, mVar, mC, mIfS, mCmp, mAndB, mOrB, mNotB, mTru, mIf, mAnd, mOr, mPass, mExpr, mBM, mAug, mAsg, gN, gT, gsC, gsN, mFn, mTup, mSl, oSome, mUn, mFor, mIt, mRng1, bLen, lenD, oLt, oLe, oGt, oGe, oAppend, oFind, hasTy, mDef, endOf, oIAdd, oSub, oIt]; omega
        have hw : decide (c ∈ wsS.cps.toList) = false := hr c rfl
        simp [mSeq, mSet, mRet, mBin, mCall, lCons, lNil, mVar, mC, mIfS, mCmp, mAndB, mOrB, mNotB, mTru, mIf, mAnd, mOr, mPass, mExpr, mBM, mAug, mAsg, gN, gT, gsC, gsN, mFn, mTup, mSl, oSome, mUn, mFor, mIt, mRng1, lenD, oLt, oLe, oGt, oGe, oAppend, oFind, hasTy, mDef, endOf, oIAdd, oSub, oIt, b_wordC, this, len_tx hl, ix_tx hg hl, in_list, hw, -Array.mem_toList_iff, -decide_eq_false_iff_not]
    rw [mWhile_eq, hC]
    simp [mSeq, mSet, mRet, mBin, mCall, lCons, lNil, mVar, mC, mIfS, mCmp, mAndB, mOrB, mNotB, mTru, mIf, mAnd, mOr, mPass, mExpr, mBM, mAug, mAsg, gN, gT, gsC, gsN, mFn, mTup, mSl, oSome, mUn, mFor, mIt, mRng1, bLen, lenD, oLt, oLe, oGt, oGe, oAppend, oFind, hasTy, mDef, endOf, oIAdd, oSub, oIt]
  | c :: w, pre, rest, hc, hw, hr => by
    have hg : cs[pre.length]? = some c := by rw [hc]; simp [mSeq, mSet, mRet, mBin, mCall, lCons, lNil, mVar, mC, mIfS, mCmp, mAndB, mOrB, mNotB, mTru, mIf, mAnd, mOr, mPass, mExpr, mBM, mAug, mAsg, gN, gT, gsC, gsN, mFn, mTup, mSl, oSome, mUn, mFor, mIt, mRng1, bLen, lenD, oLt, oLe, oGt, oGe, oAppend, oFind, hasTy, mDef, endOf, oIAdd, oSub, oIt]
    have hlt : (pre.length : Int) < (cs.length : Int) := by rw [hc]; simp [mSeq, mSet, mRet, mBin, mCall, lCons, lNil, mVar, mC, mIfS, mCmp, mAndB, mOrB, mNotB, mTru, mIf, mAnd, mOr, mPass, mExpr, mBM, mAug, mAsg, gN, gT, gsC, gsN, mFn, mTup, mSl, oSome, mUn, mFor, mIt, mRng1, bLen, lenD, oLt, oLe, oGt, oGe, oAppend, oFind, hasTy, mDef, endOf, oIAdd, oSub, oIt]; omega
    simp only [List.all_cons, Bool.and_eq_true] at hw
    have hin : decide (c ∈ wsS.cps.toList) = true := hw.1
    have hC : b_wordC [some (.str (tx cs)), x1, some (.int (pre.length : Int))] S = .ok true S := by
      simp [mSeq, mSet, mRet, mBin, mCall, lCons, lNil, mVar, mC, mIfS, mCmp, mAndB, mOrB, mNotB, mTru, mIf, mAnd, mOr, mPass, mExpr, mBM, mAug, mAsg, gN, gT, gsC, gsN, mFn, mTup, mSl, oSome, mUn, mFor, mIt, mRng1, lenD, oLt, oLe, oGt, oGe, oAppend, oFind, hasTy, mDef, endOf, oIAdd, oSub, oIt, b_wordC, hlt, len_tx hl, ix_tx hg hl, in_list, hin, -Array.mem_toList_iff, -decide_eq_true_eq]
    have hB : b_wordB [some (.str (tx cs)), x1, some (.int (pre.length : Int))] S = .ok (.nx [some (.str (tx cs)), x1, some (.int ((pre ++ [c]).length : Int))]) S := by
      simp [mSeq, mSet, mRet, mBin, mCall, lCons, lNil, mVar, mC, mIfS, mCmp, mAndB, mOrB, mNotB, mTru, mIf, mAnd, mOr, mPass, mExpr, mBM, mAug, mAsg, gN, gT, gsC, gsN, mFn, mTup, mSl, oSome, mUn, mFor, mIt, mRng1, bLen, lenD, oLt, oLe, oGt, oGe, oAppend, oFind, hasTy, mDef, endOf, oIAdd, oSub, oIt, b_wordB]
    have ih := word_loop hl (S := S) (x1 := x1) w (pre ++ [c]) rest (by rw [hc]; simp [mSeq, mSet, mRet, mBin, mCall, lCons, lNil, mVar, mC, mIfS, mCmp, mAndB, mOrB, mNotB, mTru, mIf, mAnd, mOr, mPass, mExpr, mBM, mAug, mAsg, gN, gT, gsC, gsN, mFn, mTup, mSl, oSome, mUn, mFor, mIt, mRng1, bLen, lenD, oLt, oLe, oGt, oGe, oAppend, oFind, hasTy, mDef, endOf, oIAdd, oSub, oIt]) hw.2 hr
    rw [mWhile_eq, hC]
    simp only [R.bind_ok, if_true, hB, ih]
    simp [mSeq, mSet, mRet, mBin, mCall, lCons, lNil, mVar, mC, mIfS, mCmp, mAndB, mOrB, mNotB, mTru, mIf, mAnd, mOr, mPass, mExpr, mBM, mAug, mAsg, gN, gT, gsC, gsN, mFn, mTup, mSl, oSome, mUn, mFor, mIt, mRng1, bLen, lenD, oLt, oLe, oGt, oGe, oAppend, oFind, hasTy, mDef, endOf, oIAdd, oSub, oIt]
    omega
theorem word_ok {pre w rest : List Nat} {S : Hs} (hl : (pre ++ w ++ rest).length ≤ sizeLine) (hw : w.all isWs = true) (hr : ∀ c, rest.head? = some c → isWs c = false) :
    mDef 2 1 b_word [.str (tx (pre ++ w ++ rest)), .int (pre.length : Int)] S = .ok (.str (tx w)) S := by
  have h := word_loop hl (S := S) (x1 := some (.int (pre.length : Int))) w pre rest rfl hw hr
  have hs : oSl (.str (tx (pre ++ w ++ rest))) (some (pre.length : Int)) (some ((pre.length + w.length : Nat) : Int)) S = .ok (.str (tx w)) S := by
    rw [sl_tx (by omega) hl]
    simp [mSeq, mSet, mRet, mBin, mCall, lCons, lNil, mVar, mC, mIfS, mCmp, mAndB, mOrB, mNotB, mTru, mIf, mAnd, mOr, mPass, mExpr, mBM, mAug, mAsg, gN, gT, gsC, gsN, mFn, mTup, mSl, oSome, mUn, mFor, mIt, mRng1, bLen, lenD, oLt, oLe, oGt, oGe, oAppend, oFind, hasTy, mDef, endOf, oIAdd, oSub, oIt]
  simp [mSeq, mSet, mRet, mBin, mCall, lCons, lNil, mVar, mC, mIfS, mCmp, mAndB, mOrB, mNotB, mTru, mIf, mAnd, mOr, mPass, mExpr, mBM, mAug, mAsg, gN, gT, gsC, gsN, mFn, mTup, mSl, oSome, mUn, mFor, mIt, mRng1, bLen, lenD, oLt, oLe, oGt, oGe, oAppend, oFind, hasTy, mDef, endOf, oIAdd, oSub, oIt, -List.append_assoc, b_word, h]
  rw [← Int.natCast_add, hs]
  simp [mSeq, mSet, mRet, mBin, mCall, lCons, lNil, mVar, mC, mIfS, mCmp, mAndB, mOrB, mNotB, mTru, mIf, mAnd, mOr, mPass, mExpr, mBM, mAug, mAsg, gN, gT, gsC, gsN, mFn, mTup, mSl, oSome, mUn, mFor, mIt, mRng1, bLen, lenD, oLt, oLe, oGt, oGe, oAppend, oFind, hasTy, mDef, endOf, oIAdd, oSub, oIt]
/-! #### comments -/
theorem firstC_app (c : Nat) : ∀ (xs ys : List Nat) (a : Nat), c ∉ xs → firstC c (xs ++ ys) a = firstC c ys (a + xs.length)
  | [], ys, a, _ => by simp [mSeq, mSet, mRet, mBin, mCall, lCons, lNil, mVar, mC, mIfS, mCmp, mAndB, mOrB, mNotB, mTru, mIf, mAnd, mOr, mPass, mExpr, mBM, mAug, mAsg, gN, gT, gsC, gsN, mFn, mTup, mSl, oSome, mUn, mFor, mIt, mRng1, bLen, lenD, oLt, oLe, oGt, oGe, oAppend, oFind, hasTy, mDef, endOf, oIAdd, oSub, oIt]
  | x :: r, ys, a, h => by
    have hx : x ≠ c := fun e => h (by simp [mSeq, mSet, mRet, mBin, mCall, lCons, lNil, mVar, mC, mIfS, mCmp, mAndB, mOrB, mNotB, mTru, mIf, mAnd, mOr, mPass, mExpr, mBM, mAug, mAsg, gN, gT, gsC, gsN, mFn, mTup, mSl, oSome, mUn, mFor, mIt, mRng1, bLen, lenD, oLt, oLe, oGt, oGe, oAppend, oFind, hasTy, mDef, endOf, oIAdd, oSub, oIt, e])
    simp only [List.cons_append, firstC, if_neg hx, List.length_cons]
    rw [firstC_app c r ys (a + 1) (fun m => h (List.mem_cons_of_mem _ m)), Nat.add_assoc, Nat.add_comm 1]
theorem firstC_none (c : Nat) : ∀ (xs : List Nat) (a : Nat), c ∉ xs → firstC c xs a = none
  | [], _, _ => rfl
  | x :: r, a, h => by
    have hx : x ≠ c := fun e => h (by simp [mSeq, mSet, mRet, mBin, mCall, lCons, lNil, mVar, mC, mIfS, mCmp, mAndB, mOrB, mNotB, mTru, mIf, mAnd, mOr, mPass, mExpr, mBM, mAug, mAsg, gN, gT, gsC, gsN, mFn, mTup, mSl, oSome, mUn, mFor, mIt, mRng1, bLen, lenD, oLt, oLe, oGt, oGe, oAppend, oFind, hasTy, mDef, endOf, oIAdd, oSub, oIt, e])
    simp only [firstC, if_neg hx]
    exact firstC_none c r (a + 1) (fun m => h (List.mem_cons_of_mem _ m))
theorem comment_ok {pre body rest : List Nat} {S : Hs} (hl : (pre ++ body ++ rest).length ≤ sizeLine) (hb : 10 ∉ body) (hr : rest = [] ∨ rest.head? = some 10) :
    mDef 2 1 b_comment [.str (tx (pre ++ body ++ rest)), .int (pre.length : Int)] S = .ok (.int ((pre.length + body.length : Nat) : Int)) S := by
  have hd : (pre ++ body ++ rest).drop pre.length = body ++ rest := by simp [mSeq, mSet, mRet, mBin, mCall, lCons, lNil, mVar, mC, mIfS, mCmp, mAndB, mOrB, mNotB, mTru, mIf, mAnd, mOr, mPass, mExpr, mBM, mAug, mAsg, gN, gT, gsC, gsN, mFn, mTup, mSl, oSome, mUn, mFor, mIt, mRng1, bLen, lenD, oLt, oLe, oGt, oGe, oAppend, oFind, hasTy, mDef, endOf, oIAdd, oSub, oIt]
  have hf := find3_tx (pre ++ body ++ rest) 10 pre.length (by simp [mSeq, mSet, mRet, mBin, mCall, lCons, lNil, mVar, mC, mIfS, mCmp, mAndB, mOrB, mNotB, mTru, mIf, mAnd, mOr, mPass, mExpr, mBM, mAug, mAsg, gN, gT, gsC, gsN, mFn, mTup, mSl, oSome, mUn, mFor, mIt, mRng1, bLen, lenD, oLt, oLe, oGt, oGe, oAppend, oFind, hasTy, mDef, endOf, oIAdd, oSub, oIt])
  rw [hd, firstC_app 10 body rest _ hb] at hf
  rcases hr with rfl | hr
  · have h1 : Txt.find3 (tx (pre ++ body ++ [])) "\n" (pre.length : Int) = -1 := by rw [nlS, hf]; rfl
    simp only [List.append_nil] at h1 hl ⊢
    simp [mSeq, mSet, mRet, mBin, mCall, lCons, lNil, mVar, mC, mIfS, mCmp, mAndB, mOrB, mNotB, mTru, mIf, mAnd, mOr, mPass, mExpr, mBM, mAug, mAsg, gN, gT, gsC, gsN, mFn, mTup, mSl, oSome, mUn, mFor, mIt, mRng1, lenD, oLt, oLe, oGt, oGe, oAppend, oFind, hasTy, mDef, endOf, oIAdd, oSub, oIt, b_comment, h1, len_tx hl,]
  · cases rest with
    | nil => cases hr
    | cons c rest =>
      simp only [List.head?_cons, Option.some.injEq] at hr
      subst hr
      have h1 : Txt.find3 (tx (pre ++ body ++ 10 :: rest)) "\n" (pre.length : Int) = ((pre.length + body.length : Nat) : Int) := by rw [nlS, hf]; simp [mSeq, mSet, mRet, mBin, mCall, lCons, lNil, mVar, mC, mIfS, mCmp, mAndB, mOrB, mNotB, mTru, mIf, mAnd, mOr, mPass, mExpr, mBM, mAug, mAsg, gN, gT, gsC, gsN, mFn, mTup, mSl, oSome, mUn, mFor, mIt, mRng1, bLen, lenD, oLt, oLe, oGt, oGe, oAppend, oFind, hasTy, mDef, endOf, oIAdd, oSub, oIt, firstC]
      have h2 : ¬ (((pre.length + body.length : Nat) : Int) < 0) := by omega
      generalize tx (pre ++ body ++ 10 :: rest) = t at h1 ⊢
      generalize ((pre.length + body.length : Nat) : Int) = v at h1 h2 ⊢
      simp [mSeq, mSet, mRet, mBin, mCall, lCons, lNil, mVar, mC, mIfS, mCmp, mAndB, mOrB, mNotB, mTru, mIf, mAnd, mOr, mPass, mExpr, mBM, mAug, mAsg, gN, gT, gsC, gsN, mFn, mTup, mSl, oSome, mUn, mFor, mIt, mRng1, bLen, lenD, oLt, oLe, oGt, oGe, oAppend, oFind, hasTy, mDef, endOf, oIAdd, oSub, oIt, b_comment, h1, h2]
/-! #### numbers -/
def numOk (w : List Nat) : Bool := decide (w.length ≤ 10) && !(decide (1 < w.length) && w.head? == some 48) && w.all isDig && (match intText? (tx w) with | some n => decide (n ≤ 4294967295) | none => false)
theorem num_loop {w : List Nat} {S : Hs} : ∀ (m k : Nat) (x1 : Option D), k + m = w.length → (w.all isDig = true) → ∃ x1', fLoop (.str (tx w)) (gN 1) b_numB k [some (.str (tx w)), x1] S = .ok (.nx [some (.str (tx w)), x1']) S
  | 0, k, x1, h, _ => by
    refine ⟨x1, ?_⟩
    rw [fLoop_eq]
    have : (tx w).cps[k]? = none := by
      rw [← Array.getElem?_toList, tx_list, List.getElem?_eq_none (by omega)]
    simp [mSeq, mSet, mRet, mBin, mCall, lCons, lNil, mVar, mC, mIfS, mCmp, mAndB, mOrB, mNotB, mTru, mIf, mAnd, mOr, mPass, mExpr, mBM, mAug, mAsg, gN, gT, gsC, gsN, mFn, mTup, mSl, oSome, mUn, mFor, mIt, mRng1, bLen, lenD, oLt, oLe, oGt, oGe, oAppend, oFind, hasTy, mDef, endOf, oIAdd, oSub, oIt, itGo, this]
  | m + 1, k, x1, h, ha => by
    have hk : k < w.length := by omega
    obtain ⟨x1', ih⟩ := num_loop (S := S) m (k + 1) (some (.str (tx [w[k]]))) (by omega) ha
    refine ⟨x1', ?_⟩
    rw [fLoop_eq]
    have hg : (tx w).cps[k]? = some w[k] := by
      rw [← Array.getElem?_toList, tx_list, List.getElem?_eq_getElem hk]
    have hd : decide (w[k] ∈ digS.cps.toList) = true := List.all_eq_true.mp ha _ (List.getElem_mem hk)
    have e : oNotIn (.str (tx [w[k]])) (.str digS) S = .ok (.bl false) S := by
      have h1 : oNotIn (.str (tx [w[k]])) (.str digS) S = .ok (.bl (!decide (w[k] ∈ digS.cps.toList))) S := rfl
      rw [h1, hd]; rfl
    have hB : b_numB [some (.str (tx w)), some (.str (tx [w[k]]))] S = .ok (.nx [some (.str (tx w)), some (.str (tx [w[k]]))]) S := by
      simp [mSeq, mSet, mRet, mBin, mCall, lCons, lNil, mVar, mC, mIfS, mCmp, mAndB, mOrB, mNotB, mTru, mIf, mAnd, mOr, mPass, mExpr, mBM, mAug, mAsg, gN, gT, gsC, gsN, mFn, mTup, mSl, oSome, mUn, mFor, mIt, mRng1, bLen, lenD, oLt, oLe, oGt, oGe, oAppend, oFind, hasTy, mDef, endOf, oIAdd, oSub, oIt, b_numB, e]
    have hs : (⟨#[w[k]]⟩ : Str) = tx [w[k]] := rfl
    simp only [itGo, hg, Option.map_some, gN, R.bind_ok, List.set_cons_succ, List.set_cons_zero, hs, hB, ih]
theorem num_ok {w : List Nat} {S : Hs} (h : numOk w = true) : mDef 1 1 b_num [.str (tx w)] S = .ok (.bl true) S := by
  simp only [numOk, Bool.and_eq_true, decide_eq_true_eq, Bool.not_eq_true'] at h
  obtain ⟨⟨⟨h1, h2⟩, h3⟩, h4⟩ := h
  have hz : w.length ≤ sizeLine := Nat.le_trans h1 (by decide)
  obtain ⟨x1', hL⟩ := num_loop (w := w) (S := S) w.length 0 none (by omega) h3
  split at h4
  · rename_i n hn
    have hn0 : n ≤ 4294967295 := by simpa using h4
    have hi : bInt [.str (tx w)] S = .ok (.int n) S := by
      have : (tx w).length ≤ 640 := by rw [tx_len]; omega
      simp only [bInt, hn]
      rw [if_pos this]
    have hc : (mOrB (mCmp oGt (mCall bLen (lCons (mVar 0) lNil)) (mC (.int 10))) (mAndB (mCmp oGt (mCall bLen (lCons (mVar 0) lNil)) (mC (.int 1))) (mCmp oEq (mBin oIx (mVar 0) (mC (.int 0))) (mC (.str "0"))))) [some (.str (tx w)), none] S = .ok false S := by
      have g1 : ¬ (10 : Int) < (w.length : Int) := by omega
      by_cases g2 : (1 : Int) < (w.length : Int)
      · cases w with
        | nil => simp [mSeq, mSet, mRet, mBin, mCall, lCons, lNil, mVar, mC, mIfS, mCmp, mAndB, mOrB, mNotB, mTru, mIf, mAnd, mOr, mPass, mExpr, mBM, mAug, mAsg, gN, gT, gsC, gsN, mFn, mTup, mSl, oSome, mUn, mFor, mIt, mRng1, bLen, lenD, oLt, oLe, oGt, oGe, oAppend, oFind, hasTy, mDef, endOf, oIAdd, oSub, oIt] at g2
        | cons c w =>
          have h48 : c ≠ 48 := by
            rintro rfl
            have g3 : 1 < (48 :: w).length := by omega
            have g4 : (decide (1 < (48 :: w).length) && (48 :: w).head? == some 48) = true := by rw [decide_eq_true g3]; rfl
            rw [h2] at g4
            cases g4
          have hx : oIx (.str (tx (c :: w))) (.int 0) S = .ok (.str (tx [c])) S := ix_tx (i := 0) rfl hz
          have he : cEqD (.str (tx [c])) (.str "0") S = some false := by
            rw [spS.2.2.2]
            simp [mSeq, mSet, mRet, mBin, mCall, lCons, lNil, mVar, mC, mIfS, mCmp, mAndB, mOrB, mNotB, mTru, mIf, mAnd, mOr, mPass, mExpr, mBM, mAug, mAsg, gN, gT, gsC, gsN, mFn, mTup, mSl, oSome, mUn, mFor, mIt, mRng1, bLen, lenD, oLt, oLe, oGt, oGe, oAppend, oFind, hasTy, mDef, endOf, oIAdd, oSub, oIt, cEqD, cEqS, h48]
          have heq : oEq (.str (tx [c])) (.str "0") S = .ok (.bl false) S := by simp only [oEq, he]
          simp only [mOrB, mCmp, mCall, lCons, lNil, mVar, List.getElem?_cons_zero, R.bind_ok, len_tx hz, mC, oGt, g1, decide_false, mAndB, g2, decide_true, if_true, mBin, hx, heq]
          simp [mSeq, mSet, mRet, mBin, mCall, lCons, lNil, mVar, mC, mIfS, mCmp, mAndB, mOrB, mNotB, mTru, mIf, mAnd, mOr, mPass, mExpr, mBM, mAug, mAsg, gN, gT, gsC, gsN, mFn, mTup, mSl, oSome, mUn, mFor, mIt, mRng1, bLen, lenD, oLt, oLe, oGt, oGe, oAppend, oFind, hasTy, mDef, endOf, oIAdd, oSub, oIt]
      · simp only [mOrB, mCmp, mCall, lCons, lNil, mVar, List.getElem?_cons_zero, R.bind_ok, len_tx hz, mC, oGt, g1, decide_false, mAndB, g2]
        simp [mSeq, mSet, mRet, mBin, mCall, lCons, lNil, mVar, mC, mIfS, mCmp, mAndB, mOrB, mNotB, mTru, mIf, mAnd, mOr, mPass, mExpr, mBM, mAug, mAsg, gN, gT, gsC, gsN, mFn, mTup, mSl, oSome, mUn, mFor, mIt, mRng1, bLen, lenD, oLt, oLe, oGt, oGe, oAppend, oFind, hasTy, mDef, endOf, oIAdd, oSub, oIt]
    have hmk : ∀ (o : Option D), (mFor (mIt (mVar 0)) (gN 1) b_numB) [some (.str (tx w)), o] S = fLoop (.str (tx w)) (gN 1) b_numB 0 [some (.str (tx w)), o] S := fun o => by simp [mSeq, mSet, mRet, mBin, mCall, lCons, lNil, mVar, mC, mIfS, mCmp, mAndB, mOrB, mNotB, mTru, mIf, mAnd, mOr, mPass, mExpr, mBM, mAug, mAsg, gN, gT, gsC, gsN, mFn, mTup, mSl, oSome, mUn, mFor, mIt, mRng1, bLen, lenD, oLt, oLe, oGt, oGe, oAppend, oFind, hasTy, mDef, endOf, oIAdd, oSub, oIt]
    have hB : b_num [some (.str (tx w)), none] S = .ok (.rt (.bl true)) S := by
      simp only [b_num, mSeq, mIfS, hc, R.bind_ok, mPass, Bool.false_eq_true, if_false]
      rw [hmk, hL]
      simp only [R.bind_ok, mRet, mBin, mCall, lCons, lNil, mVar, List.getElem?_cons_zero, hi, mC, oLe, hn0, decide_true]
    have hd : mDef 1 1 b_num [.str (tx w)] S = endOf (b_num [some (.str (tx w)), none] S) := rfl
    rw [hd, hB]; rfl
  · cases h4
/-! #### one token -/
def tokS (kind : Str) (w : List Nat) : Bool := match w with
  | [] => false
  | c :: _ => if isLet c then w.all isWs && kind == (if kwL.any (fun z => z == tx w) then "keyword" else "name")
    else if isDig c then w.all isWs && numOk w && kind == "number"
    else kind == "sign" && (longL.any (fun z => z == tx w) || (w.length == 1 && shortL.any (fun z => z == tx w)))
def bnd (w : List Nat) (nx : Option Nat) : Bool := match w with
  | [] => false
  | c :: v => if isLet c || isDig c then nx.all (fun x => !isWs x) else (!v.isEmpty || !(longL.any (fun z => z == tx (c :: nx.toList))))
theorem long2 {w : List Nat} (h : longL.any (fun z => z == tx w) = true) : w.length = 2 := by
  rw [List.any_eq_true] at h
  obtain ⟨z, hz, e⟩ := h
  have e' : z = tx w := by simpa using e
  have hz2 : ∀ z ∈ longL, z.length = 2 := by decide +kernel
  have := hz2 z hz
  rw [e'] at this
  exact this
theorem token_ok {kind : Str} {pre w rest : List Nat} {S : Hs} {r c : D} {r1 r2 : MS} (hl : (pre ++ w ++ rest).length ≤ sizeLine) (hs : tokS kind w = true) (hb : bnd w rest.head? = true) :
    mDef 4 4 (b_token r1 r2) [.str (tx (pre ++ w ++ rest)), .int (pre.length : Int), r, c] S = .ok (.tup [.str kind, .str (tx w), r, c]) S := by
  cases w with
  | nil => cases hs
  | cons x v =>
    have hg : (pre ++ (x :: v) ++ rest)[pre.length]? = some x := by simp [mSeq, mSet, mRet, mBin, mCall, lCons, lNil, mVar, mC, mIfS, mCmp, mAndB, mOrB, mNotB, mTru, mIf, mAnd, mOr, mPass, mExpr, mBM, mAug, mAsg, gN, gT, gsC, gsN, mFn, mTup, mSl, oSome, mUn, mFor, mIt, mRng1, bLen, lenD, oLt, oLe, oGt, oGe, oAppend, oFind, hasTy, mDef, endOf, oIAdd, oSub, oIt]
    have hix := ix_tx (S := S) hg hl
    have hsl : oSl (.str (tx (pre ++ (x :: v) ++ rest))) (some (pre.length : Int)) (some ((pre.length : Int) + 2)) S = .ok (.str (tx ((v ++ rest).take 1 |> (x :: ·)))) S := by
      rw [show (pre.length : Int) + 2 = ((pre.length + 2 : Nat) : Int) by simp, sl_tx (by omega) hl]
      simp [mSeq, mSet, mRet, mBin, mCall, lCons, lNil, mVar, mC, mIfS, mCmp, mAndB, mOrB, mNotB, mTru, mIf, mAnd, mOr, mPass, mExpr, mBM, mAug, mAsg, gN, gT, gsC, gsN, mFn, mTup, mSl, oSome, mUn, mFor, mIt, mRng1, bLen, lenD, oLt, oLe, oGt, oGe, oAppend, oFind, hasTy, mDef, endOf, oIAdd, oSub, oIt]
    have hrest : (isLet x || isDig x) = true → ∀ y, rest.head? = some y → isWs y = false := by
      intro h y hy
      simp only [bnd, h, if_true, hy, Option.all_some, Bool.not_eq_true'] at hb
      exact hb
    have hwd : (isLet x || isDig x) = true → (x :: v).all isWs = true → mDef 2 1 b_word [.str (tx (pre ++ (x :: v) ++ rest)), .int (pre.length : Int)] S = .ok (.str (tx (x :: v))) S := fun h h2 => word_ok hl h2 (hrest h)
    have hin1 : oIn (.str (tx [x])) (.str letS) S = .ok (.bl (isLet x)) S := rfl
    have hin2 : oIn (.str (tx [x])) (.str digS) S = .ok (.bl (isDig x)) S := rfl
    have h4 : [(.str kind : D), .str (tx (x :: v)), r, c].length ≤ sizeLine := by show 4 ≤ sizeLine; decide
    have hd : ∀ t : Str, mDef 4 4 (b_token r1 r2) [.str t, .int (pre.length : Int), r, c] S = endOf (b_token r1 r2 [some (.str t), some (.int (pre.length : Int)), some r, some c, none, none, none, none] S) := fun t => rfl
    rw [hd]
    generalize htt : tx (pre ++ (x :: v) ++ rest) = t at hix hsl hwd
    have h4' : (4 : Nat) ≤ sizeLine := by decide
    simp only [tokS] at hs
    by_cases hL : isLet x = true
    · simp only [hL, if_true, Bool.and_eq_true, beq_iff_eq] at hs
      have hw := hwd (by simp [mSeq, mSet, mRet, mBin, mCall, lCons, lNil, mVar, mC, mIfS, mCmp, mAndB, mOrB, mNotB, mTru, mIf, mAnd, mOr, mPass, mExpr, mBM, mAug, mAsg, gN, gT, gsC, gsN, mFn, mTup, mSl, oSome, mUn, mFor, mIt, mRng1, bLen, lenD, oLt, oLe, oGt, oGe, oAppend, oFind, hasTy, mDef, endOf, oIAdd, oSub, oIt, hL]) hs.1
      have hk : mIf (mCmp oIn (mVar 5) (mC (wtS kwL))) (mC (.str "keyword")) (mC (.str "name")) [some (.str t), some (.int (pre.length : Int)), some r, some c, some (.str (tx [x])), some (.str (tx (x :: v))), none, none] S = .ok (.str kind) S := by
        rw [hs.2]
        cases hkk : kwL.any (fun z => z == tx (x :: v)) <;> simp [mSeq, mSet, mRet, mBin, mCall, lCons, lNil, mVar, mC, mIfS, mCmp, mAndB, mOrB, mNotB, mTru, mIf, mAnd, mOr, mPass, mExpr, mBM, mAug, mAsg, gN, gT, gsC, gsN, mFn, mTup, mSl, oSome, mUn, mFor, mIt, mRng1, bLen, lenD, oLt, oLe, oGt, oGe, oAppend, oFind, hasTy, mDef, endOf, oIAdd, oSub, oIt, in_wtS, hkk]
      simp only [b_token, mSeq, mSet, mBin, mVar, List.getElem?_cons_zero, List.getElem?_cons_succ, R.bind_ok, hix, List.set_cons_succ, List.set_cons_zero, mIfS, mCmp, mC, hin1, hL, if_true, mFn, lCons, lNil, hw, R.at_ok, hk, mRet, mTup, h4, List.length_cons, List.length_nil]
      simp [mSeq, mSet, mRet, mBin, mCall, lCons, lNil, mVar, mC, mIfS, mCmp, mAndB, mOrB, mNotB, mTru, mIf, mAnd, mOr, mPass, mExpr, mBM, mAug, mAsg, gN, gT, gsC, gsN, mFn, mTup, mSl, oSome, mUn, mFor, mIt, mRng1, bLen, lenD, oLt, oLe, oGt, oGe, oAppend, oFind, hasTy, mDef, endOf, oIAdd, oSub, oIt, h4']
    · simp only [Bool.not_eq_true] at hL
      simp only [hL, Bool.false_eq_true, if_false] at hs
      by_cases hD : isDig x = true
      · simp only [hD, if_true, Bool.and_eq_true, beq_iff_eq] at hs
        have hw := hwd (by simp [mSeq, mSet, mRet, mBin, mCall, lCons, lNil, mVar, mC, mIfS, mCmp, mAndB, mOrB, mNotB, mTru, mIf, mAnd, mOr, mPass, mExpr, mBM, mAug, mAsg, gN, gT, gsC, gsN, mFn, mTup, mSl, oSome, mUn, mFor, mIt, mRng1, bLen, lenD, oLt, oLe, oGt, oGe, oAppend, oFind, hasTy, mDef, endOf, oIAdd, oSub, oIt, hD]) hs.1.1
        have hn := num_ok (S := S) hs.1.2
        have hk := hs.2
        simp only [b_token, mSeq, mSet, mBin, mVar, List.getElem?_cons_zero, List.getElem?_cons_succ, R.bind_ok, hix, List.set_cons_succ, List.set_cons_zero, mIfS, mCmp, mC, hin1, hL, if_true, mFn, lCons, lNil, hw, R.at_ok, Bool.false_eq_true, if_false, mPass, hin2, hD, mNotB, mTru, hn, oTru, tru, Bool.not_true, mRet, mTup, List.length_cons, List.length_nil]
        simp [mSeq, mSet, mRet, mBin, mCall, lCons, lNil, mVar, mC, mIfS, mCmp, mAndB, mOrB, mNotB, mTru, mIf, mAnd, mOr, mPass, mExpr, mBM, mAug, mAsg, gN, gT, gsC, gsN, mFn, mTup, mSl, oSome, mUn, mFor, mIt, mRng1, bLen, lenD, oLt, oLe, oGt, oGe, oAppend, oFind, hasTy, mDef, endOf, oIAdd, oSub, oIt, h4', hk]
      · simp only [Bool.not_eq_true] at hD
        simp only [hD, Bool.false_eq_true, if_false, Bool.and_eq_true, beq_iff_eq, Bool.or_eq_true] at hs
        obtain ⟨hk, hs⟩ := hs
        subst hk
        cases v with
        | cons y v =>
          have hlong : longL.any (fun z => z == tx (x :: y :: v)) = true := by
            rcases hs with h | h
            · exact h
            · simp at h
          have hv : v = [] := by
            have := long2 hlong
            simpa using this
          subst hv
          have e1 : (([y] ++ rest).take 1 |> (x :: ·)) = [x, y] := by simp [mSeq, mSet, mRet, mBin, mCall, lCons, lNil, mVar, mC, mIfS, mCmp, mAndB, mOrB, mNotB, mTru, mIf, mAnd, mOr, mPass, mExpr, mBM, mAug, mAsg, gN, gT, gsC, gsN, mFn, mTup, mSl, oSome, mUn, mFor, mIt, mRng1, bLen, lenD, oLt, oLe, oGt, oGe, oAppend, oFind, hasTy, mDef, endOf, oIAdd, oSub, oIt]
          rw [e1] at hsl
          simp only [b_token, mSeq, mSet, mBin, mVar, List.getElem?_cons_zero, List.getElem?_cons_succ, R.bind_ok, hix, List.set_cons_succ, List.set_cons_zero, mIfS, mCmp, mC, hin1, hL, mPass, hin2, hD, Bool.false_eq_true, if_false, mSl, oSome, oAdd, hsl, in_wtS, hlong, if_true, mRet, mTup, lCons, lNil, List.length_cons, List.length_nil]
          simp [mSeq, mSet, mRet, mBin, mCall, lCons, lNil, mVar, mC, mIfS, mCmp, mAndB, mOrB, mNotB, mTru, mIf, mAnd, mOr, mPass, mExpr, mBM, mAug, mAsg, gN, gT, gsC, gsN, mFn, mTup, mSl, oSome, mUn, mFor, mIt, mRng1, bLen, lenD, oLt, oLe, oGt, oGe, oAppend, oFind, hasTy, mDef, endOf, oIAdd, oSub, oIt, h4']
        | nil =>
          have hnl : longL.any (fun z => z == tx [x]) = false := by
            cases e : longL.any (fun z => z == tx [x]) with
            | false => rfl
            | true => exact absurd (long2 e) (by simp [mSeq, mSet, mRet, mBin, mCall, lCons, lNil, mVar, mC, mIfS, mCmp, mAndB, mOrB, mNotB, mTru, mIf, mAnd, mOr, mPass, mExpr, mBM, mAug, mAsg, gN, gT, gsC, gsN, mFn, mTup, mSl, oSome, mUn, mFor, mIt, mRng1, bLen, lenD, oLt, oLe, oGt, oGe, oAppend, oFind, hasTy, mDef, endOf, oIAdd, oSub, oIt])
          have hsh : shortL.any (fun z => z == tx [x]) = true := by
            rcases hs with h | h
            · rw [hnl] at h; cases h
            · exact h.2
          have hnb : longL.any (fun z => z == tx (x :: rest.head?.toList)) = false := by
            simpa [bnd, hL, hD] using hb
          have e1 : (([] ++ rest).take 1 |> (x :: ·)) = x :: rest.head?.toList := by cases rest <;> simp [mSeq, mSet, mRet, mBin, mCall, lCons, lNil, mVar, mC, mIfS, mCmp, mAndB, mOrB, mNotB, mTru, mIf, mAnd, mOr, mPass, mExpr, mBM, mAug, mAsg, gN, gT, gsC, gsN, mFn, mTup, mSl, oSome, mUn, mFor, mIt, mRng1, bLen, lenD, oLt, oLe, oGt, oGe, oAppend, oFind, hasTy, mDef, endOf, oIAdd, oSub, oIt]
          rw [e1] at hsl
          simp only [b_token, mSeq, mSet, mBin, mVar, List.getElem?_cons_zero, List.getElem?_cons_succ, R.bind_ok, hix, List.set_cons_succ, List.set_cons_zero, mIfS, mCmp, mC, hin1, hL, mPass, hin2, hD, Bool.false_eq_true, if_false, mSl, oSome, oAdd, hsl, in_wtS, hnb, hsh, if_true, mRet, mTup, lCons, lNil, List.length_cons, List.length_nil]
          simp [mSeq, mSet, mRet, mBin, mCall, lCons, lNil, mVar, mC, mIfS, mCmp, mAndB, mOrB, mNotB, mTru, mIf, mAnd, mOr, mPass, mExpr, mBM, mAug, mAsg, gN, gT, gsC, gsN, mFn, mTup, mSl, oSome, mUn, mFor, mIt, mRng1, bLen, lenD, oLt, oLe, oGt, oGe, oAppend, oFind, hasTy, mDef, endOf, oIAdd, oSub, oIt, h4']
/-! #### a text's tokens -/
def rowD (pre : List Nat) : D := .int ((pre.count 10 : Int) + 1)
def colD (pre : List Nat) : D := .int ((pre.length : Int) - (behC 10 pre 0 0 : Int) + 1)
def begD (pre : List Nat) : D := .int (behC 10 pre 0 0 : Int)
def tokD (kind : Str) (w pre : List Nat) : D := .tup [.str kind, .str (tx w), rowD pre, colD pre]
inductive Lx : List Nat → List Nat → List D → Prop
  | done {pre : List Nat} : Lx pre [] []
  | nl {pre rest : List Nat} {ts : List D} : Lx (pre ++ [10]) rest ts → Lx pre (10 :: rest) ts
  | sp {pre rest : List Nat} {ts : List D} : Lx (pre ++ [32]) rest ts → Lx pre (32 :: rest) ts
  | com {pre rest : List Nat} {ts : List D} {body : List Nat} : 10 ∉ body → (rest = [] ∨ rest.head? = some 10) → Lx (pre ++ 35 :: body) rest ts → Lx pre (35 :: body ++ rest) ts
  | tok {pre rest w : List Nat} {kind : Str} {ts : List D} : tokS kind w = true → bnd w rest.head? = true → Lx (pre ++ w) rest ts → Lx pre (w ++ rest) (tokD kind w pre :: ts)
theorem signs_no : ∀ z ∈ longL ++ shortL, z.cps.toList.all (fun c => !(c == 10) && !(c == 32) && !(c == 35)) = true := by decide +kernel
theorem ws_no {c : Nat} (h : isWs c = true) : c ≠ 10 ∧ c ≠ 32 ∧ c ≠ 35 := by
  have h1 : isWs 10 = false := by decide +kernel
  have h2 : isWs 32 = false := by decide +kernel
  have h3 : isWs 35 = false := by decide +kernel
  refine ⟨?_, ?_, ?_⟩ <;> (rintro rfl; simp_all)
theorem tokS_no {kind : Str} {w : List Nat} (h : tokS kind w = true) : ∀ c ∈ w, c ≠ 10 ∧ c ≠ 32 ∧ c ≠ 35 := by
  cases w with
  | nil => cases h
  | cons x v =>
    have hsig : ∀ l : List Str, (∀ z ∈ l, z ∈ longL ++ shortL) → l.any (fun z => z == tx (x :: v)) = true → ∀ c ∈ x :: v, c ≠ 10 ∧ c ≠ 32 ∧ c ≠ 35 := by
      intro l hl ha c hc
      rw [List.any_eq_true] at ha
      obtain ⟨z, hz, e⟩ := ha
      have e' : z = tx (x :: v) := by simpa using e
      have := signs_no z (hl z hz)
      rw [e', tx_list, List.all_eq_true] at this
      have := this c hc
      simp only [Bool.and_eq_true, Bool.not_eq_true', beq_eq_false_iff_ne] at this
      exact ⟨this.1.1, this.1.2, this.2⟩
    simp only [tokS] at h
    split at h
    · simp only [Bool.and_eq_true] at h
      intro c hc
      exact ws_no (List.all_eq_true.mp h.1 c hc)
    · split at h
      · simp only [Bool.and_eq_true] at h
        intro c hc
        exact ws_no (List.all_eq_true.mp h.1.1 c hc)
      · simp only [Bool.and_eq_true, Bool.or_eq_true] at h
        rcases h.2 with h | h
        · exact hsig longL (fun z hz => List.mem_append_left _ hz) h
        · exact hsig shortL (fun z hz => List.mem_append_right _ hz) h.2
theorem behC_no (c : Nat) : ∀ (xs : List Nat) (a e : Nat), c ∉ xs → behC c xs a e = e
  | [], _, _, _ => rfl
  | x :: r, a, e, h => by
    have hx : x ≠ c := fun e => h (by simp [mSeq, mSet, mRet, mBin, mCall, lCons, lNil, mVar, mC, mIfS, mCmp, mAndB, mOrB, mNotB, mTru, mIf, mAnd, mOr, mPass, mExpr, mBM, mAug, mAsg, gN, gT, gsC, gsN, mFn, mTup, mSl, oSome, mUn, mFor, mIt, mRng1, bLen, lenD, oLt, oLe, oGt, oGe, oAppend, oFind, hasTy, mDef, endOf, oIAdd, oSub, oIt, e])
    simp only [behC, if_neg hx]
    exact behC_no c r (a + 1) e (fun m => h (List.mem_cons_of_mem _ m))
theorem beg_nl (pre : List Nat) : begD (pre ++ [10]) = .int ((pre.length : Int) + 1) := by
  simp [mSeq, mSet, mRet, mBin, mCall, lCons, lNil, mVar, mC, mIfS, mCmp, mAndB, mOrB, mNotB, mTru, mIf, mAnd, mOr, mPass, mExpr, mBM, mAug, mAsg, gN, gT, gsC, gsN, mFn, mTup, mSl, oSome, mUn, mFor, mIt, mRng1, bLen, lenD, oLt, oLe, oGt, oGe, oAppend, oFind, hasTy, mDef, endOf, oIAdd, oSub, oIt, begD, behC_app, behC]
theorem row_nl (pre : List Nat) : rowD (pre ++ [10]) = .int ((pre.count 10 : Int) + 1 + 1) := by
  simp [mSeq, mSet, mRet, mBin, mCall, lCons, lNil, mVar, mC, mIfS, mCmp, mAndB, mOrB, mNotB, mTru, mIf, mAnd, mOr, mPass, mExpr, mBM, mAug, mAsg, gN, gT, gsC, gsN, mFn, mTup, mSl, oSome, mUn, mFor, mIt, mRng1, bLen, lenD, oLt, oLe, oGt, oGe, oAppend, oFind, hasTy, mDef, endOf, oIAdd, oSub, oIt, rowD]
theorem beg_no {pre w : List Nat} (h : 10 ∉ w) : begD (pre ++ w) = begD pre := by
  simp [mSeq, mSet, mRet, mBin, mCall, lCons, lNil, mVar, mC, mIfS, mCmp, mAndB, mOrB, mNotB, mTru, mIf, mAnd, mOr, mPass, mExpr, mBM, mAug, mAsg, gN, gT, gsC, gsN, mFn, mTup, mSl, oSome, mUn, mFor, mIt, mRng1, bLen, lenD, oLt, oLe, oGt, oGe, oAppend, oFind, hasTy, mDef, endOf, oIAdd, oSub, oIt, begD, behC_app, behC_no 10 w _ _ h]
theorem row_no {pre w : List Nat} (h : 10 ∉ w) : rowD (pre ++ w) = rowD pre := by
  simp [mSeq, mSet, mRet, mBin, mCall, lCons, lNil, mVar, mC, mIfS, mCmp, mAndB, mOrB, mNotB, mTru, mIf, mAnd, mOr, mPass, mExpr, mBM, mAug, mAsg, gN, gT, gsC, gsN, mFn, mTup, mSl, oSome, mUn, mFor, mIt, mRng1, bLen, lenD, oLt, oLe, oGt, oGe, oAppend, oFind, hasTy, mDef, endOf, oIAdd, oSub, oIt, rowD, List.count_eq_zero_of_not_mem h]
theorem Lx.len {pre rest : List Nat} {ts : List D} (h : Lx pre rest ts) : ts.length ≤ rest.length := by
  induction h with
  | done => simp [mSeq, mSet, mRet, mBin, mCall, lCons, lNil, mVar, mC, mIfS, mCmp, mAndB, mOrB, mNotB, mTru, mIf, mAnd, mOr, mPass, mExpr, mBM, mAug, mAsg, gN, gT, gsC, gsN, mFn, mTup, mSl, oSome, mUn, mFor, mIt, mRng1, bLen, lenD, oLt, oLe, oGt, oGe, oAppend, oFind, hasTy, mDef, endOf, oIAdd, oSub, oIt]
  | nl _ ih => simp [mSeq, mSet, mRet, mBin, mCall, lCons, lNil, mVar, mC, mIfS, mCmp, mAndB, mOrB, mNotB, mTru, mIf, mAnd, mOr, mPass, mExpr, mBM, mAug, mAsg, gN, gT, gsC, gsN, mFn, mTup, mSl, oSome, mUn, mFor, mIt, mRng1, bLen, lenD, oLt, oLe, oGt, oGe, oAppend, oFind, hasTy, mDef, endOf, oIAdd, oSub, oIt]; omega
  | sp _ ih => simp [mSeq, mSet, mRet, mBin, mCall, lCons, lNil, mVar, mC, mIfS, mCmp, mAndB, mOrB, mNotB, mTru, mIf, mAnd, mOr, mPass, mExpr, mBM, mAug, mAsg, gN, gT, gsC, gsN, mFn, mTup, mSl, oSome, mUn, mFor, mIt, mRng1, bLen, lenD, oLt, oLe, oGt, oGe, oAppend, oFind, hasTy, mDef, endOf, oIAdd, oSub, oIt]; omega
  | com _ _ _ ih => simp [mSeq, mSet, mRet, mBin, mCall, lCons, lNil, mVar, mC, mIfS, mCmp, mAndB, mOrB, mNotB, mTru, mIf, mAnd, mOr, mPass, mExpr, mBM, mAug, mAsg, gN, gT, gsC, gsN, mFn, mTup, mSl, oSome, mUn, mFor, mIt, mRng1, bLen, lenD, oLt, oLe, oGt, oGe, oAppend, oFind, hasTy, mDef, endOf, oIAdd, oSub, oIt]; omega
  | @tok pre rest w kind ts hs _ _ ih =>
    have : w ≠ [] := by rintro rfl; cases hs
    have : 0 < w.length := List.length_pos_iff.mpr this
    simp [mSeq, mSet, mRet, mBin, mCall, lCons, lNil, mVar, mC, mIfS, mCmp, mAndB, mOrB, mNotB, mTru, mIf, mAnd, mOr, mPass, mExpr, mBM, mAug, mAsg, gN, gT, gsC, gsN, mFn, mTup, mSl, oSome, mUn, mFor, mIt, mRng1, bLen, lenD, oLt, oLe, oGt, oGe, oAppend, oFind, hasTy, mDef, endOf, oIAdd, oSub, oIt]; omega
theorem toks_loop {r1 r2 : MS} {pre rest : List Nat} {ts : List D} (h : Lx pre rest ts) : ∀ {cs : List Nat} {i : Nat} {S : Hs} {acc : List D} (o5 o6 : Option D), cs = pre ++ rest → cs.length < sizeLine → S[i]? = some (.lst acc) → acc.length ≤ pre.length →
    ∃ o5' o6', mWhile b_toksC (b_toksB r1 r2) [some (.str (tx cs)), some (.ref i), some (.int (pre.length : Int)), some (rowD pre), some (begD pre), o5, o6] S
      = .ok (.nx [some (.str (tx cs)), some (.ref i), some (.int (cs.length : Int)), some (rowD cs), some (begD cs), o5', o6']) (S.set i (.lst (acc ++ ts))) := by
  induction h with
  | @done pre =>
    intro cs i S acc o5 o6 hc hl hS ha
    refine ⟨o5, o6, ?_⟩
    have hc' : cs = pre := by simpa using hc
    subst hc'
    have hC : ∀ l, b_toksC ([some (.str (tx cs)), some (.ref i), some (.int (cs.length : Int))] ++ l) S = .ok false S := by
      intro l
      simp [mSeq, mSet, mRet, mBin, mCall, lCons, lNil, mVar, mC, mIfS, mCmp, mAndB, mOrB, mNotB, mTru, mIf, mAnd, mOr, mPass, mExpr, mBM, mAug, mAsg, gN, gT, gsC, gsN, mFn, mTup, mSl, oSome, mUn, mFor, mIt, mRng1, lenD, oLt, oLe, oGt, oGe, oAppend, oFind, hasTy, mDef, endOf, oIAdd, oSub, oIt, b_toksC, len_tx (Nat.le_of_lt hl)]
    have := hC [some (rowD cs), some (begD cs), o5, o6]
    simp only [List.cons_append, List.nil_append] at this
    rw [mWhile_eq, this]
    simp only [R.bind_ok, Bool.false_eq_true, if_false, List.append_nil]
    congr 1
    exact (set_same hS).symm
  | @nl pre rest ts h ih =>
    intro cs i S acc o5 o6 hc hl hS ha
    have hg : cs[pre.length]? = some 10 := by rw [hc]; simp [mSeq, mSet, mRet, mBin, mCall, lCons, lNil, mVar, mC, mIfS, mCmp, mAndB, mOrB, mNotB, mTru, mIf, mAnd, mOr, mPass, mExpr, mBM, mAug, mAsg, gN, gT, gsC, gsN, mFn, mTup, mSl, oSome, mUn, mFor, mIt, mRng1, bLen, lenD, oLt, oLe, oGt, oGe, oAppend, oFind, hasTy, mDef, endOf, oIAdd, oSub, oIt]
    have hlt : (pre.length : Int) < (cs.length : Int) := by rw [hc]; simp [mSeq, mSet, mRet, mBin, mCall, lCons, lNil, mVar, mC, mIfS, mCmp, mAndB, mOrB, mNotB, mTru, mIf, mAnd, mOr, mPass, mExpr, mBM, mAug, mAsg, gN, gT, gsC, gsN, mFn, mTup, mSl, oSome, mUn, mFor, mIt, mRng1, bLen, lenD, oLt, oLe, oGt, oGe, oAppend, oFind, hasTy, mDef, endOf, oIAdd, oSub, oIt]; omega
    have hC : b_toksC [some (.str (tx cs)), some (.ref i), some (.int (pre.length : Int)), some (rowD pre), some (begD pre), o5, o6] S = .ok true S := by
      simp [mSeq, mSet, mRet, mBin, mCall, lCons, lNil, mVar, mC, mIfS, mCmp, mAndB, mOrB, mNotB, mTru, mIf, mAnd, mOr, mPass, mExpr, mBM, mAug, mAsg, gN, gT, gsC, gsN, mFn, mTup, mSl, oSome, mUn, mFor, mIt, mRng1, lenD, oLt, oLe, oGt, oGe, oAppend, oFind, hasTy, mDef, endOf, oIAdd, oSub, oIt, b_toksC, len_tx (Nat.le_of_lt hl), hlt]
    have he : oEq (.str (tx [10])) (.str "\n") S = .ok (.bl true) S := by rw [spS.1]; simp [mSeq, mSet, mRet, mBin, mCall, lCons, lNil, mVar, mC, mIfS, mCmp, mAndB, mOrB, mNotB, mTru, mIf, mAnd, mOr, mPass, mExpr, mBM, mAug, mAsg, gN, gT, gsC, gsN, mFn, mTup, mSl, oSome, mUn, mFor, mIt, mRng1, bLen, lenD, oLt, oLe, oGt, oGe, oAppend, oFind, hasTy, mDef, endOf, oIAdd, oSub, oIt, oEq, cEqD, cEqS]
    have hB : b_toksB r1 r2 [some (.str (tx cs)), some (.ref i), some (.int (pre.length : Int)), some (rowD pre), some (begD pre), o5, o6] S = .ok (.nx [some (.str (tx cs)), some (.ref i), some (.int ((pre ++ [10]).length : Int)), some (rowD (pre ++ [10])), some (begD (pre ++ [10])), some (.str (tx [10])), o6]) S := by
      simp [mSeq, mSet, mRet, mBin, mCall, lCons, lNil, mVar, mC, mIfS, mCmp, mAndB, mOrB, mNotB, mTru, mIf, mAnd, mOr, mPass, mExpr, mBM, mAug, mAsg, gN, gT, gsC, gsN, mFn, mTup, mSl, oSome, mUn, mFor, mIt, mRng1, bLen, lenD, oLt, oLe, oGt, oGe, oAppend, oFind, hasTy, mDef, endOf, oIAdd, oSub, oIt, b_toksB, ix_tx hg (Nat.le_of_lt hl), he, beg_nl, row_nl]
      simp [mSeq, mSet, mRet, mBin, mCall, lCons, lNil, mVar, mC, mIfS, mCmp, mAndB, mOrB, mNotB, mTru, mIf, mAnd, mOr, mPass, mExpr, mBM, mAug, mAsg, gN, gT, gsC, gsN, mFn, mTup, mSl, oSome, mUn, mFor, mIt, mRng1, bLen, lenD, oLt, oLe, oGt, oGe, oAppend, oFind, hasTy, mDef, endOf, oIAdd, oSub, oIt, rowD]
    obtain ⟨o5', o6', e⟩ := ih (cs := cs) (i := i) (S := S) (acc := acc) (some (.str (tx [10]))) o6 (by rw [hc]; simp [mSeq, mSet, mRet, mBin, mCall, lCons, lNil, mVar, mC, mIfS, mCmp, mAndB, mOrB, mNotB, mTru, mIf, mAnd, mOr, mPass, mExpr, mBM, mAug, mAsg, gN, gT, gsC, gsN, mFn, mTup, mSl, oSome, mUn, mFor, mIt, mRng1, bLen, lenD, oLt, oLe, oGt, oGe, oAppend, oFind, hasTy, mDef, endOf, oIAdd, oSub, oIt]) hl hS (by simp [mSeq, mSet, mRet, mBin, mCall, lCons, lNil, mVar, mC, mIfS, mCmp, mAndB, mOrB, mNotB, mTru, mIf, mAnd, mOr, mPass, mExpr, mBM, mAug, mAsg, gN, gT, gsC, gsN, mFn, mTup, mSl, oSome, mUn, mFor, mIt, mRng1, bLen, lenD, oLt, oLe, oGt, oGe, oAppend, oFind, hasTy, mDef, endOf, oIAdd, oSub, oIt]; omega)
    refine ⟨o5', o6', ?_⟩
    rw [mWhile_eq, hC]
    simp only [R.bind_ok, if_true, hB, e]
  | @sp pre rest ts h ih =>
    intro cs i S acc o5 o6 hc hl hS ha
    have hg : cs[pre.length]? = some 32 := by rw [hc]; simp [mSeq, mSet, mRet, mBin, mCall, lCons, lNil, mVar, mC, mIfS, mCmp, mAndB, mOrB, mNotB, mTru, mIf, mAnd, mOr, mPass, mExpr, mBM, mAug, mAsg, gN, gT, gsC, gsN, mFn, mTup, mSl, oSome, mUn, mFor, mIt, mRng1, bLen, lenD, oLt, oLe, oGt, oGe, oAppend, oFind, hasTy, mDef, endOf, oIAdd, oSub, oIt]
    have hlt : (pre.length : Int) < (cs.length : Int) := by rw [hc]; simp [mSeq, mSet, mRet, mBin, mCall, lCons, lNil, mVar, mC, mIfS, mCmp, mAndB, mOrB, mNotB, mTru, mIf, mAnd, mOr, mPass, mExpr, mBM, mAug, mAsg, gN, gT, gsC, gsN, mFn, mTup, mSl, oSome, mUn, mFor, mIt, mRng1, bLen, lenD, oLt, oLe, oGt, oGe, oAppend, oFind, hasTy, mDef, endOf, oIAdd, oSub, oIt]; omega
    have hC : b_toksC [some (.str (tx cs)), some (.ref i), some (.int (pre.length : Int)), some (rowD pre), some (begD pre), o5, o6] S = .ok true S := by
      simp [mSeq, mSet, mRet, mBin, mCall, lCons, lNil, mVar, mC, mIfS, mCmp, mAndB, mOrB, mNotB, mTru, mIf, mAnd, mOr, mPass, mExpr, mBM, mAug, mAsg, gN, gT, gsC, gsN, mFn, mTup, mSl, oSome, mUn, mFor, mIt, mRng1, lenD, oLt, oLe, oGt, oGe, oAppend, oFind, hasTy, mDef, endOf, oIAdd, oSub, oIt, b_toksC, len_tx (Nat.le_of_lt hl), hlt]
    have he1 : oEq (.str (tx [32])) (.str "\n") S = .ok (.bl false) S := by rw [spS.1]; simp [mSeq, mSet, mRet, mBin, mCall, lCons, lNil, mVar, mC, mIfS, mCmp, mAndB, mOrB, mNotB, mTru, mIf, mAnd, mOr, mPass, mExpr, mBM, mAug, mAsg, gN, gT, gsC, gsN, mFn, mTup, mSl, oSome, mUn, mFor, mIt, mRng1, bLen, lenD, oLt, oLe, oGt, oGe, oAppend, oFind, hasTy, mDef, endOf, oIAdd, oSub, oIt, oEq, cEqD, cEqS]
    have he2 : oEq (.str (tx [32])) (.str " ") S = .ok (.bl true) S := by rw [spS.2.1]; simp [mSeq, mSet, mRet, mBin, mCall, lCons, lNil, mVar, mC, mIfS, mCmp, mAndB, mOrB, mNotB, mTru, mIf, mAnd, mOr, mPass, mExpr, mBM, mAug, mAsg, gN, gT, gsC, gsN, mFn, mTup, mSl, oSome, mUn, mFor, mIt, mRng1, bLen, lenD, oLt, oLe, oGt, oGe, oAppend, oFind, hasTy, mDef, endOf, oIAdd, oSub, oIt, oEq, cEqD, cEqS]
    have hB : b_toksB r1 r2 [some (.str (tx cs)), some (.ref i), some (.int (pre.length : Int)), some (rowD pre), some (begD pre), o5, o6] S = .ok (.nx [some (.str (tx cs)), some (.ref i), some (.int ((pre ++ [32]).length : Int)), some (rowD (pre ++ [32])), some (begD (pre ++ [32])), some (.str (tx [32])), o6]) S := by
      rw [row_no (by simp [mSeq, mSet, mRet, mBin, mCall, lCons, lNil, mVar, mC, mIfS, mCmp, mAndB, mOrB, mNotB, mTru, mIf, mAnd, mOr, mPass, mExpr, mBM, mAug, mAsg, gN, gT, gsC, gsN, mFn, mTup, mSl, oSome, mUn, mFor, mIt, mRng1, bLen, lenD, oLt, oLe, oGt, oGe, oAppend, oFind, hasTy, mDef, endOf, oIAdd, oSub, oIt]), beg_no (by simp [mSeq, mSet, mRet, mBin, mCall, lCons, lNil, mVar, mC, mIfS, mCmp, mAndB, mOrB, mNotB, mTru, mIf, mAnd, mOr, mPass, mExpr, mBM, mAug, mAsg, gN, gT, gsC, gsN, mFn, mTup, mSl, oSome, mUn, mFor, mIt, mRng1, bLen, lenD, oLt, oLe, oGt, oGe, oAppend, oFind, hasTy, mDef, endOf, oIAdd, oSub, oIt])]
      simp [mSeq, mSet, mRet, mBin, mCall, lCons, lNil, mVar, mC, mIfS, mCmp, mAndB, mOrB, mNotB, mTru, mIf, mAnd, mOr, mPass, mExpr, mBM, mAug, mAsg, gN, gT, gsC, gsN, mFn, mTup, mSl, oSome, mUn, mFor, mIt, mRng1, bLen, lenD, oLt, oLe, oGt, oGe, oAppend, oFind, hasTy, mDef, endOf, oIAdd, oSub, oIt, b_toksB, ix_tx hg (Nat.le_of_lt hl), he1, he2]
    obtain ⟨o5', o6', e⟩ := ih (cs := cs) (i := i) (S := S) (acc := acc) (some (.str (tx [32]))) o6 (by rw [hc]; simp [mSeq, mSet, mRet, mBin, mCall, lCons, lNil, mVar, mC, mIfS, mCmp, mAndB, mOrB, mNotB, mTru, mIf, mAnd, mOr, mPass, mExpr, mBM, mAug, mAsg, gN, gT, gsC, gsN, mFn, mTup, mSl, oSome, mUn, mFor, mIt, mRng1, bLen, lenD, oLt, oLe, oGt, oGe, oAppend, oFind, hasTy, mDef, endOf, oIAdd, oSub, oIt]) hl hS (by simp [mSeq, mSet, mRet, mBin, mCall, lCons, lNil, mVar, mC, mIfS, mCmp, mAndB, mOrB, mNotB, mTru, mIf, mAnd, mOr, mPass, mExpr, mBM, mAug, mAsg, gN, gT, gsC, gsN, mFn, mTup, mSl, oSome, mUn, mFor, mIt, mRng1, bLen, lenD, oLt, oLe, oGt, oGe, oAppend, oFind, hasTy, mDef, endOf, oIAdd, oSub, oIt]; omega)
    refine ⟨o5', o6', ?_⟩
    rw [mWhile_eq, hC]
    simp only [R.bind_ok, if_true, hB, e]
  | @com pre rest ts body hb hr h ih =>
    intro cs i S acc o5 o6 hc hl hS ha
    have hg : cs[pre.length]? = some 35 := by rw [hc]; simp [mSeq, mSet, mRet, mBin, mCall, lCons, lNil, mVar, mC, mIfS, mCmp, mAndB, mOrB, mNotB, mTru, mIf, mAnd, mOr, mPass, mExpr, mBM, mAug, mAsg, gN, gT, gsC, gsN, mFn, mTup, mSl, oSome, mUn, mFor, mIt, mRng1, bLen, lenD, oLt, oLe, oGt, oGe, oAppend, oFind, hasTy, mDef, endOf, oIAdd, oSub, oIt]
    have hlt : (pre.length : Int) < (cs.length : Int) := by rw [hc]; simp [mSeq, mSet, mRet, mBin, mCall, lCons, lNil, mVar, mC, mIfS, mCmp, mAndB, mOrB, mNotB, mTru, mIf, mAnd, mOr, mPass, mExpr, mBM, mAug, mAsg, gN, gT, gsC, gsN, mFn, mTup, mSl, oSome, mUn, mFor, mIt, mRng1, bLen, lenD, oLt, oLe, oGt, oGe, oAppend, oFind, hasTy, mDef, endOf, oIAdd, oSub, oIt]; omega
    have hC : b_toksC [some (.str (tx cs)), some (.ref i), some (.int (pre.length : Int)), some (rowD pre), some (begD pre), o5, o6] S = .ok true S := by
      simp [mSeq, mSet, mRet, mBin, mCall, lCons, lNil, mVar, mC, mIfS, mCmp, mAndB, mOrB, mNotB, mTru, mIf, mAnd, mOr, mPass, mExpr, mBM, mAug, mAsg, gN, gT, gsC, gsN, mFn, mTup, mSl, oSome, mUn, mFor, mIt, mRng1, lenD, oLt, oLe, oGt, oGe, oAppend, oFind, hasTy, mDef, endOf, oIAdd, oSub, oIt, b_toksC, len_tx (Nat.le_of_lt hl), hlt]
    have he1 : oEq (.str (tx [35])) (.str "\n") S = .ok (.bl false) S := by rw [spS.1]; simp [mSeq, mSet, mRet, mBin, mCall, lCons, lNil, mVar, mC, mIfS, mCmp, mAndB, mOrB, mNotB, mTru, mIf, mAnd, mOr, mPass, mExpr, mBM, mAug, mAsg, gN, gT, gsC, gsN, mFn, mTup, mSl, oSome, mUn, mFor, mIt, mRng1, bLen, lenD, oLt, oLe, oGt, oGe, oAppend, oFind, hasTy, mDef, endOf, oIAdd, oSub, oIt, oEq, cEqD, cEqS]
    have he2 : oEq (.str (tx [35])) (.str " ") S = .ok (.bl false) S := by rw [spS.2.1]; simp [mSeq, mSet, mRet, mBin, mCall, lCons, lNil, mVar, mC, mIfS, mCmp, mAndB, mOrB, mNotB, mTru, mIf, mAnd, mOr, mPass, mExpr, mBM, mAug, mAsg, gN, gT, gsC, gsN, mFn, mTup, mSl, oSome, mUn, mFor, mIt, mRng1, bLen, lenD, oLt, oLe, oGt, oGe, oAppend, oFind, hasTy, mDef, endOf, oIAdd, oSub, oIt, oEq, cEqD, cEqS]
    have he3 : oEq (.str (tx [35])) (.str "#") S = .ok (.bl true) S := by rw [spS.2.2.1]; simp [mSeq, mSet, mRet, mBin, mCall, lCons, lNil, mVar, mC, mIfS, mCmp, mAndB, mOrB, mNotB, mTru, mIf, mAnd, mOr, mPass, mExpr, mBM, mAug, mAsg, gN, gT, gsC, gsN, mFn, mTup, mSl, oSome, mUn, mFor, mIt, mRng1, bLen, lenD, oLt, oLe, oGt, oGe, oAppend, oFind, hasTy, mDef, endOf, oIAdd, oSub, oIt, oEq, cEqD, cEqS]
    have hb' : 10 ∉ 35 :: body := by simp [mSeq, mSet, mRet, mBin, mCall, lCons, lNil, mVar, mC, mIfS, mCmp, mAndB, mOrB, mNotB, mTru, mIf, mAnd, mOr, mPass, mExpr, mBM, mAug, mAsg, gN, gT, gsC, gsN, mFn, mTup, mSl, oSome, mUn, mFor, mIt, mRng1, bLen, lenD, oLt, oLe, oGt, oGe, oAppend, oFind, hasTy, mDef, endOf, oIAdd, oSub, oIt, hb]
    have hm : mDef 2 1 b_comment [.str (tx cs), .int (pre.length : Int)] S = .ok (.int ((pre ++ 35 :: body).length : Int)) S := by
      have hc2 : cs = pre ++ (35 :: body) ++ rest := by rw [hc]; simp [mSeq, mSet, mRet, mBin, mCall, lCons, lNil, mVar, mC, mIfS, mCmp, mAndB, mOrB, mNotB, mTru, mIf, mAnd, mOr, mPass, mExpr, mBM, mAug, mAsg, gN, gT, gsC, gsN, mFn, mTup, mSl, oSome, mUn, mFor, mIt, mRng1, bLen, lenD, oLt, oLe, oGt, oGe, oAppend, oFind, hasTy, mDef, endOf, oIAdd, oSub, oIt]
      have := comment_ok (pre := pre) (body := 35 :: body) (rest := rest) (S := S) (by rw [← hc2]; exact Nat.le_of_lt hl) hb' hr
      rw [← hc2] at this
      rw [this]; simp [mSeq, mSet, mRet, mBin, mCall, lCons, lNil, mVar, mC, mIfS, mCmp, mAndB, mOrB, mNotB, mTru, mIf, mAnd, mOr, mPass, mExpr, mBM, mAug, mAsg, gN, gT, gsC, gsN, mFn, mTup, mSl, oSome, mUn, mFor, mIt, mRng1, bLen, lenD, oLt, oLe, oGt, oGe, oAppend, oFind, hasTy, mDef, endOf, oIAdd, oSub, oIt]
    have hB : b_toksB r1 r2 [some (.str (tx cs)), some (.ref i), some (.int (pre.length : Int)), some (rowD pre), some (begD pre), o5, o6] S = .ok (.nx [some (.str (tx cs)), some (.ref i), some (.int ((pre ++ 35 :: body).length : Int)), some (rowD (pre ++ 35 :: body)), some (begD (pre ++ 35 :: body)), some (.str (tx [35])), o6]) S := by
      rw [row_no hb', beg_no hb']
      simp only [b_toksB, mSeq, mSet, mBin, mVar, List.getElem?_cons_zero, List.getElem?_cons_succ, R.bind_ok, ix_tx hg (Nat.le_of_lt hl), List.set_cons_succ, List.set_cons_zero, mIfS, mCmp, mC, he1, he2, he3, Bool.false_eq_true, if_false, if_true, mFn, lCons, lNil, hm, R.at_ok]
    obtain ⟨o5', o6', e⟩ := ih (cs := cs) (i := i) (S := S) (acc := acc) (some (.str (tx [35]))) o6 (by rw [hc]; simp [mSeq, mSet, mRet, mBin, mCall, lCons, lNil, mVar, mC, mIfS, mCmp, mAndB, mOrB, mNotB, mTru, mIf, mAnd, mOr, mPass, mExpr, mBM, mAug, mAsg, gN, gT, gsC, gsN, mFn, mTup, mSl, oSome, mUn, mFor, mIt, mRng1, bLen, lenD, oLt, oLe, oGt, oGe, oAppend, oFind, hasTy, mDef, endOf, oIAdd, oSub, oIt]) hl hS (by simp [mSeq, mSet, mRet, mBin, mCall, lCons, lNil, mVar, mC, mIfS, mCmp, mAndB, mOrB, mNotB, mTru, mIf, mAnd, mOr, mPass, mExpr, mBM, mAug, mAsg, gN, gT, gsC, gsN, mFn, mTup, mSl, oSome, mUn, mFor, mIt, mRng1, bLen, lenD, oLt, oLe, oGt, oGe, oAppend, oFind, hasTy, mDef, endOf, oIAdd, oSub, oIt]; omega)
    refine ⟨o5', o6', ?_⟩
    rw [mWhile_eq, hC]
    simp only [R.bind_ok, if_true, hB, e]
  | @tok pre rest w kind ts hs hb h ih =>
    intro cs i S acc o5 o6 hc hl hS ha
    have hno := tokS_no hs
    have h10 : 10 ∉ w := fun m => (hno 10 m).1 rfl
    have hlw : w.length ≤ sizeLine := by
      have : cs.length = pre.length + (w.length + rest.length) := by rw [hc]; simp [mSeq, mSet, mRet, mBin, mCall, lCons, lNil, mVar, mC, mIfS, mCmp, mAndB, mOrB, mNotB, mTru, mIf, mAnd, mOr, mPass, mExpr, mBM, mAug, mAsg, gN, gT, gsC, gsN, mFn, mTup, mSl, oSome, mUn, mFor, mIt, mRng1, bLen, lenD, oLt, oLe, oGt, oGe, oAppend, oFind, hasTy, mDef, endOf, oIAdd, oSub, oIt]
      omega
    have hwp : 0 < w.length := by
      cases w with
      | nil => cases hs
      | cons => simp [mSeq, mSet, mRet, mBin, mCall, lCons, lNil, mVar, mC, mIfS, mCmp, mAndB, mOrB, mNotB, mTru, mIf, mAnd, mOr, mPass, mExpr, mBM, mAug, mAsg, gN, gT, gsC, gsN, mFn, mTup, mSl, oSome, mUn, mFor, mIt, mRng1, bLen, lenD, oLt, oLe, oGt, oGe, oAppend, oFind, hasTy, mDef, endOf, oIAdd, oSub, oIt]
    have hlt : (pre.length : Int) < (cs.length : Int) := by rw [hc]; simp [mSeq, mSet, mRet, mBin, mCall, lCons, lNil, mVar, mC, mIfS, mCmp, mAndB, mOrB, mNotB, mTru, mIf, mAnd, mOr, mPass, mExpr, mBM, mAug, mAsg, gN, gT, gsC, gsN, mFn, mTup, mSl, oSome, mUn, mFor, mIt, mRng1, bLen, lenD, oLt, oLe, oGt, oGe, oAppend, oFind, hasTy, mDef, endOf, oIAdd, oSub, oIt]; omega
    have hC : b_toksC [some (.str (tx cs)), some (.ref i), some (.int (pre.length : Int)), some (rowD pre), some (begD pre), o5, o6] S = .ok true S := by
      simp [mSeq, mSet, mRet, mBin, mCall, lCons, lNil, mVar, mC, mIfS, mCmp, mAndB, mOrB, mNotB, mTru, mIf, mAnd, mOr, mPass, mExpr, mBM, mAug, mAsg, gN, gT, gsC, gsN, mFn, mTup, mSl, oSome, mUn, mFor, mIt, mRng1, lenD, oLt, oLe, oGt, oGe, oAppend, oFind, hasTy, mDef, endOf, oIAdd, oSub, oIt, b_toksC, len_tx (Nat.le_of_lt hl), hlt]
    have hm : ∀ (r c : D), mDef 4 4 (b_token r1 r2) [.str (tx cs), .int (pre.length : Int), r, c] S = .ok (.tup [.str kind, .str (tx w), r, c]) S := by
      intro r c
      have hc2 : cs = pre ++ w ++ rest := by rw [hc]; simp [mSeq, mSet, mRet, mBin, mCall, lCons, lNil, mVar, mC, mIfS, mCmp, mAndB, mOrB, mNotB, mTru, mIf, mAnd, mOr, mPass, mExpr, mBM, mAug, mAsg, gN, gT, gsC, gsN, mFn, mTup, mSl, oSome, mUn, mFor, mIt, mRng1, bLen, lenD, oLt, oLe, oGt, oGe, oAppend, oFind, hasTy, mDef, endOf, oIAdd, oSub, oIt]
      rw [hc2]
      exact token_ok (by rw [← hc2]; exact Nat.le_of_lt hl) hs hb
    obtain ⟨x, v, hxv⟩ : ∃ x v, w = x :: v := by
      cases w with
      | nil => simp at hwp
      | cons x v => exact ⟨x, v, rfl⟩
    have hg : cs[pre.length]? = some x := by rw [hc, hxv]; simp [mSeq, mSet, mRet, mBin, mCall, lCons, lNil, mVar, mC, mIfS, mCmp, mAndB, mOrB, mNotB, mTru, mIf, mAnd, mOr, mPass, mExpr, mBM, mAug, mAsg, gN, gT, gsC, gsN, mFn, mTup, mSl, oSome, mUn, mFor, mIt, mRng1, bLen, lenD, oLt, oLe, oGt, oGe, oAppend, oFind, hasTy, mDef, endOf, oIAdd, oSub, oIt]
    have hx := hno x (by rw [hxv]; simp [mSeq, mSet, mRet, mBin, mCall, lCons, lNil, mVar, mC, mIfS, mCmp, mAndB, mOrB, mNotB, mTru, mIf, mAnd, mOr, mPass, mExpr, mBM, mAug, mAsg, gN, gT, gsC, gsN, mFn, mTup, mSl, oSome, mUn, mFor, mIt, mRng1, bLen, lenD, oLt, oLe, oGt, oGe, oAppend, oFind, hasTy, mDef, endOf, oIAdd, oSub, oIt])
    have he1 : oEq (.str (tx [x])) (.str "\n") S = .ok (.bl false) S := by rw [spS.1]; simp [mSeq, mSet, mRet, mBin, mCall, lCons, lNil, mVar, mC, mIfS, mCmp, mAndB, mOrB, mNotB, mTru, mIf, mAnd, mOr, mPass, mExpr, mBM, mAug, mAsg, gN, gT, gsC, gsN, mFn, mTup, mSl, oSome, mUn, mFor, mIt, mRng1, bLen, lenD, oLt, oLe, oGt, oGe, oAppend, oFind, hasTy, mDef, endOf, oIAdd, oSub, oIt, oEq, cEqD, cEqS, hx.1]
    have he2 : oEq (.str (tx [x])) (.str " ") S = .ok (.bl false) S := by rw [spS.2.1]; simp [mSeq, mSet, mRet, mBin, mCall, lCons, lNil, mVar, mC, mIfS, mCmp, mAndB, mOrB, mNotB, mTru, mIf, mAnd, mOr, mPass, mExpr, mBM, mAug, mAsg, gN, gT, gsC, gsN, mFn, mTup, mSl, oSome, mUn, mFor, mIt, mRng1, bLen, lenD, oLt, oLe, oGt, oGe, oAppend, oFind, hasTy, mDef, endOf, oIAdd, oSub, oIt, oEq, cEqD, cEqS, hx.2.1]
    have he3 : oEq (.str (tx [x])) (.str "#") S = .ok (.bl false) S := by rw [spS.2.2.1]; simp [mSeq, mSet, mRet, mBin, mCall, lCons, lNil, mVar, mC, mIfS, mCmp, mAndB, mOrB, mNotB, mTru, mIf, mAnd, mOr, mPass, mExpr, mBM, mAug, mAsg, gN, gT, gsC, gsN, mFn, mTup, mSl, oSome, mUn, mFor, mIt, mRng1, bLen, lenD, oLt, oLe, oGt, oGe, oAppend, oFind, hasTy, mDef, endOf, oIAdd, oSub, oIt, oEq, cEqD, cEqS, hx.2.2]
    have hsz : acc.length < sizeLine := by
      have : cs.length = pre.length + (w.length + rest.length) := by rw [hc]; simp [mSeq, mSet, mRet, mBin, mCall, lCons, lNil, mVar, mC, mIfS, mCmp, mAndB, mOrB, mNotB, mTru, mIf, mAnd, mOr, mPass, mExpr, mBM, mAug, mAsg, gN, gT, gsC, gsN, mFn, mTup, mSl, oSome, mUn, mFor, mIt, mRng1, bLen, lenD, oLt, oLe, oGt, oGe, oAppend, oFind, hasTy, mDef, endOf, oIAdd, oSub, oIt]
      omega
    have hlen : ∀ S, bLen [.str (tx w)] S = .ok (.int (w.length : Int)) S := fun S => len_tx hlw
    have hat : ∀ (a b c d : D) S, oIx (.tup [a, b, c, d]) (.int 1) S = .ok b S := fun a b c d S => rfl
    have hB : b_toksB r1 r2 [some (.str (tx cs)), some (.ref i), some (.int (pre.length : Int)), some (rowD pre), some (begD pre), o5, o6] S = .ok (.nx [some (.str (tx cs)), some (.ref i), some (.int ((pre ++ w).length : Int)), some (rowD (pre ++ w)), some (begD (pre ++ w)), some (.str (tx [x])), some (tokD kind w pre)]) (S.set i (.lst (acc ++ [tokD kind w pre]))) := by
      rw [row_no h10, beg_no h10]
      have hcol : (begD pre) = .int (behC 10 pre 0 0 : Int) := rfl
      rw [hcol]
      simp only [b_toksB, mSeq, mSet, mBin, mVar, List.getElem?_cons_zero, List.getElem?_cons_succ, R.bind_ok, ix_tx hg (Nat.le_of_lt hl), List.set_cons_succ, List.set_cons_zero, mIfS, mCmp, mC, he1, he2, he3, Bool.false_eq_true, if_false, mFn, lCons, lNil, oSub, oAdd, hm, R.at_ok, mExpr, mBM, hasTy, hS, decide_true, if_true, oAppend, hsz, mAug, mCall, hat, hlen, oIAdd]
      simp [mSeq, mSet, mRet, mBin, mCall, lCons, lNil, mVar, mC, mIfS, mCmp, mAndB, mOrB, mNotB, mTru, mIf, mAnd, mOr, mPass, mExpr, mBM, mAug, mAsg, gN, gT, gsC, gsN, mFn, mTup, mSl, oSome, mUn, mFor, mIt, mRng1, bLen, lenD, oLt, oLe, oGt, oGe, oAppend, oFind, hasTy, mDef, endOf, oIAdd, oSub, oIt, tokD, colD]
    obtain ⟨o5', o6', e⟩ := ih (cs := cs) (i := i) (S := S.set i (.lst (acc ++ [tokD kind w pre]))) (acc := acc ++ [tokD kind w pre]) (some (.str (tx [x]))) (some (tokD kind w pre)) (by rw [hc]; simp [mSeq, mSet, mRet, mBin, mCall, lCons, lNil, mVar, mC, mIfS, mCmp, mAndB, mOrB, mNotB, mTru, mIf, mAnd, mOr, mPass, mExpr, mBM, mAug, mAsg, gN, gT, gsC, gsN, mFn, mTup, mSl, oSome, mUn, mFor, mIt, mRng1, bLen, lenD, oLt, oLe, oGt, oGe, oAppend, oFind, hasTy, mDef, endOf, oIAdd, oSub, oIt]) hl (get_put hS) (by simp [mSeq, mSet, mRet, mBin, mCall, lCons, lNil, mVar, mC, mIfS, mCmp, mAndB, mOrB, mNotB, mTru, mIf, mAnd, mOr, mPass, mExpr, mBM, mAug, mAsg, gN, gT, gsC, gsN, mFn, mTup, mSl, oSome, mUn, mFor, mIt, mRng1, bLen, lenD, oLt, oLe, oGt, oGe, oAppend, oFind, hasTy, mDef, endOf, oIAdd, oSub, oIt]; omega)
    refine ⟨o5', o6', ?_⟩
    rw [mWhile_eq, hC]
    simp only [R.bind_ok, if_true, hB, e, List.set_set, List.append_assoc, List.singleton_append]
def endD (cs : List Nat) : D := .tup [.str "end", .str "", rowD cs, colD cs]
theorem toks_ok {r1 r2 : MS} {cs : List Nat} {ts : List D} (h : Lx [] cs ts) (hl : cs.length < sizeLine) (S : Hs) : mDef 1 6 (b_toks r1 r2) [.str (tx cs)] S = .ok (.ref S.length) (S ++ [.lst (ts ++ [endD cs])]) := by
  obtain ⟨o5', o6', e⟩ := toks_loop (r1 := r1) (r2 := r2) h (cs := cs) (i := S.length) (S := S ++ [.lst []]) (acc := []) none none rfl hl get_end (Nat.zero_le _)
  rw [set_end, List.nil_append] at e
  have hts : ts.length < sizeLine := Nat.lt_of_le_of_lt h.len hl
  have e0 : mWhile b_toksC (b_toksB r1 r2) [some (.str (tx cs)), some (.ref S.length), some (.int 0), some (.int 1), some (.int 0), none, none] (S ++ [.lst []]) = .ok (.nx [some (.str (tx cs)), some (.ref S.length), some (.int (cs.length : Int)), some (rowD cs), some (begD cs), o5', o6']) (S ++ [.lst ts]) := e
  have hd : mDef 1 6 (b_toks r1 r2) [.str (tx cs)] S = endOf (b_toks r1 r2 [some (.str (tx cs)), none, none, none, none, none, none] S) := rfl
  have hcol : (begD cs) = .int (behC 10 cs 0 0 : Int) := rfl
  rw [hcol] at e0
  rw [hd]
  simp only [b_toks, mSeq, mSet, mLst_nil, R.bind_ok, List.set_cons_succ, List.set_cons_zero, mC, e0, mExpr, mBM, mVar, List.getElem?_cons_zero, List.getElem?_cons_succ, hasTy, get_end, decide_true, if_true, lCons, lNil, mTup, mBin, oSub, oAdd, oAppend, hts, List.length_cons, List.length_nil, show (4 : Nat) ≤ sizeLine by decide, show (0 + 1 + 1 + 1 + 1 : Nat) ≤ sizeLine by decide, set_end, mRet, endOf]
  rfl
/-! #### texts that are built from left to right -/
def Skip (s : List Nat) : Prop := ∀ pre rest ts, Lx (pre ++ s) rest ts → Lx pre (s ++ rest) ts
def skB : Bool → List Nat → Bool
  | b, [] => !b
  | false, c :: r => if c = 10 ∨ c = 32 then skB false r else if c = 35 then skB true r else false
  | true, c :: r => if c = 10 then skB false r else skB true r
theorem skip_of : ∀ (s : List Nat), (skB false s = true → Skip s) ∧ (skB true s = true → ∀ body, 10 ∉ body → Skip (35 :: body ++ s))
  | [] => ⟨fun _ pre rest ts h => by simpa using h, fun h => by simp [skB] at h⟩
  | c :: r => by
    obtain ⟨h1, h2⟩ := skip_of r
    refine ⟨fun h pre rest ts hx => ?_, fun h body hb pre rest ts hx => ?_⟩
    · simp only [skB] at h
      split at h
      · rename_i hc
        have := h1 h (pre ++ [c]) rest ts (by simpa using hx)
        rcases hc with rfl | rfl
        · exact Lx.nl this
        · exact Lx.sp this
      · split at h
        · rename_i hc
          subst hc
          exact h2 h [] (by simp [mSeq, mSet, mRet, mBin, mCall, lCons, lNil, mVar, mC, mIfS, mCmp, mAndB, mOrB, mNotB, mTru, mIf, mAnd, mOr, mPass, mExpr, mBM, mAug, mAsg, gN, gT, gsC, gsN, mFn, mTup, mSl, oSome, mUn, mFor, mIt, mRng1, bLen, lenD, oLt, oLe, oGt, oGe, oAppend, oFind, hasTy, mDef, endOf, oIAdd, oSub, oIt]) pre rest ts (by simpa using hx)
        · cases h
    · simp only [skB] at h
      split at h
      · rename_i hc
        subst hc
        have h3 := h1 h (pre ++ 35 :: body ++ [10]) rest ts (by simpa using hx)
        have h4 := Lx.com (pre := pre) (body := body) (rest := 10 :: (r ++ rest)) hb (.inr rfl) (Lx.nl h3)
        simpa using h4
      · rename_i hc
        have := h2 h (body ++ [c]) (by simp [mSeq, mSet, mRet, mBin, mCall, lCons, lNil, mVar, mC, mIfS, mCmp, mAndB, mOrB, mNotB, mTru, mIf, mAnd, mOr, mPass, mExpr, mBM, mAug, mAsg, gN, gT, gsC, gsN, mFn, mTup, mSl, oSome, mUn, mFor, mIt, mRng1, bLen, lenD, oLt, oLe, oGt, oGe, oAppend, oFind, hasTy, mDef, endOf, oIAdd, oSub, oIt, hb]; omega) pre rest ts (by simpa using hx)
        simpa using this
/-- what may stand at the end of a text -/
def skE : Bool → List Nat → Bool
  | _, [] => true
  | false, c :: r => if c = 10 ∨ c = 32 then skE false r else if c = 35 then skE true r else false
  | true, c :: r => if c = 10 then skE false r else skE true r
theorem tail_of : ∀ (s : List Nat), (skE false s = true → ∀ pre, Lx pre s []) ∧ (skE true s = true → ∀ body pre, 10 ∉ body → Lx pre (35 :: body ++ s) [])
  | [] => ⟨fun _ pre => .done, fun _ body pre hb => Lx.com hb (.inl rfl) .done⟩
  | c :: r => by
    obtain ⟨h1, h2⟩ := tail_of r
    refine ⟨fun h pre => ?_, fun h body pre hb => ?_⟩
    · simp only [skE] at h
      split at h
      · rename_i hc
        rcases hc with rfl | rfl
        · exact Lx.nl (h1 h _)
        · exact Lx.sp (h1 h _)
      · split at h
        · rename_i hc
          subst hc
          exact h2 h [] pre (by simp [mSeq, mSet, mRet, mBin, mCall, lCons, lNil, mVar, mC, mIfS, mCmp, mAndB, mOrB, mNotB, mTru, mIf, mAnd, mOr, mPass, mExpr, mBM, mAug, mAsg, gN, gT, gsC, gsN, mFn, mTup, mSl, oSome, mUn, mFor, mIt, mRng1, bLen, lenD, oLt, oLe, oGt, oGe, oAppend, oFind, hasTy, mDef, endOf, oIAdd, oSub, oIt])
        · cases h
    · simp only [skE] at h
      split at h
      · rename_i hc
        subst hc
        exact Lx.com (pre := pre) (body := body) (rest := 10 :: r) hb (.inr rfl) (Lx.nl (h1 h _))
      · have := h2 h (body ++ [c]) pre (by simp [mSeq, mSet, mRet, mBin, mCall, lCons, lNil, mVar, mC, mIfS, mCmp, mAndB, mOrB, mNotB, mTru, mIf, mAnd, mOr, mPass, mExpr, mBM, mAug, mAsg, gN, gT, gsC, gsN, mFn, mTup, mSl, oSome, mUn, mFor, mIt, mRng1, bLen, lenD, oLt, oLe, oGt, oGe, oAppend, oFind, hasTy, mDef, endOf, oIAdd, oSub, oIt, hb]; omega)
        simpa using this
theorem bnd_blank {kind : Str} {w : List Nat} (h : tokS kind w = true) {nx : Option Nat} (hn : ∀ c, nx = some c → c = 10 ∨ c = 32 ∨ c = 35) : bnd w nx = true := by
  cases w with
  | nil => cases h
  | cons x v =>
    simp only [bnd]
    split
    · cases nx with
      | none => rfl
      | some c =>
        simp only [Option.all_some, Bool.not_eq_true']
        cases e : isWs c with
        | false => rfl
        | true =>
          have := ws_no e
          have := hn c rfl
          omega
    · cases nx with
      | none =>
        cases e : longL.any (fun z => z == tx (x :: (none : Option Nat).toList)) with
        | false => simp [mSeq, mSet, mRet, mBin, mCall, lCons, lNil, mVar, mC, mIfS, mCmp, mAndB, mOrB, mNotB, mTru, mIf, mAnd, mOr, mPass, mExpr, mBM, mAug, mAsg, gN, gT, gsC, gsN, mFn, mTup, mSl, oSome, mUn, mFor, mIt, mRng1, bLen, lenD, oLt, oLe, oGt, oGe, oAppend, oFind, hasTy, mDef, endOf, oIAdd, oSub, oIt]
        | true =>
          have := long2 e
          simp [mSeq, mSet, mRet, mBin, mCall, lCons, lNil, mVar, mC, mIfS, mCmp, mAndB, mOrB, mNotB, mTru, mIf, mAnd, mOr, mPass, mExpr, mBM, mAug, mAsg, gN, gT, gsC, gsN, mFn, mTup, mSl, oSome, mUn, mFor, mIt, mRng1, bLen, lenD, oLt, oLe, oGt, oGe, oAppend, oFind, hasTy, mDef, endOf, oIAdd, oSub, oIt] at this
      | some c =>
        cases e : longL.any (fun z => z == tx (x :: (some c).toList)) with
        | false => simp [mSeq, mSet, mRet, mBin, mCall, lCons, lNil, mVar, mC, mIfS, mCmp, mAndB, mOrB, mNotB, mTru, mIf, mAnd, mOr, mPass, mExpr, mBM, mAug, mAsg, gN, gT, gsC, gsN, mFn, mTup, mSl, oSome, mUn, mFor, mIt, mRng1, bLen, lenD, oLt, oLe, oGt, oGe, oAppend, oFind, hasTy, mDef, endOf, oIAdd, oSub, oIt]
        | true =>
          rw [List.any_eq_true] at e
          obtain ⟨z, hz, e⟩ := e
          have e' : z = tx [x, c] := by simpa using e
          have := signs_no z (List.mem_append_left _ hz)
          rw [e', tx_list] at this
          simp only [List.all_cons, List.all_nil, Bool.and_eq_true, Bool.not_eq_true', beq_eq_false_iff_ne] at this
          have h2 := hn c rfl
          have h3 := this.2.1
          omega
theorem skB_head {s : List Nat} (h : skB false s = true) {c : Nat} (hc : s.head? = some c) : c = 10 ∨ c = 32 ∨ c = 35 := by
  cases s with
  | nil => cases hc
  | cons x r =>
    simp only [List.head?_cons, Option.some.injEq] at hc
    subst hc
    simp only [skB] at h
    split at h
    · omega
    · split at h
      · omega
      · cases h
theorem skE_head {s : List Nat} (h : skE false s = true) {c : Nat} (hc : s.head? = some c) : c = 10 ∨ c = 32 ∨ c = 35 := by
  cases s with
  | nil => cases hc
  | cons x r =>
    simp only [List.head?_cons, Option.some.injEq] at hc
    subst hc
    simp only [skE] at h
    split at h
    · omega
    · split at h
      · omega
      · cases h
/-- a text, its tokens, and its last token: it may go on with all that the last one does not join -/
def Built (text : List Nat) (due : List D) (last : List Nat) : Prop := ∀ rest ts, bnd last rest.head? = true → Lx text rest ts → Lx [] (text ++ rest) (due ++ ts)
theorem Built.step {text last s w : List Nat} {due : List D} {kind : Str} (h : Built text due last) (hs : skB false s = true) (hw : tokS kind w = true) (hb : bnd last (s ++ w).head? = true) : Built (text ++ s ++ w) (due ++ [tokD kind w (text ++ s)]) w := by
  intro rest ts hr hx
  have h1 : Lx (text ++ s) (w ++ rest) (tokD kind w (text ++ s) :: ts) := Lx.tok hw hr hx
  have h2 := (skip_of s).1 hs _ _ _ h1
  have hne : s ++ w ≠ [] := by
    cases w with
    | nil => cases hw
    | cons => simp [mSeq, mSet, mRet, mBin, mCall, lCons, lNil, mVar, mC, mIfS, mCmp, mAndB, mOrB, mNotB, mTru, mIf, mAnd, mOr, mPass, mExpr, mBM, mAug, mAsg, gN, gT, gsC, gsN, mFn, mTup, mSl, oSome, mUn, mFor, mIt, mRng1, bLen, lenD, oLt, oLe, oGt, oGe, oAppend, oFind, hasTy, mDef, endOf, oIAdd, oSub, oIt]
  have hh : (s ++ (w ++ rest)).head? = (s ++ w).head? := by
    rw [← List.append_assoc]
    cases e : s ++ w with
    | nil => exact absurd e hne
    | cons => rfl
  have := h _ _ (by rw [hh]; exact hb) h2
  simpa using this
theorem Built.first {s : List Nat} (hs : skB false s = true) (last : List Nat) : Built s [] last := by
  intro rest ts _ hx
  have := (skip_of s).1 hs [] rest ts (by simpa using hx)
  simpa using this
theorem Built.all {text last tail : List Nat} {due : List D} {kind : Str} (h : Built text due last) (hb : bnd last tail.head? = true) (ht : skE false tail = true) : Lx [] (text ++ tail) due := by
  have := h tail [] hb ((tail_of tail).1 ht _)
  simpa using this
end
end Ly
set_option Elab.async false
set_option linter.all false
set_option maxRecDepth 100000
namespace GK00
open PySem PySem.Spec L2 Ly
open PyProof.Rows hiding St
def d_WORD_SIGNS : D := (.str "_0123456789abcdefghijklmnopqrstuvwxyzABCDEFGHIJKLMNOPQRSTUVWXYZ")
def d_MOST_DIGITS : D := (.int 10)
def d_DIGITS : D := (.str "0123456789")
def d_GREATEST_WORD : D := (.int 4294967295)
def d_LETTERS : D := (.str "abcdefghijklmnopqrstuvwxyzABCDEFGHIJKLMNOPQRSTUVWXYZ")
def d_KEYWORDS : D := (.wt [(.str "public"), (.str "secret"), (.str "array"), (.str "fn"), (.str "main"), (.str "return"), (.str "if"), (.str "else"), (.str "for"), (.str "to"), (.str "max"), (.str "out"), (.str "div"), (.str "mod")])
def d_LONG_SIGNS : D := (.wt [(.str "<="), (.str "<<"), (.str ">>"), (.str "==")])
def d_SHORT_SIGNS : D := (.wt [(.str "{"), (.str "}"), (.str "("), (.str ")"), (.str "["), (.str "]"), (.str ","), (.str ";"), (.str "="), (.str "+"), (.str "-"), (.str "*"), (.str "&"), (.str "|"), (.str "^"), (.str "!"), (.str "?"), (.str ":"), (.str "<")])
noncomputable def b__law_mix : MS := (mSeq (mSet 2 (mBin oMod (mCall bInt (lCons (mBin oAdd (mBin oAdd (mBin oMul (mVar 0) (mC (.int 48271))) (mBin oMul (mVar 1) (mC (.int 69621)))) (mC (.int 11))) lNil)) (mC (.int 2147483647))))
    (mRet (mBin oMod (mBin oMod (mCall bInt (lCons (mBin oAdd (mBin oAdd (mBin oAdd (mBin oMul (mVar 2) (mVar 2)) (mBin oMul (mVar 0) (mC (.int 40692)))) (mBin oMul (mVar 1) (mC (.int 7)))) (mC (.int 3))) lNil)) (mC (.int 1000003))) (mC (.int 1000)))))
noncomputable def m__law_mix : MD := mDef 2 1 b__law_mix
theorem len__law_mix (ds : List D) (S : Hs) (h : ds.length ≠ 2) : S_mix ds S = .bad := len_mix ds S h
noncomputable def lb__law_stream_0 : MS := (mIfS (mAndB (mCmp oGt (mVar 4) (mC (.int 0))) (mCmp oLt (mCall bLen (lCons (mVar 2) lNil)) (mVar 1))) (mSeq (mExpr (mBM "list" oAppend (mVar 2) (lCons (mBin oMod (mCall bInt (lCons (mVar 4) lNil)) (mC (.int 1000))) lNil)))
    (mSet 4 (mBin oFdiv (mVar 4) (mC (.int 1000))))) mPass)
noncomputable def lb__law_stream_1 : MS := (mIfS (mCmp oLt (mCall bLen (lCons (mVar 2) lNil)) (mVar 1)) (mExpr (mBM "list" oAppend (mVar 2) (lCons (mFn S_mix (lCons (mVar 4) (lCons (mBin oAdd (mBin oMul (mC (.int 64)) (mVar 5)) (mVar 3)) lNil))) lNil))) mPass)
noncomputable def lb__law_stream_2 : MS := (mSeq (mSet 4 (mBin oIx (mVar 0) (mVar 3)))
    (mIfS (mCmp oGe (mVar 4) (mBin oPow (mC (.int 10)) (mC (.int 18)))) (mFor (mRng1 (lCons (mC (.int 60)) lNil)) (gN 5) lb__law_stream_0) (mFor (mRng1 (lCons (mC (.int 3)) lNil)) (gN 5) lb__law_stream_1)))
noncomputable def b__law_stream : MS := (mSeq (mSet 2 (mLst lNil))
    (mSeq (mFor (mRng1 (lCons (mCall bMin (lCons (mCall bLen (lCons (mVar 0) lNil)) (lCons (mC (.int 63)) lNil))) lNil)) (gN 3) lb__law_stream_2)
    (mRet (mDisp (dpCons (mC (.str "row")) (mVar 2) (dpCons (mC (.str "at")) (mC (.int 0)) (dpCons (mC (.str "seed")) (mCall bLen (lCons (mVar 2) lNil)) dpNil)))))))
noncomputable def m__law_stream : MD := mDef 2 4 b__law_stream
theorem len__law_stream (ds : List D) (S : Hs) (h : ds.length ≠ 2) : m__law_stream ds S = .bad := mDef_len ds S h
noncomputable def b__comment_end : MS := (mSeq (mSet 2 (mBM "str" oFind (mVar 0) (lCons (mC (.str "\n")) (lCons (mVar 1) lNil))))
    (mRet (mIf (mCmp oLt (mVar 2) (mC (.int 0))) (mCall bLen (lCons (mVar 0) lNil)) (mVar 2))))
noncomputable def m__comment_end : MD := mDef 2 1 b__comment_end
theorem len__comment_end (ds : List D) (S : Hs) (h : ds.length ≠ 2) : m__comment_end ds S = .bad := mDef_len ds S h
noncomputable def c__word_0 : MB := (mAndB (mCmp oLt (mVar 2) (mCall bLen (lCons (mVar 0) lNil))) (mCmp oIn (mBin oIx (mVar 0) (mVar 2)) (mC d_WORD_SIGNS)))
noncomputable def lb__word_1 : MS := (mAug 2 oIAdd (mC (.int 1)))
noncomputable def b__word : MS := (mSeq (mSet 2 (mVar 1))
    (mSeq (mWhile c__word_0 lb__word_1)
    (mRet (mSl (mVar 0) (oSome (mVar 1)) (oSome (mVar 2))))))
noncomputable def m__word : MD := mDef 2 1 b__word
theorem len__word (ds : List D) (S : Hs) (h : ds.length ≠ 2) : m__word ds S = .bad := mDef_len ds S h
noncomputable def lb__is_number_0 : MS := (mIfS (mCmp oNotIn (mVar 1) (mC d_DIGITS)) (mRet (mC (.bl false))) mPass)
noncomputable def b__is_number : MS := (mSeq (mIfS (mOrB (mCmp oGt (mCall bLen (lCons (mVar 0) lNil)) (mC d_MOST_DIGITS)) (mAndB (mCmp oGt (mCall bLen (lCons (mVar 0) lNil)) (mC (.int 1))) (mCmp oEq (mBin oIx (mVar 0) (mC (.int 0))) (mC (.str "0"))))) (mRet (mC (.bl false))) mPass)
    (mSeq (mFor (mIt (mVar 0)) (gN 1) lb__is_number_0)
    (mRet (mBin oLe (mCall bInt (lCons (mVar 0) lNil)) (mC d_GREATEST_WORD)))))
noncomputable def m__is_number : MD := mDef 1 1 b__is_number
theorem len__is_number (ds : List D) (S : Hs) (h : ds.length ≠ 1) : m__is_number ds S = .bad := mDef_len ds S h
noncomputable def b__token : MS := (mSeq (mSet 4 (mBin oIx (mVar 0) (mVar 1)))
    (mSeq (mIfS (mCmp oIn (mVar 4) (mC d_LETTERS)) (mSeq (mSet 5 (mFn m__word (lCons (mVar 0) (lCons (mVar 1) lNil))))
    (mSeq (mSet 6 (mIf (mCmp oIn (mVar 5) (mC d_KEYWORDS)) (mC (.str "keyword")) (mC (.str "name"))))
    (mRet (mTup (lCons (mVar 6) (lCons (mVar 5) (lCons (mVar 2) (lCons (mVar 3) lNil)))))))) mPass)
    (mSeq (mIfS (mCmp oIn (mVar 4) (mC d_DIGITS)) (mSeq (mSet 5 (mFn m__word (lCons (mVar 0) (lCons (mVar 1) lNil))))
    (mSeq (mIfS (mNotB (mTru (mFn m__is_number (lCons (mVar 5) lNil)))) mBad mPass)
    (mRet (mTup (lCons (mC (.str "number")) (lCons (mVar 5) (lCons (mVar 2) (lCons (mVar 3) lNil)))))))) mPass)
    (mSeq (mSet 7 (mSl (mVar 0) (oSome (mVar 1)) (oSome (mBin oAdd (mVar 1) (mC (.int 2))))))
    (mSeq (mIfS (mCmp oIn (mVar 7) (mC d_LONG_SIGNS)) (mRet (mTup (lCons (mC (.str "sign")) (lCons (mVar 7) (lCons (mVar 2) (lCons (mVar 3) lNil)))))) mPass)
    (mSeq (mIfS (mCmp oIn (mVar 4) (mC d_SHORT_SIGNS)) (mRet (mTup (lCons (mC (.str "sign")) (lCons (mVar 4) (lCons (mVar 2) (lCons (mVar 3) lNil)))))) mPass)
    mBad))))))
noncomputable def m__token : MD := mDef 4 4 b__token
theorem len__token (ds : List D) (S : Hs) (h : ds.length ≠ 4) : m__token ds S = .bad := mDef_len ds S h
noncomputable def c_tokens_0 : MB := (mCmp oLt (mVar 2) (mCall bLen (lCons (mVar 0) lNil)))
noncomputable def lb_tokens_1 : MS := (mSeq (mSet 5 (mBin oIx (mVar 0) (mVar 2)))
    (mIfS (mCmp oEq (mVar 5) (mC (.str "\n"))) (mSeq (mAug 2 oIAdd (mC (.int 1)))
    (mSeq (mAug 3 oIAdd (mC (.int 1)))
    (mSet 4 (mVar 2)))) (mIfS (mCmp oEq (mVar 5) (mC (.str " "))) (mAug 2 oIAdd (mC (.int 1))) (mIfS (mCmp oEq (mVar 5) (mC (.str "#"))) (mSet 2 (mFn m__comment_end (lCons (mVar 0) (lCons (mVar 2) lNil)))) (mSeq (mSet 6 (mFn m__token (lCons (mVar 0) (lCons (mVar 2) (lCons (mVar 3) (lCons (mBin oAdd (mBin oSub (mVar 2) (mVar 4)) (mC (.int 1))) lNil))))))
    (mSeq (mExpr (mBM "list" oAppend (mVar 1) (lCons (mVar 6) lNil)))
    (mAug 2 oIAdd (mCall bLen (lCons (mBin oIx (mVar 6) (mC (.int 1))) lNil)))))))))
noncomputable def b_tokens : MS := (mSeq (mSet 1 (mLst lNil))
    (mSeq (mSet 2 (mC (.int 0)))
    (mSeq (mSet 3 (mC (.int 1)))
    (mSeq (mSet 4 (mC (.int 0)))
    (mSeq (mWhile c_tokens_0 lb_tokens_1)
    (mSeq (mExpr (mBM "list" oAppend (mVar 1) (lCons (mTup (lCons (mC (.str "end")) (lCons (mC (.str "")) (lCons (mVar 3) (lCons (mBin oAdd (mBin oSub (mVar 2) (mVar 4)) (mC (.int 1))) lNil))))) lNil)))
    (mRet (mVar 1))))))))
noncomputable def m_tokens : MD := mDef 1 6 b_tokens
theorem len_tokens (ds : List D) (S : Hs) (h : ds.length ≠ 1) : m_tokens ds S = .bad := mDef_len ds S h
noncomputable def b__law_pick : MS := (mSeq (mSet 2 (mBin oIx (mVar 0) (mC (.str "at"))))
    (mSeq (mAsg (mBin oAdd (mVar 2) (mC (.int 1))) (gSb (mVar 0) (mC (.str "at"))))
    (mSeq (mSet 3 (mFn S_mix (lCons (mBin oIx (mVar 0) (mC (.str "seed"))) (lCons (mVar 2) lNil))))
    (mSeq (mIfS (mCmp oLt (mVar 2) (mCall bLen (lCons (mBin oIx (mVar 0) (mC (.str "row"))) lNil))) (mSet 3 (mBin oIx (mBin oIx (mVar 0) (mC (.str "row"))) (mVar 2))) mPass)
    (mRet (mBin oMod (mCall bInt (lCons (mVar 3) lNil)) (mVar 1)))))))
noncomputable def m__law_pick : MD := mDef 2 2 b__law_pick
theorem len__law_pick (ds : List D) (S : Hs) (h : ds.length ≠ 2) : S_pick ds S = .bad := len_pick ds S h
noncomputable def b__law_keywords : MS := (mRet (mLst (lCons (mC (.str "public")) (lCons (mC (.str "secret")) (lCons (mC (.str "array")) (lCons (mC (.str "fn")) (lCons (mC (.str "main")) (lCons (mC (.str "return")) (lCons (mC (.str "if")) (lCons (mC (.str "else")) (lCons (mC (.str "for")) (lCons (mC (.str "to")) (lCons (mC (.str "max")) (lCons (mC (.str "out")) (lCons (mC (.str "div")) (lCons (mC (.str "mod")) lNil))))))))))))))))
noncomputable def m__law_keywords : MD := mDef 0 0 b__law_keywords
theorem len__law_keywords (ds : List D) (S : Hs) (h : ds.length ≠ 0) : m__law_keywords ds S = .bad := mDef_len ds S h
noncomputable def b__law_word : MS := (mSeq (mSet 1 (mFn S_pick (lCons (mVar 0) (lCons (mC (.int 9)) lNil))))
    (mSeq (mIfS (mCmp oLt (mVar 1) (mC (.int 2))) (mSeq (mSet 2 (mLst (lCons (mC (.str "a")) (lCons (mC (.str "X1")) (lCons (mC (.str "go_")) (lCons (mC (.str "a_b")) (lCons (mC (.str "tox")) (lCons (mC (.str "divs")) (lCons (mC (.str "outer")) (lCons (mC (.str "ifs")) (lCons (mC (.str "z9")) (lCons (mC (.str "Main")) (lCons (mC (.str "fn1")) (lCons (mC (.str "publi")) (lCons (mC (.str "Secret")) lNil)))))))))))))))
    (mRet (mTup (lCons (mC (.str "name")) (lCons (mBin oIx (mVar 2) (mFn S_pick (lCons (mVar 0) (lCons (mC (.int 13)) lNil)))) lNil))))) mPass)
    (mSeq (mIfS (mCmp oEq (mVar 1) (mC (.int 2))) (mRet (mTup (lCons (mC (.str "number")) (lCons (mBin oIx (mLst (lCons (mC (.str "0")) (lCons (mC (.str "7")) (lCons (mC (.str "10")) (lCons (mC (.str "4294967295")) (lCons (mC (.str "999999999")) (lCons (mC (.str "12345")) (lCons (mC (.str "90")) lNil)))))))) (mFn S_pick (lCons (mVar 0) (lCons (mC (.int 7)) lNil)))) lNil)))) mPass)
    (mSeq (mIfS (mCmp oLt (mVar 1) (mC (.int 6))) (mRet (mTup (lCons (mC (.str "keyword")) (lCons (mBin oIx (mFn m__law_keywords lNil) (mFn S_pick (lCons (mVar 0) (lCons (mC (.int 14)) lNil)))) lNil)))) mPass)
    (mSeq (mIfS (mCmp oEq (mVar 1) (mC (.int 6))) (mRet (mTup (lCons (mC (.str "sign")) (lCons (mBin oIx (mLst (lCons (mC (.str "=")) (lCons (mC (.str "<")) (lCons (mC (.str "<=")) (lCons (mC (.str "<<")) (lCons (mC (.str ">>")) (lCons (mC (.str "==")) (lCons (mC (.str "!")) lNil)))))))) (mFn S_pick (lCons (mVar 0) (lCons (mC (.int 7)) lNil)))) lNil)))) mPass)
    (mRet (mTup (lCons (mC (.str "sign")) (lCons (mBin oIx (mLst (lCons (mC (.str "{")) (lCons (mC (.str "}")) (lCons (mC (.str "(")) (lCons (mC (.str ")")) (lCons (mC (.str "[")) (lCons (mC (.str "]")) (lCons (mC (.str ",")) (lCons (mC (.str ";")) (lCons (mC (.str "+")) (lCons (mC (.str "-")) (lCons (mC (.str "*")) (lCons (mC (.str "&")) (lCons (mC (.str "|")) (lCons (mC (.str "^")) (lCons (mC (.str "?")) (lCons (mC (.str ":")) lNil))))))))))))))))) (mFn S_pick (lCons (mVar 0) (lCons (mC (.int 16)) lNil)))) lNil)))))))))
noncomputable def m__law_word : MD := mDef 1 2 b__law_word
theorem len__law_word (ds : List D) (S : Hs) (h : ds.length ≠ 1) : m__law_word ds S = .bad := mDef_len ds S h
noncomputable def b__law_alone : MS := (mRet (mBin oIn (mVar 0) (mTup (lCons (mC (.str "{")) (lCons (mC (.str "}")) (lCons (mC (.str "(")) (lCons (mC (.str ")")) (lCons (mC (.str "[")) (lCons (mC (.str "]")) (lCons (mC (.str ",")) (lCons (mC (.str ";")) (lCons (mC (.str "+")) (lCons (mC (.str "-")) (lCons (mC (.str "*")) (lCons (mC (.str "&")) (lCons (mC (.str "|")) (lCons (mC (.str "^")) (lCons (mC (.str "?")) (lCons (mC (.str ":")) lNil)))))))))))))))))))
noncomputable def m__law_alone : MD := mDef 1 0 b__law_alone
theorem len__law_alone (ds : List D) (S : Hs) (h : ds.length ≠ 1) : m__law_alone ds S = .bad := mDef_len ds S h
noncomputable def b__law_between : MS := (mSeq (mSet 1 (mBin oIx (mLst (lCons (mC (.str " ")) (lCons (mC (.str "\n")) (lCons (mC (.str "  ")) (lCons (mC (.str "# a _ comment 'here' > @\n")) lNil))))) (mFn S_pick (lCons (mVar 0) (lCons (mC (.int 4)) lNil)))))
    (mRet (mBin oAdd (mVar 1) (mBin oIx (mLst (lCons (mC (.str "")) (lCons (mC (.str "")) (lCons (mC (.str "")) (lCons (mC (.str "\n")) (lCons (mC (.str "#\n ")) (lCons (mC (.str "\n   ")) (lCons (mC (.str "#x\n\n")) lNil)))))))) (mFn S_pick (lCons (mVar 0) (lCons (mC (.int 7)) lNil)))))))
noncomputable def m__law_between : MD := mDef 1 1 b__law_between
theorem len__law_between (ds : List D) (S : Hs) (h : ds.length ≠ 1) : m__law_between ds S = .bad := mDef_len ds S h
noncomputable def lb_law_0 : MS := (mSeq (mAsg (mFn m__law_word (lCons (mVar 1) lNil)) (gT 2 (gsC (gN 6) (gsC (gN 7) gsN))))
    (mSeq (mIfS (mOrB (mNotB (mOrB (mTru (mFn m__law_alone (lCons (mVar 4) lNil))) (mTru (mFn m__law_alone (lCons (mVar 7) lNil))))) (mCmp oEq (mFn S_pick (lCons (mVar 1) (lCons (mC (.int 3)) lNil))) (mC (.int 0)))) (mIfS (mCmp oGt (mVar 5) (mC (.int 0))) (mSet 2 (mBin oAdd (mVar 2) (mFn m__law_between (lCons (mVar 1) lNil)))) mPass) mPass)
    (mSeq (mExpr (mBM "list" oAppend (mVar 3) (lCons (mTup (lCons (mVar 6) (lCons (mVar 7) (lCons (mBin oAdd (mBM "str" oCount (mVar 2) (lCons (mC (.str "\n")) lNil)) (mC (.int 1))) (lCons (mBin oSub (mCall bLen (lCons (mVar 2) lNil)) (mBM "str" oRfind (mVar 2) (lCons (mC (.str "\n")) lNil))) lNil))))) lNil)))
    (mSeq (mSet 2 (mBin oAdd (mVar 2) (mVar 7)))
    (mSet 4 (mVar 7))))))
noncomputable def b_law : MS := (mSeq (mSet 1 (mFn m__law_stream (lCons (mVar 0) (lCons (mC (.int 300)) lNil))))
    (mSeq (mSet 2 (mBin oIx (mLst (lCons (mC (.str "")) (lCons (mC (.str "")) (lCons (mC (.str " ")) (lCons (mC (.str "\n")) (lCons (mC (.str "# begin\n  ")) lNil)))))) (mFn S_pick (lCons (mVar 1) (lCons (mC (.int 5)) lNil)))))
    (mSeq (mSet 3 (mLst lNil))
    (mSeq (mSet 4 (mC (.str "(")))
    (mSeq (mFor (mRng1 (lCons (mCall bMin (lCons (mC (.int 120)) (lCons (mBin oAdd (mC (.int 1)) (mBin oFdiv (mCall bLen (lCons (mBin oIx (mVar 1) (mC (.str "row"))) lNil)) (mC (.int 3)))) lNil))) lNil)) (gN 5) lb_law_0)
    (mSeq (mSet 2 (mBin oAdd (mVar 2) (mBin oIx (mLst (lCons (mC (.str "")) (lCons (mC (.str " ")) (lCons (mC (.str "\n")) (lCons (mC (.str "\n  ")) (lCons (mC (.str " # the end")) lNil)))))) (mFn S_pick (lCons (mVar 1) (lCons (mC (.int 5)) lNil))))))
    (mSeq (mExpr (mBM "list" oAppend (mVar 3) (lCons (mTup (lCons (mC (.str "end")) (lCons (mC (.str "")) (lCons (mBin oAdd (mBM "str" oCount (mVar 2) (lCons (mC (.str "\n")) lNil)) (mC (.int 1))) (lCons (mBin oSub (mCall bLen (lCons (mVar 2) lNil)) (mBM "str" oRfind (mVar 2) (lCons (mC (.str "\n")) lNil))) lNil))))) lNil)))
    (mSeq (mSet 8 (mFn m_tokens (lCons (mVar 2) lNil)))
    (mSeq (mIfS (mOrB (mNotB (mTru (mUn (oIsi "list") (mVar 8)))) (mCmp oNe (mVar 8) (mVar 3))) (mRet (mC (.bl false))) mPass)
    (mRet (mAnd (mBin oEq (mC d_KEYWORDS) (mCall bTuple (lCons (mFn m__law_keywords lNil) lNil))) (mBin oEq (mFn m_tokens (lCons (mC (.str "")) lNil)) (mLst (lCons (mTup (lCons (mC (.str "end")) (lCons (mC (.str "")) (lCons (mC (.int 1)) (lCons (mC (.int 1)) lNil))))) lNil))))))))))))))
noncomputable def m_law : MD := mDef 1 8 b_law
theorem len_law (ds : List D) (S : Hs) (h : ds.length ≠ 1) : m_law ds S = .bad := mDef_len ds S h
end GK00
set_option Elab.async false
set_option linter.all false
set_option maxRecDepth 100000
set_option maxHeartbeats 4000000
namespace GK00
open PySem PySem.Spec L2 Ly
open PyProof.Rows hiding St
def top (i : Nat) : Stmt := PySem.Challenge.pw_sameclock_k00_tokens_of_a_program.main.body.getD i (.Pass ⟨0, 0, 0, 0⟩)
abbrev s__law_mix : Stmt := top 20
abbrev s__law_stream : Stmt := top 21
abbrev s__comment_end : Stmt := top 15
abbrev s__word : Stmt := top 17
abbrev s__is_number : Stmt := top 18
abbrev s__token : Stmt := top 16
abbrev s_tokens : Stmt := top 14
abbrev s__law_pick : Stmt := top 22
abbrev s__law_keywords : Stmt := top 23
abbrev s__law_word : Stmt := top 24
abbrev s__law_alone : Stmt := top 25
abbrev s__law_between : Stmt := top 26
abbrev s_law : Stmt := top 27
section
variable {P : Program} {w : World} {K : PySem.W.Frag} {mg : Str → Option Value} {base : Heap}
theorem sc__law_mix : FnScope ["cell", "k", "low"] ["cell", "k"] (defScope s__law_mix) := ⟨rfl, rfl, rfl, by decide +kernel, rfl, by decide +kernel, by decide +kernel⟩
theorem ok__law_mix {f__law_mix : Addr} {fd__law_mix : FuncData} (D__law_mix : DefAt K mg "_law_mix" s__law_mix ["cell", "k"] f__law_mix fd__law_mix) (z_int : mg "int" = none) : FnOk P w K mg base (L2.CX P w) 1 f__law_mix fd__law_mix ["cell", "k"] (spM K 2 m__law_mix) := by
  have sc := sc__law_mix
  refine fn_def (m := b__law_mix) D__law_mix.F sc rfl rfl fun cdv A outer s H E hr => ?_
  unfold b__law_mix
  exact (SMs.cons (s_set (i := 2) sc.nd (e_mod (c_int z_int (l_cons (e_add (e_add (e_mul (e_v 0) e_int) (e_mul (e_v 1) e_int)) e_int) l_nil)) e_int))
    (SMs.one (s_ret (e_mod (e_mod (c_int z_int (l_cons (e_add (e_add (e_add (e_mul (e_v 2) (e_v 2)) (e_mul (e_v 0) e_int)) (e_mul (e_v 1) e_int)) e_int) l_nil)) e_int) e_int))))
theorem sc__law_stream : FnScope ["script", "most", "row", "k", "rest", "j"] ["script", "most"] (defScope s__law_stream) := ⟨rfl, rfl, rfl, by decide +kernel, rfl, by decide +kernel, by decide +kernel⟩
theorem ok__law_stream {f__law_stream : Addr} {fd__law_stream : FuncData} {f__law_mix : Addr} {fd__law_mix : FuncData} (D__law_stream : DefAt K mg "_law_stream" s__law_stream ["script", "most"] f__law_stream fd__law_stream) (D__law_mix : DefAt K mg "_law_mix" s__law_mix ["cell", "k"] f__law_mix fd__law_mix) (G__law_mix : FnOk P w K mg base (L2.CX P w) 1 f__law_mix fd__law_mix ["cell", "k"] (spM K 2 S_mix)) (z_range : mg "range" = none) (z_min : mg "min" = none) (z_len : mg "len" = none) (z_int : mg "int" = none) : FnOk P w K mg base (L2.CX P w) 2 f__law_stream fd__law_stream ["script", "most"] (spM K 2 m__law_stream) := by
  have sc := sc__law_stream
  refine fn_def (m := b__law_stream) D__law_stream.F sc rfl rfl fun cdv A outer s H E hr => ?_
  unfold b__law_stream
  exact (SMs.cons (s_set (i := 2) sc.nd (e_lst l_nil))
    (SMs.cons (s_for (passes_of rfl) rfl (i_rng1 z_range (l_cons (c_min rfl z_min (l_cons (c_len z_len (l_cons (e_v 0) l_nil)) (l_cons e_int l_nil))) l_nil)) (g_n (i := 3) sc.nd) (SMs.cons (s_set (i := 4) sc.nd (e_ix (hu_of hr) (e_v 0) (e_v 3)))
    (SMs.one (s_if (b_cmp op_ge ok_ge (e_v 4) (e_pow e_int e_int) (nomark _)) (SMs.one (s_for (passes_of rfl) rfl (i_rng1 z_range (l_cons e_int l_nil)) (g_n (i := 5) sc.nd) (SMs.one (s_if (b_of (w_and (b_cmp op_gt ok_gt (e_v 4) e_int (nomark _)) (w_and1 (b_cmp op_lt ok_lt (c_len z_len (l_cons (e_v 2) l_nil)) (e_v 1) (nomark _))))) (SMs.cons (s_expr (e_bm PySem.F.plainAttrs_list PySem.F.slot_list_append PySem.F.type_list_append mt_append ok_append (e_v 2) (l_cons (e_mod (c_int z_int (l_cons (e_v 4) l_nil)) e_int) l_nil)))
    (SMs.one (s_set (i := 4) sc.nd (e_fdiv (e_v 4) e_int)))) SMs.nil)))) (SMs.one (s_for (passes_of rfl) rfl (i_rng1 z_range (l_cons e_int l_nil)) (g_n (i := 5) sc.nd) (SMs.one (s_if (b_cmp op_lt ok_lt (c_len z_len (l_cons (e_v 2) l_nil)) (e_v 1) (nomark _)) (SMs.one (s_expr (e_bm PySem.F.plainAttrs_list PySem.F.slot_list_append PySem.F.type_list_append mt_append ok_append (e_v 2) (l_cons (e_fn G__law_mix len__law_mix (hr.mono (by decide)) (by rfl) D__law_mix.g D__law_mix.F.kp D__law_mix.b (fun _ => Passes.at pass_def _) (l_cons (e_v 4) (l_cons (e_add (e_mul e_int (e_v 5)) (e_v 3)) l_nil))) l_nil)))) SMs.nil))))))))
    (SMs.one (s_ret (e_disp (dp_cons e_str (e_v 2) (dp_cons e_str e_int (dp_cons e_str (c_len z_len (l_cons (e_v 2) l_nil)) dp_nil))))))))
theorem sc__comment_end : FnScope ["text", "at", "end"] ["text", "at"] (defScope s__comment_end) := ⟨rfl, rfl, rfl, by decide +kernel, rfl, by decide +kernel, by decide +kernel⟩
theorem ok__comment_end {f__comment_end : Addr} {fd__comment_end : FuncData} (D__comment_end : DefAt K mg "_comment_end" s__comment_end ["text", "at"] f__comment_end fd__comment_end) (z_len : mg "len" = none) : FnOk P w K mg base (L2.CX P w) 1 f__comment_end fd__comment_end ["text", "at"] (spM K 2 m__comment_end) := by
  have sc := sc__comment_end
  refine fn_def (m := b__comment_end) D__comment_end.F sc rfl rfl fun cdv A outer s H E hr => ?_
  unfold b__comment_end
  exact (SMs.cons (s_set (i := 2) sc.nd (e_bm PySem.F.plainAttrs_str PySem.F.slot_str_find PySem.F.type_str_find mt_findA ok_find (e_v 0) (l_cons e_str (l_cons (e_v 1) l_nil))))
    (SMs.one (s_ret (e_if (b_cmp op_lt ok_lt (e_v 2) e_int (nomark _)) (c_len z_len (l_cons (e_v 0) l_nil)) (e_v 2)))))
theorem sc__word : FnScope ["text", "at", "end"] ["text", "at"] (defScope s__word) := ⟨rfl, rfl, rfl, by decide +kernel, rfl, by decide +kernel, by decide +kernel⟩
theorem ok__word {f__word : Addr} {fd__word : FuncData} (D__word : DefAt K mg "_word" s__word ["text", "at"] f__word fd__word) (g_WORD_SIGNS : GV K mg "WORD_SIGNS" d_WORD_SIGNS) (z_len : mg "len" = none) : FnOk P w K mg base (L2.CX P w) 1 f__word fd__word ["text", "at"] (spM K 2 m__word) := by
  have sc := sc__word
  refine fn_def (m := b__word) D__word.F sc rfl rfl fun cdv A outer s H E hr => ?_
  unfold b__word
  exact (SMs.cons (s_set (i := 2) sc.nd (e_v 1))
    (SMs.cons (s_while (passes_of rfl) (b_of (w_and (b_cmp op_lt ok_lt (e_v 2) (c_len z_len (l_cons (e_v 0) l_nil)) (nomark _)) (w_and1 (b_cmp (or_inAll hr) ok_in (e_ix (hu_of hr) (e_v 0) (e_v 2)) (e_g g_WORD_SIGNS) (by rfl))))) (SMs.one (s_iadd (i := 2) sc.nd e_int)))
    (SMs.one (s_ret (e_slice (e_v 0) (o_some (e_v 1)) (o_some (e_v 2)))))))
theorem sc__is_number : FnScope ["word", "char"] ["word"] (defScope s__is_number) := ⟨rfl, rfl, rfl, by decide +kernel, rfl, by decide +kernel, by decide +kernel⟩
theorem ok__is_number {f__is_number : Addr} {fd__is_number : FuncData} (D__is_number : DefAt K mg "_is_number" s__is_number ["word"] f__is_number fd__is_number) (g_MOST_DIGITS : GV K mg "MOST_DIGITS" d_MOST_DIGITS) (g_DIGITS : GV K mg "DIGITS" d_DIGITS) (g_GREATEST_WORD : GV K mg "GREATEST_WORD" d_GREATEST_WORD) (z_len : mg "len" = none) (z_int : mg "int" = none) : FnOk P w K mg base (L2.CX P w) 1 f__is_number fd__is_number ["word"] (spM K 1 m__is_number) := by
  have sc := sc__is_number
  refine fn_def (m := b__is_number) D__is_number.F sc rfl rfl fun cdv A outer s H E hr => ?_
  unfold b__is_number
  exact (SMs.cons (s_if (b_of (w_or (b_cmp op_gt ok_gt (c_len z_len (l_cons (e_v 0) l_nil)) (e_g g_MOST_DIGITS) (nomark _)) (w_or1 (b_of (w_and (b_cmp op_gt ok_gt (c_len z_len (l_cons (e_v 0) l_nil)) e_int (nomark _)) (w_and1 (b_cmp (or_eqA hr) ok_eq (e_ix (hu_of hr) (e_v 0) e_int) e_str (nomark _)))))))) (SMs.one (s_ret e_bl)) SMs.nil)
    (SMs.cons (s_for (passes_of rfl) rfl (i_it (e_v 0)) (g_n (i := 1) sc.nd) (SMs.one (s_if (b_cmp (or_notinAll hr) ok_notin (e_v 1) (e_g g_DIGITS) (by rfl)) (SMs.one (s_ret e_bl)) SMs.nil)))
    (SMs.one (s_ret (e_cmp op_le ok_le (c_int z_int (l_cons (e_v 0) l_nil)) (e_g g_GREATEST_WORD) (nomark _))))))
theorem sc__token : FnScope ["text", "at", "row", "column", "char", "word", "kind", "pair"] ["text", "at", "row", "column"] (defScope s__token) := ⟨rfl, rfl, rfl, by decide +kernel, rfl, by decide +kernel, by decide +kernel⟩
theorem ok__token {f__token : Addr} {fd__token : FuncData} {f__word : Addr} {fd__word : FuncData} {f__is_number : Addr} {fd__is_number : FuncData} (D__token : DefAt K mg "_token" s__token ["text", "at", "row", "column"] f__token fd__token) (D__word : DefAt K mg "_word" s__word ["text", "at"] f__word fd__word) (G__word : FnOk P w K mg base (L2.CX P w) 1 f__word fd__word ["text", "at"] (spM K 2 m__word)) (D__is_number : DefAt K mg "_is_number" s__is_number ["word"] f__is_number fd__is_number) (G__is_number : FnOk P w K mg base (L2.CX P w) 1 f__is_number fd__is_number ["word"] (spM K 1 m__is_number)) (g_LETTERS : GV K mg "LETTERS" d_LETTERS) (g_KEYWORDS : GV K mg "KEYWORDS" d_KEYWORDS) (g_DIGITS : GV K mg "DIGITS" d_DIGITS) (g_LONG_SIGNS : GV K mg "LONG_SIGNS" d_LONG_SIGNS) (g_SHORT_SIGNS : GV K mg "SHORT_SIGNS" d_SHORT_SIGNS) : FnOk P w K mg base (L2.CX P w) 2 f__token fd__token ["text", "at", "row", "column"] (spM K 4 m__token) := by
  have sc := sc__token
  refine fn_def (m := b__token) D__token.F sc rfl rfl fun cdv A outer s H E hr => ?_
  unfold b__token
  exact (SMs.cons (s_set (i := 4) sc.nd (e_ix (hu_of hr) (e_v 0) (e_v 1)))
    (SMs.cons (s_if (b_cmp (or_inAll hr) ok_in (e_v 4) (e_g g_LETTERS) (by rfl)) (SMs.cons (s_set (i := 5) sc.nd (e_fn G__word len__word (hr.mono (by decide)) (by rfl) D__word.g D__word.F.kp D__word.b (fun _ => Passes.at pass_def _) (l_cons (e_v 0) (l_cons (e_v 1) l_nil))))
    (SMs.cons (s_set (i := 6) sc.nd (e_if (b_cmp (or_inAll hr) ok_in (e_v 5) (e_g g_KEYWORDS) (by rfl)) e_str e_str))
    (SMs.one (s_ret (e_tup (l_cons (e_v 6) (l_cons (e_v 5) (l_cons (e_v 2) (l_cons (e_v 3) l_nil))))))))) SMs.nil)
    (SMs.cons (s_if (b_cmp (or_inAll hr) ok_in (e_v 4) (e_g g_DIGITS) (by rfl)) (SMs.cons (s_set (i := 5) sc.nd (e_fn G__word len__word (hr.mono (by decide)) (by rfl) D__word.g D__word.F.kp D__word.b (fun _ => Passes.at pass_def _) (l_cons (e_v 0) (l_cons (e_v 1) l_nil))))
    (SMs.cons (s_if (b_not (b_tru (e_fn G__is_number len__is_number (hr.mono (by decide)) (by rfl) D__is_number.g D__is_number.F.kp D__is_number.b (fun _ => Passes.at pass_def _) (l_cons (e_v 5) l_nil)))) (SMs.one s_never) SMs.nil)
    (SMs.one (s_ret (e_tup (l_cons e_str (l_cons (e_v 5) (l_cons (e_v 2) (l_cons (e_v 3) l_nil))))))))) SMs.nil)
    (SMs.cons (s_set (i := 7) sc.nd (e_slice (e_v 0) (o_some (e_v 1)) (o_some (e_add (e_v 1) e_int))))
    (SMs.cons (s_if (b_cmp (or_inAll hr) ok_in (e_v 7) (e_g g_LONG_SIGNS) (by rfl)) (SMs.one (s_ret (e_tup (l_cons e_str (l_cons (e_v 7) (l_cons (e_v 2) (l_cons (e_v 3) l_nil))))))) SMs.nil)
    (SMs.cons (s_if (b_cmp (or_inAll hr) ok_in (e_v 4) (e_g g_SHORT_SIGNS) (by rfl)) (SMs.one (s_ret (e_tup (l_cons e_str (l_cons (e_v 4) (l_cons (e_v 2) (l_cons (e_v 3) l_nil))))))) SMs.nil)
    (SMs.one s_never)))))))
theorem sc_tokens : FnScope ["text", "found", "at", "row", "row_begin", "char", "token"] ["text"] (defScope s_tokens) := ⟨rfl, rfl, rfl, by decide +kernel, rfl, by decide +kernel, by decide +kernel⟩
theorem ok_tokens {f_tokens : Addr} {fd_tokens : FuncData} {f__comment_end : Addr} {fd__comment_end : FuncData} {f__token : Addr} {fd__token : FuncData} (D_tokens : DefAt K mg "tokens" s_tokens ["text"] f_tokens fd_tokens) (D__comment_end : DefAt K mg "_comment_end" s__comment_end ["text", "at"] f__comment_end fd__comment_end) (G__comment_end : FnOk P w K mg base (L2.CX P w) 1 f__comment_end fd__comment_end ["text", "at"] (spM K 2 m__comment_end)) (D__token : DefAt K mg "_token" s__token ["text", "at", "row", "column"] f__token fd__token) (G__token : FnOk P w K mg base (L2.CX P w) 2 f__token fd__token ["text", "at", "row", "column"] (spM K 4 m__token)) (z_len : mg "len" = none) : FnOk P w K mg base (L2.CX P w) 3 f_tokens fd_tokens ["text"] (spM K 1 m_tokens) := by
  have sc := sc_tokens
  refine fn_def (m := b_tokens) D_tokens.F sc rfl rfl fun cdv A outer s H E hr => ?_
  unfold b_tokens
  exact (SMs.cons (s_set (i := 1) sc.nd (e_lst l_nil))
    (SMs.cons (s_set (i := 2) sc.nd e_int)
    (SMs.cons (s_set (i := 3) sc.nd e_int)
    (SMs.cons (s_set (i := 4) sc.nd e_int)
    (SMs.cons (s_while (passes_of rfl) (b_cmp op_lt ok_lt (e_v 2) (c_len z_len (l_cons (e_v 0) l_nil)) (nomark _)) (SMs.cons (s_set (i := 5) sc.nd (e_ix (hu_of hr) (e_v 0) (e_v 2)))
    (SMs.one (s_if (b_cmp (or_eqA hr) ok_eq (e_v 5) e_str (nomark _)) (SMs.cons (s_iadd (i := 2) sc.nd e_int)
    (SMs.cons (s_iadd (i := 3) sc.nd e_int)
    (SMs.one (s_set (i := 4) sc.nd (e_v 2))))) (SMs.one (s_if (b_cmp (or_eqA hr) ok_eq (e_v 5) e_str (nomark _)) (SMs.one (s_iadd (i := 2) sc.nd e_int)) (SMs.one (s_if (b_cmp (or_eqA hr) ok_eq (e_v 5) e_str (nomark _)) (SMs.one (s_set (i := 2) sc.nd (e_fn G__comment_end len__comment_end (hr.mono (by decide)) (by rfl) D__comment_end.g D__comment_end.F.kp D__comment_end.b (fun _ => Passes.at pass_def _) (l_cons (e_v 0) (l_cons (e_v 2) l_nil))))) (SMs.cons (s_set (i := 6) sc.nd (e_fn G__token len__token (hr.mono (by decide)) (by rfl) D__token.g D__token.F.kp D__token.b (fun _ => Passes.at pass_def _) (l_cons (e_v 0) (l_cons (e_v 2) (l_cons (e_v 3) (l_cons (e_add (e_sub (e_v 2) (e_v 4)) e_int) l_nil))))))
    (SMs.cons (s_expr (e_bm PySem.F.plainAttrs_list PySem.F.slot_list_append PySem.F.type_list_append mt_append ok_append (e_v 1) (l_cons (e_v 6) l_nil)))
    (SMs.one (s_iadd (i := 2) sc.nd (c_len z_len (l_cons (e_ix (hu_of hr) (e_v 6) e_int) l_nil))))))))))))))
    (SMs.cons (s_expr (e_bm PySem.F.plainAttrs_list PySem.F.slot_list_append PySem.F.type_list_append mt_append ok_append (e_v 1) (l_cons (e_tup (l_cons e_str (l_cons e_str (l_cons (e_v 3) (l_cons (e_add (e_sub (e_v 2) (e_v 4)) e_int) l_nil))))) l_nil)))
    (SMs.one (s_ret (e_v 1)))))))))
theorem sc__law_pick : FnScope ["draws", "many", "at", "number"] ["draws", "many"] (defScope s__law_pick) := ⟨rfl, rfl, rfl, by decide +kernel, rfl, by decide +kernel, by decide +kernel⟩
theorem ok__law_pick {f__law_pick : Addr} {fd__law_pick : FuncData} {f__law_mix : Addr} {fd__law_mix : FuncData} (D__law_pick : DefAt K mg "_law_pick" s__law_pick ["draws", "many"] f__law_pick fd__law_pick) (D__law_mix : DefAt K mg "_law_mix" s__law_mix ["cell", "k"] f__law_mix fd__law_mix) (G__law_mix : FnOk P w K mg base (L2.CX P w) 1 f__law_mix fd__law_mix ["cell", "k"] (spM K 2 S_mix)) (z_len : mg "len" = none) (z_int : mg "int" = none) : FnOk P w K mg base (L2.CX P w) 2 f__law_pick fd__law_pick ["draws", "many"] (spM K 2 m__law_pick) := by
  have sc := sc__law_pick
  refine fn_def (m := b__law_pick) D__law_pick.F sc rfl rfl fun cdv A outer s H E hr => ?_
  unfold b__law_pick
  exact (SMs.cons (s_set (i := 2) sc.nd (e_ix (hu_of hr) (e_v 0) e_str))
    (SMs.cons (s_sub (hu_of hr) (e_add (e_v 2) e_int) (e_v 0) e_str)
    (SMs.cons (s_set (i := 3) sc.nd (e_fn G__law_mix len__law_mix (hr.mono (by decide)) (by rfl) D__law_mix.g D__law_mix.F.kp D__law_mix.b (fun _ => Passes.at pass_def _) (l_cons (e_ix (hu_of hr) (e_v 0) e_str) (l_cons (e_v 2) l_nil))))
    (SMs.cons (s_if (b_cmp op_lt ok_lt (e_v 2) (c_len z_len (l_cons (e_ix (hu_of hr) (e_v 0) e_str) l_nil)) (nomark _)) (SMs.one (s_set (i := 3) sc.nd (e_ix (hu_of hr) (e_ix (hu_of hr) (e_v 0) e_str) (e_v 2)))) SMs.nil)
    (SMs.one (s_ret (e_mod (c_int z_int (l_cons (e_v 3) l_nil)) (e_v 1))))))))
theorem sc__law_keywords : FnScope [] [] (defScope s__law_keywords) := ⟨rfl, rfl, rfl, by decide +kernel, rfl, by decide +kernel, by decide +kernel⟩
theorem ok__law_keywords {f__law_keywords : Addr} {fd__law_keywords : FuncData} (D__law_keywords : DefAt K mg "_law_keywords" s__law_keywords [] f__law_keywords fd__law_keywords) : FnOk P w K mg base (L2.CX P w) 1 f__law_keywords fd__law_keywords [] (spM K 0 m__law_keywords) := by
  have sc := sc__law_keywords
  refine fn_def (m := b__law_keywords) D__law_keywords.F sc rfl rfl fun cdv A outer s H E hr => ?_
  unfold b__law_keywords
  exact (SMs.one (s_ret (e_lst (l_cons e_str (l_cons e_str (l_cons e_str (l_cons e_str (l_cons e_str (l_cons e_str (l_cons e_str (l_cons e_str (l_cons e_str (l_cons e_str (l_cons e_str (l_cons e_str (l_cons e_str (l_cons e_str l_nil)))))))))))))))))
theorem sc__law_word : FnScope ["draws", "pick", "names"] ["draws"] (defScope s__law_word) := ⟨rfl, rfl, rfl, by decide +kernel, rfl, by decide +kernel, by decide +kernel⟩
theorem ok__law_word {f__law_word : Addr} {fd__law_word : FuncData} {f__law_pick : Addr} {fd__law_pick : FuncData} {f__law_keywords : Addr} {fd__law_keywords : FuncData} (D__law_word : DefAt K mg "_law_word" s__law_word ["draws"] f__law_word fd__law_word) (D__law_pick : DefAt K mg "_law_pick" s__law_pick ["draws", "many"] f__law_pick fd__law_pick) (G__law_pick : FnOk P w K mg base (L2.CX P w) 2 f__law_pick fd__law_pick ["draws", "many"] (spM K 2 S_pick)) (D__law_keywords : DefAt K mg "_law_keywords" s__law_keywords [] f__law_keywords fd__law_keywords) (G__law_keywords : FnOk P w K mg base (L2.CX P w) 1 f__law_keywords fd__law_keywords [] (spM K 0 m__law_keywords)) : FnOk P w K mg base (L2.CX P w) 3 f__law_word fd__law_word ["draws"] (spM K 1 m__law_word) := by
  have sc := sc__law_word
  refine fn_def (m := b__law_word) D__law_word.F sc rfl rfl fun cdv A outer s H E hr => ?_
  unfold b__law_word
  exact (SMs.cons (s_set (i := 1) sc.nd (e_fn G__law_pick len__law_pick (hr.mono (by decide)) (by rfl) D__law_pick.g D__law_pick.F.kp D__law_pick.b (fun _ => Passes.at pass_def _) (l_cons (e_v 0) (l_cons e_int l_nil))))
    (SMs.cons (s_if (b_cmp op_lt ok_lt (e_v 1) e_int (nomark _)) (SMs.cons (s_set (i := 2) sc.nd (e_lst (l_cons e_str (l_cons e_str (l_cons e_str (l_cons e_str (l_cons e_str (l_cons e_str (l_cons e_str (l_cons e_str (l_cons e_str (l_cons e_str (l_cons e_str (l_cons e_str (l_cons e_str l_nil)))))))))))))))
    (SMs.one (s_ret (e_tup (l_cons e_str (l_cons (e_ix (hu_of hr) (e_v 2) (e_fn G__law_pick len__law_pick (hr.mono (by decide)) (by rfl) D__law_pick.g D__law_pick.F.kp D__law_pick.b (fun _ => Passes.at pass_def _) (l_cons (e_v 0) (l_cons e_int l_nil)))) l_nil)))))) SMs.nil)
    (SMs.cons (s_if (b_cmp (or_eqA hr) ok_eq (e_v 1) e_int (nomark _)) (SMs.one (s_ret (e_tup (l_cons e_str (l_cons (e_ix (hu_of hr) (e_lst (l_cons e_str (l_cons e_str (l_cons e_str (l_cons e_str (l_cons e_str (l_cons e_str (l_cons e_str l_nil)))))))) (e_fn G__law_pick len__law_pick (hr.mono (by decide)) (by rfl) D__law_pick.g D__law_pick.F.kp D__law_pick.b (fun _ => Passes.at pass_def _) (l_cons (e_v 0) (l_cons e_int l_nil)))) l_nil))))) SMs.nil)
    (SMs.cons (s_if (b_cmp op_lt ok_lt (e_v 1) e_int (nomark _)) (SMs.one (s_ret (e_tup (l_cons e_str (l_cons (e_ix (hu_of hr) (e_fn0 G__law_keywords (hr.mono (by decide)) (by rfl) D__law_keywords.g D__law_keywords.F.kp D__law_keywords.b pass_def) (e_fn G__law_pick len__law_pick (hr.mono (by decide)) (by rfl) D__law_pick.g D__law_pick.F.kp D__law_pick.b (fun _ => Passes.at pass_def _) (l_cons (e_v 0) (l_cons e_int l_nil)))) l_nil))))) SMs.nil)
    (SMs.cons (s_if (b_cmp (or_eqA hr) ok_eq (e_v 1) e_int (nomark _)) (SMs.one (s_ret (e_tup (l_cons e_str (l_cons (e_ix (hu_of hr) (e_lst (l_cons e_str (l_cons e_str (l_cons e_str (l_cons e_str (l_cons e_str (l_cons e_str (l_cons e_str l_nil)))))))) (e_fn G__law_pick len__law_pick (hr.mono (by decide)) (by rfl) D__law_pick.g D__law_pick.F.kp D__law_pick.b (fun _ => Passes.at pass_def _) (l_cons (e_v 0) (l_cons e_int l_nil)))) l_nil))))) SMs.nil)
    (SMs.one (s_ret (e_tup (l_cons e_str (l_cons (e_ix (hu_of hr) (e_lst (l_cons e_str (l_cons e_str (l_cons e_str (l_cons e_str (l_cons e_str (l_cons e_str (l_cons e_str (l_cons e_str (l_cons e_str (l_cons e_str (l_cons e_str (l_cons e_str (l_cons e_str (l_cons e_str (l_cons e_str (l_cons e_str l_nil))))))))))))))))) (e_fn G__law_pick len__law_pick (hr.mono (by decide)) (by rfl) D__law_pick.g D__law_pick.F.kp D__law_pick.b (fun _ => Passes.at pass_def _) (l_cons (e_v 0) (l_cons e_int l_nil)))) l_nil))))))))))
theorem sc__law_alone : FnScope ["text"] ["text"] (defScope s__law_alone) := ⟨rfl, rfl, rfl, by decide +kernel, rfl, by decide +kernel, by decide +kernel⟩
theorem ok__law_alone {f__law_alone : Addr} {fd__law_alone : FuncData} (D__law_alone : DefAt K mg "_law_alone" s__law_alone ["text"] f__law_alone fd__law_alone) : FnOk P w K mg base (L2.CX P w) 1 f__law_alone fd__law_alone ["text"] (spM K 1 m__law_alone) := by
  have sc := sc__law_alone
  refine fn_def (m := b__law_alone) D__law_alone.F sc rfl rfl fun cdv A outer s H E hr => ?_
  unfold b__law_alone
  exact (SMs.one (s_ret (e_cmp (or_inAll hr) ok_in (e_v 0) (e_tup (l_cons e_str (l_cons e_str (l_cons e_str (l_cons e_str (l_cons e_str (l_cons e_str (l_cons e_str (l_cons e_str (l_cons e_str (l_cons e_str (l_cons e_str (l_cons e_str (l_cons e_str (l_cons e_str (l_cons e_str (l_cons e_str l_nil))))))))))))))))) (by rfl))))
theorem sc__law_between : FnScope ["draws", "first"] ["draws"] (defScope s__law_between) := ⟨rfl, rfl, rfl, by decide +kernel, rfl, by decide +kernel, by decide +kernel⟩
theorem ok__law_between {f__law_between : Addr} {fd__law_between : FuncData} {f__law_pick : Addr} {fd__law_pick : FuncData} (D__law_between : DefAt K mg "_law_between" s__law_between ["draws"] f__law_between fd__law_between) (D__law_pick : DefAt K mg "_law_pick" s__law_pick ["draws", "many"] f__law_pick fd__law_pick) (G__law_pick : FnOk P w K mg base (L2.CX P w) 2 f__law_pick fd__law_pick ["draws", "many"] (spM K 2 S_pick)) : FnOk P w K mg base (L2.CX P w) 3 f__law_between fd__law_between ["draws"] (spM K 1 m__law_between) := by
  have sc := sc__law_between
  refine fn_def (m := b__law_between) D__law_between.F sc rfl rfl fun cdv A outer s H E hr => ?_
  unfold b__law_between
  exact (SMs.cons (s_set (i := 1) sc.nd (e_ix (hu_of hr) (e_lst (l_cons e_str (l_cons e_str (l_cons e_str (l_cons e_str l_nil))))) (e_fn G__law_pick len__law_pick (hr.mono (by decide)) (by rfl) D__law_pick.g D__law_pick.F.kp D__law_pick.b (fun _ => Passes.at pass_def _) (l_cons (e_v 0) (l_cons e_int l_nil)))))
    (SMs.one (s_ret (e_add (e_v 1) (e_ix (hu_of hr) (e_lst (l_cons e_str (l_cons e_str (l_cons e_str (l_cons e_str (l_cons e_str (l_cons e_str (l_cons e_str l_nil)))))))) (e_fn G__law_pick len__law_pick (hr.mono (by decide)) (by rfl) D__law_pick.g D__law_pick.F.kp D__law_pick.b (fun _ => Passes.at pass_def _) (l_cons (e_v 0) (l_cons e_int l_nil))))))))
theorem sc_law : FnScope ["script", "draws", "text", "due", "last", "k", "kind", "word", "actual"] ["script"] (defScope s_law) := ⟨rfl, rfl, rfl, by decide +kernel, rfl, by decide +kernel, by decide +kernel⟩
theorem ok_law {f_law : Addr} {fd_law : FuncData} {f__law_stream : Addr} {fd__law_stream : FuncData} {f__law_pick : Addr} {fd__law_pick : FuncData} {f__law_word : Addr} {fd__law_word : FuncData} {f__law_alone : Addr} {fd__law_alone : FuncData} {f__law_between : Addr} {fd__law_between : FuncData} {f_tokens : Addr} {fd_tokens : FuncData} {f__law_keywords : Addr} {fd__law_keywords : FuncData} (D_law : DefAt K mg "law" s_law ["script"] f_law fd_law) (D__law_stream : DefAt K mg "_law_stream" s__law_stream ["script", "most"] f__law_stream fd__law_stream) (G__law_stream : FnOk P w K mg base (L2.CX P w) 2 f__law_stream fd__law_stream ["script", "most"] (spM K 2 m__law_stream)) (D__law_pick : DefAt K mg "_law_pick" s__law_pick ["draws", "many"] f__law_pick fd__law_pick) (G__law_pick : FnOk P w K mg base (L2.CX P w) 2 f__law_pick fd__law_pick ["draws", "many"] (spM K 2 S_pick)) (D__law_word : DefAt K mg "_law_word" s__law_word ["draws"] f__law_word fd__law_word) (G__law_word : FnOk P w K mg base (L2.CX P w) 3 f__law_word fd__law_word ["draws"] (spM K 1 m__law_word)) (D__law_alone : DefAt K mg "_law_alone" s__law_alone ["text"] f__law_alone fd__law_alone) (G__law_alone : FnOk P w K mg base (L2.CX P w) 1 f__law_alone fd__law_alone ["text"] (spM K 1 m__law_alone)) (D__law_between : DefAt K mg "_law_between" s__law_between ["draws"] f__law_between fd__law_between) (G__law_between : FnOk P w K mg base (L2.CX P w) 3 f__law_between fd__law_between ["draws"] (spM K 1 m__law_between)) (D_tokens : DefAt K mg "tokens" s_tokens ["text"] f_tokens fd_tokens) (G_tokens : FnOk P w K mg base (L2.CX P w) 3 f_tokens fd_tokens ["text"] (spM K 1 m_tokens)) (D__law_keywords : DefAt K mg "_law_keywords" s__law_keywords [] f__law_keywords fd__law_keywords) (G__law_keywords : FnOk P w K mg base (L2.CX P w) 1 f__law_keywords fd__law_keywords [] (spM K 0 m__law_keywords)) (g_KEYWORDS : GV K mg "KEYWORDS" d_KEYWORDS) (z_range : mg "range" = none) (z_min : mg "min" = none) (z_len : mg "len" = none) (z_isinstance : mg "isinstance" = none) (z_list : mg "list" = none) (z_tuple : mg "tuple" = none) : FnOk P w K mg base (L2.CX P w) 4 f_law fd_law ["script"] (spM K 1 m_law) := by
  have sc := sc_law
  refine fn_def (m := b_law) D_law.F sc rfl rfl fun cdv A outer s H E hr => ?_
  unfold b_law
  exact (SMs.cons (s_set (i := 1) sc.nd (e_fn G__law_stream len__law_stream (hr.mono (by decide)) (by rfl) D__law_stream.g D__law_stream.F.kp D__law_stream.b (fun _ => Passes.at pass_def _) (l_cons (e_v 0) (l_cons e_int l_nil))))
    (SMs.cons (s_set (i := 2) sc.nd (e_ix (hu_of hr) (e_lst (l_cons e_str (l_cons e_str (l_cons e_str (l_cons e_str (l_cons e_str l_nil)))))) (e_fn G__law_pick len__law_pick (hr.mono (by decide)) (by rfl) D__law_pick.g D__law_pick.F.kp D__law_pick.b (fun _ => Passes.at pass_def _) (l_cons (e_v 1) (l_cons e_int l_nil)))))
    (SMs.cons (s_set (i := 3) sc.nd (e_lst l_nil))
    (SMs.cons (s_set (i := 4) sc.nd e_str)
    (SMs.cons (s_for (passes_of rfl) rfl (i_rng1 z_range (l_cons (c_min rfl z_min (l_cons e_int (l_cons (e_add e_int (e_fdiv (c_len z_len (l_cons (e_ix (hu_of hr) (e_v 1) e_str) l_nil)) e_int)) l_nil))) l_nil)) (g_n (i := 5) sc.nd) (SMs.cons (s_asg (e_fn G__law_word len__law_word (hr.mono (by decide)) (by rfl) D__law_word.g D__law_word.F.kp D__law_word.b (fun _ => Passes.at pass_def _) (l_cons (e_v 1) l_nil)) (g_tup rfl (gs_cons (g_n (i := 6) sc.nd) (gs_cons (g_n (i := 7) sc.nd) gs_nil))))
    (SMs.cons (s_if (b_of (w_or (b_not (b_of (w_or (b_tru (e_fn G__law_alone len__law_alone (hr.mono (by decide)) (by rfl) D__law_alone.g D__law_alone.F.kp D__law_alone.b (fun _ => Passes.at pass_def _) (l_cons (e_v 4) l_nil))) (w_or1 (b_tru (e_fn G__law_alone len__law_alone (hr.mono (by decide)) (by rfl) D__law_alone.g D__law_alone.F.kp D__law_alone.b (fun _ => Passes.at pass_def _) (l_cons (e_v 7) l_nil))))))) (w_or1 (b_cmp (or_eqA hr) ok_eq (e_fn G__law_pick len__law_pick (hr.mono (by decide)) (by rfl) D__law_pick.g D__law_pick.F.kp D__law_pick.b (fun _ => Passes.at pass_def _) (l_cons (e_v 1) (l_cons e_int l_nil))) e_int (nomark _))))) (SMs.one (s_if (b_cmp op_gt ok_gt (e_v 5) e_int (nomark _)) (SMs.one (s_set (i := 2) sc.nd (e_add (e_v 2) (e_fn G__law_between len__law_between (hr.mono (by decide)) (by rfl) D__law_between.g D__law_between.F.kp D__law_between.b (fun _ => Passes.at pass_def _) (l_cons (e_v 1) l_nil))))) SMs.nil)) SMs.nil)
    (SMs.cons (s_expr (e_bm PySem.F.plainAttrs_list PySem.F.slot_list_append PySem.F.type_list_append mt_append ok_append (e_v 3) (l_cons (e_tup (l_cons (e_v 6) (l_cons (e_v 7) (l_cons (e_add (e_bm PySem.F.plainAttrs_str PySem.F.slot_str_count PySem.F.type_str_count mt_count ok_count (e_v 2) (l_cons e_str l_nil)) e_int) (l_cons (e_sub (c_len z_len (l_cons (e_v 2) l_nil)) (e_bm PySem.F.plainAttrs_str PySem.F.slot_str_rfind PySem.F.type_str_rfind mt_rfind ok_rfind (e_v 2) (l_cons e_str l_nil))) l_nil))))) l_nil)))
    (SMs.cons (s_set (i := 2) sc.nd (e_add (e_v 2) (e_v 7)))
    (SMs.one (s_set (i := 4) sc.nd (e_v 7))))))))
    (SMs.cons (s_set (i := 2) sc.nd (e_add (e_v 2) (e_ix (hu_of hr) (e_lst (l_cons e_str (l_cons e_str (l_cons e_str (l_cons e_str (l_cons e_str l_nil)))))) (e_fn G__law_pick len__law_pick (hr.mono (by decide)) (by rfl) D__law_pick.g D__law_pick.F.kp D__law_pick.b (fun _ => Passes.at pass_def _) (l_cons (e_v 1) (l_cons e_int l_nil))))))
    (SMs.cons (s_expr (e_bm PySem.F.plainAttrs_list PySem.F.slot_list_append PySem.F.type_list_append mt_append ok_append (e_v 3) (l_cons (e_tup (l_cons e_str (l_cons e_str (l_cons (e_add (e_bm PySem.F.plainAttrs_str PySem.F.slot_str_count PySem.F.type_str_count mt_count ok_count (e_v 2) (l_cons e_str l_nil)) e_int) (l_cons (e_sub (c_len z_len (l_cons (e_v 2) l_nil)) (e_bm PySem.F.plainAttrs_str PySem.F.slot_str_rfind PySem.F.type_str_rfind mt_rfind ok_rfind (e_v 2) (l_cons e_str l_nil))) l_nil))))) l_nil)))
    (SMs.cons (s_set (i := 8) sc.nd (e_fn G_tokens len_tokens (hr.mono (by decide)) (by rfl) D_tokens.g D_tokens.F.kp D_tokens.b (fun _ => Passes.at pass_def _) (l_cons (e_v 2) l_nil)))
    (SMs.cons (s_if (b_of (w_or (b_not (b_tru (c_isi (cn := "list") z_isinstance z_list (e_v 8)))) (w_or1 (b_cmp (or_neA hr) ok_ne (e_v 8) (e_v 3) (nomark _))))) (SMs.one (s_ret e_bl)) SMs.nil)
    (SMs.one (s_ret (e_and (e_cmp (or_eqA hr) ok_eq (e_g g_KEYWORDS) (c_tuple z_tuple (l_cons (e_fn0 G__law_keywords (hr.mono (by decide)) (by rfl) D__law_keywords.g D__law_keywords.F.kp D__law_keywords.b pass_def) l_nil)) (nomark _)) (e_one (e_cmp (or_eqA hr) ok_eq (e_fn G_tokens len_tokens (hr.mono (by decide)) (by rfl) D_tokens.g D_tokens.F.kp D_tokens.b (fun _ => Passes.at pass_def _) (l_cons e_str l_nil)) (e_lst (l_cons (e_tup (l_cons e_str (l_cons e_str (l_cons e_int (l_cons e_int l_nil))))) l_nil)) (nomark _)))))))))))))))
end
end GK00
set_option Elab.async false
set_option linter.all false
set_option maxRecDepth 100000
namespace GK00
open PySem PySem.Spec L2 Ly
open PyProof.Rows hiding St
theorem toks_is : m_tokens = mDef 1 6 (b_toks mBad mBad) := rfl
/-- a word that the law may draw -/
def goodW (kind x : Str) : Bool := tokS kind x.cps.toList && decide (x.length ≤ 20) && PyData.strOk x && PyData.strOk kind
theorem good1 : ∀ x ∈ (["a", "X1", "go_", "a_b", "tox", "divs", "outer", "ifs", "z9", "Main", "fn1", "publi", "Secret"] : List Str), goodW "name" x = true := by decide +kernel
theorem good2 : ∀ x ∈ (["0", "7", "10", "4294967295", "999999999", "12345", "90"] : List Str), goodW "number" x = true := by decide +kernel
theorem good3 : ∀ x ∈ kwL, goodW "keyword" x = true := by decide +kernel
theorem good4 : ∀ x ∈ (["=", "<", "<=", "<<", ">>", "==", "!"] : List Str), goodW "sign" x = true := by decide +kernel
theorem good5 : ∀ x ∈ (["{", "}", "(", ")", "[", "]", ",", ";", "+", "-", "*", "&", "|", "^", "?", ":"] : List Str), goodW "sign" x = true := by decide +kernel
section
variable {i j : Nat} {row : List Int} {sd : Int} {S : Hs}
theorem word_at (h : DrwA S i j row sd) : ∃ (kind x : Str) (S' : Hs), m__law_word [.ref i] S = .ok (.tup [.str kind, .str x]) S' ∧ Upd i j sd S S' ∧ goodW kind x = true := by
  obtain ⟨v, S1, e1, u1, h1, h2⟩ := pick_ok h (many := 9) (by decide)
  have d1 := u1.drw h
  have hd : m__law_word [.ref i] S = endOf (b__law_word [some (.ref i), none, none] S) := rfl
  rw [hd]
  unfold b__law_word
  by_cases c1 : v < 2
  · obtain ⟨d, w, S2, e2, e3, u2, hm⟩ := choose_val d1 ((["a", "X1", "go_", "a_b", "tox", "divs", "outer", "ifs", "z9", "Main", "fn1", "publi", "Secret"] : List Str).map D.str) (many := 13) rfl (by decide)
    obtain ⟨x, hx, rfl⟩ := of_strs hm
    refine ⟨"name", x, S2, ?_, u1.trans h u2, good1 x hx⟩
    simp only [List.map_cons, List.map_nil] at e2
    simp only [ap_bin, ap_var, ap_c, ap_un, ap_cmp, ap_nil, ap_cons, ap_tru, ap_notB, ap_andB, ap_orB, ap_and, ap_or, ap_if, ap_no, ap_some, ap_sl, ap_tup, ap_lst, ap_call, ap_bm, ap_set, ap_expr, ap_ret, ap_retN, ap_pass, ap_brk, ap_cnt, ap_seq, ap_ifS, ap_fn, ap_gN, ap_gsN, ap_gsC, ap_gT, ap_asg, ap_gSb, ap_aug, ap_it, ap_rng1, ap_rng2, ap_enum, ap_zip, ap_for, ap_yes, R.bind_ok, R.bind_bad, R.at_ok, R.bind_exc, List.getElem?_cons_zero, List.getElem?_cons_succ, List.set_cons_zero, List.set_cons_succ, List.length_cons, List.length_nil, if_true, if_false, Bool.false_eq_true, Bool.not_true, Bool.not_false, Bool.true_and, Bool.false_and, decide_true, decide_false, Nat.zero_add, e1, oLt, c1, line_le, Nat.reduceAdd, Nat.reduceLeDiff, e2, e3, endOf]
  · by_cases c2 : v = 2
    · obtain ⟨d, w, S2, e2, e3, u2, hm⟩ := choose_val d1 ((["0", "7", "10", "4294967295", "999999999", "12345", "90"] : List Str).map D.str) (many := 7) rfl (by decide)
      obtain ⟨x, hx, rfl⟩ := of_strs hm
      refine ⟨"number", x, S2, ?_, u1.trans h u2, good2 x hx⟩
      simp only [List.map_cons, List.map_nil] at e2
      subst c2
      simp only [ap_bin, ap_var, ap_c, ap_un, ap_cmp, ap_nil, ap_cons, ap_tru, ap_notB, ap_andB, ap_orB, ap_and, ap_or, ap_if, ap_no, ap_some, ap_sl, ap_tup, ap_lst, ap_call, ap_bm, ap_set, ap_expr, ap_ret, ap_retN, ap_pass, ap_brk, ap_cnt, ap_seq, ap_ifS, ap_fn, ap_gN, ap_gsN, ap_gsC, ap_gT, ap_asg, ap_gSb, ap_aug, ap_it, ap_rng1, ap_rng2, ap_enum, ap_zip, ap_for, ap_yes, R.bind_ok, R.bind_bad, R.at_ok, R.bind_exc, List.getElem?_cons_zero, List.getElem?_cons_succ, List.set_cons_zero, List.set_cons_succ, List.length_cons, List.length_nil, if_true, if_false, Bool.false_eq_true, Bool.not_true, Bool.not_false, Bool.true_and, Bool.false_and, decide_true, decide_false, Nat.zero_add, e1, oLt, c1, oEq_int, line_le, Nat.reduceAdd, Nat.reduceLeDiff, e2, e3, endOf]
    · by_cases c3 : v < 6
      · obtain ⟨d, w, S2, e2, e3, u2, hm⟩ := choose_val d1 (kwL.map D.str) (many := 14) rfl (by decide)
        obtain ⟨x, hx, rfl⟩ := of_strs hm
        refine ⟨"keyword", x, S2, ?_, u1.trans h u2, good3 x hx⟩
        have e0 : ∀ S, m__law_keywords [] S = .ok (.ref S.length) (S ++ [.lst (kwL.map D.str)]) := by
          intro S
          have hd : m__law_keywords [] S = endOf (b__law_keywords [] S) := rfl
          rw [hd]
          unfold b__law_keywords
          simp only [ap_bin, ap_var, ap_c, ap_un, ap_cmp, ap_nil, ap_cons, ap_tru, ap_notB, ap_andB, ap_orB, ap_and, ap_or, ap_if, ap_no, ap_some, ap_sl, ap_tup, ap_lst, ap_call, ap_bm, ap_set, ap_expr, ap_ret, ap_retN, ap_pass, ap_brk, ap_cnt, ap_seq, ap_ifS, ap_fn, ap_gN, ap_gsN, ap_gsC, ap_gT, ap_asg, ap_gSb, ap_aug, ap_it, ap_rng1, ap_rng2, ap_enum, ap_zip, ap_for, ap_yes, R.bind_ok, R.bind_bad, R.at_ok, R.bind_exc, List.getElem?_cons_zero, List.getElem?_cons_succ, List.set_cons_zero, List.set_cons_succ, List.length_cons, List.length_nil, if_true, if_false, Bool.false_eq_true, Bool.not_true, Bool.not_false, Bool.true_and, Bool.false_and, decide_true, decide_false, Nat.zero_add, line_le, Nat.reduceAdd, Nat.reduceLeDiff, endOf]
          rfl
        simp only [ap_bin, ap_var, ap_c, ap_un, ap_cmp, ap_nil, ap_cons, ap_tru, ap_notB, ap_andB, ap_orB, ap_and, ap_or, ap_if, ap_no, ap_some, ap_sl, ap_tup, ap_lst, ap_call, ap_bm, ap_set, ap_expr, ap_ret, ap_retN, ap_pass, ap_brk, ap_cnt, ap_seq, ap_ifS, ap_fn, ap_gN, ap_gsN, ap_gsC, ap_gT, ap_asg, ap_gSb, ap_aug, ap_it, ap_rng1, ap_rng2, ap_enum, ap_zip, ap_for, ap_yes, R.bind_ok, R.bind_bad, R.at_ok, R.bind_exc, List.getElem?_cons_zero, List.getElem?_cons_succ, List.set_cons_zero, List.set_cons_succ, List.length_cons, List.length_nil, if_true, if_false, Bool.false_eq_true, Bool.not_true, Bool.not_false, Bool.true_and, Bool.false_and, decide_true, decide_false, Nat.zero_add, e1, oLt, c1, oEq_int, c2, c3, line_le, Nat.reduceAdd, Nat.reduceLeDiff, e0, e2, e3, endOf]
      · by_cases c4 : v = 6
        · obtain ⟨d, w, S2, e2, e3, u2, hm⟩ := choose_val d1 ((["=", "<", "<=", "<<", ">>", "==", "!"] : List Str).map D.str) (many := 7) rfl (by decide)
          obtain ⟨x, hx, rfl⟩ := of_strs hm
          refine ⟨"sign", x, S2, ?_, u1.trans h u2, good4 x hx⟩
          simp only [List.map_cons, List.map_nil] at e2
          subst c4
          simp only [ap_bin, ap_var, ap_c, ap_un, ap_cmp, ap_nil, ap_cons, ap_tru, ap_notB, ap_andB, ap_orB, ap_and, ap_or, ap_if, ap_no, ap_some, ap_sl, ap_tup, ap_lst, ap_call, ap_bm, ap_set, ap_expr, ap_ret, ap_retN, ap_pass, ap_brk, ap_cnt, ap_seq, ap_ifS, ap_fn, ap_gN, ap_gsN, ap_gsC, ap_gT, ap_asg, ap_gSb, ap_aug, ap_it, ap_rng1, ap_rng2, ap_enum, ap_zip, ap_for, ap_yes, R.bind_ok, R.bind_bad, R.at_ok, R.bind_exc, List.getElem?_cons_zero, List.getElem?_cons_succ, List.set_cons_zero, List.set_cons_succ, List.length_cons, List.length_nil, if_true, if_false, Bool.false_eq_true, Bool.not_true, Bool.not_false, Bool.true_and, Bool.false_and, decide_true, decide_false, Nat.zero_add, e1, oLt, c1, oEq_int, c2, c3, line_le, Nat.reduceAdd, Nat.reduceLeDiff, e2, e3, endOf]
        · obtain ⟨d, w, S2, e2, e3, u2, hm⟩ := choose_val d1 ((["{", "}", "(", ")", "[", "]", ",", ";", "+", "-", "*", "&", "|", "^", "?", ":"] : List Str).map D.str) (many := 16) rfl (by decide)
          obtain ⟨x, hx, rfl⟩ := of_strs hm
          refine ⟨"sign", x, S2, ?_, u1.trans h u2, good5 x hx⟩
          simp only [List.map_cons, List.map_nil] at e2
          simp only [ap_bin, ap_var, ap_c, ap_un, ap_cmp, ap_nil, ap_cons, ap_tru, ap_notB, ap_andB, ap_orB, ap_and, ap_or, ap_if, ap_no, ap_some, ap_sl, ap_tup, ap_lst, ap_call, ap_bm, ap_set, ap_expr, ap_ret, ap_retN, ap_pass, ap_brk, ap_cnt, ap_seq, ap_ifS, ap_fn, ap_gN, ap_gsN, ap_gsC, ap_gT, ap_asg, ap_gSb, ap_aug, ap_it, ap_rng1, ap_rng2, ap_enum, ap_zip, ap_for, ap_yes, R.bind_ok, R.bind_bad, R.at_ok, R.bind_exc, List.getElem?_cons_zero, List.getElem?_cons_succ, List.set_cons_zero, List.set_cons_succ, List.length_cons, List.length_nil, if_true, if_false, Bool.false_eq_true, Bool.not_true, Bool.not_false, Bool.true_and, Bool.false_and, decide_true, decide_false, Nat.zero_add, e1, oLt, c1, oEq_int, c2, c3, c4, line_le, Nat.reduceAdd, Nat.reduceLeDiff, e2, e3, endOf]
/-- what may stand between two words -/
def blankL : List Str := [" ", "\n", "  ", "# a _ comment 'here' > @\n"]
def moreL : List Str := ["", "", "", "\n", "#\n ", "\n   ", "#x\n\n"]
theorem between_at (h : DrwA S i j row sd) : ∃ (x y : Str) (S' : Hs), m__law_between [.ref i] S = .ok (.str (x ++ y)) S' ∧ Upd i j sd S S' ∧ x ∈ blankL ∧ y ∈ moreL := by
  obtain ⟨d, v, S1, e1, f1, u1, hm⟩ := choose_val h (blankL.map D.str) (many := 4) rfl (by decide)
  obtain ⟨x, hx, rfl⟩ := of_strs hm
  have d1 := u1.drw h
  obtain ⟨d, w, S2, e2, f2, u2, hm⟩ := choose_val d1 (moreL.map D.str) (many := 7) rfl (by decide)
  obtain ⟨y, hy, rfl⟩ := of_strs hm
  refine ⟨x, y, S2, ?_, u1.trans h u2, hx, hy⟩
  have hd : m__law_between [.ref i] S = endOf (b__law_between [some (.ref i), none] S) := rfl
  have hl : x.length + y.length ≤ sizeLine := by
    have h1 : ∀ x ∈ blankL, x.length ≤ 30 := by decide +kernel
    have h2 : ∀ x ∈ moreL, x.length ≤ 30 := by decide +kernel
    have := h1 x hx
    have := h2 y hy
    exact line_le (by omega)
  rw [hd]
  unfold b__law_between
  simp only [blankL, List.map_cons, List.map_nil] at e1
  simp only [moreL, List.map_cons, List.map_nil] at e2
  simp only [ap_bin, ap_var, ap_c, ap_un, ap_cmp, ap_nil, ap_cons, ap_tru, ap_notB, ap_andB, ap_orB, ap_and, ap_or, ap_if, ap_no, ap_some, ap_sl, ap_tup, ap_lst, ap_call, ap_bm, ap_set, ap_expr, ap_ret, ap_retN, ap_pass, ap_brk, ap_cnt, ap_seq, ap_ifS, ap_fn, ap_gN, ap_gsN, ap_gsC, ap_gT, ap_asg, ap_gSb, ap_aug, ap_it, ap_rng1, ap_rng2, ap_enum, ap_zip, ap_for, ap_yes, R.bind_ok, R.bind_bad, R.at_ok, R.bind_exc, List.getElem?_cons_zero, List.getElem?_cons_succ, List.set_cons_zero, List.set_cons_succ, List.length_cons, List.length_nil, if_true, if_false, Bool.false_eq_true, Bool.not_true, Bool.not_false, Bool.true_and, Bool.false_and, decide_true, decide_false, Nat.zero_add, line_le, Nat.reduceAdd, Nat.reduceLeDiff, e1, f1, e2, f2, oAdd, hl, endOf]
def aloneL : List Str := ["{", "}", "(", ")", "[", "]", ",", ";", "+", "-", "*", "&", "|", "^", "?", ":"]
theorem alone_at (x : Str) (S : Hs) : m__law_alone [.str x] S = .ok (.bl (aloneL.any fun z => z == x)) S := by
  have hd : m__law_alone [.str x] S = endOf (b__law_alone [some (.str x)] S) := rfl
  have e : oIn (.str x) (.tup (aloneL.map D.str)) S = .ok (.bl (aloneL.any fun z => z == x)) S := by
    have h2 : (aloneL.map D.str).any (fun z => eqF z (.str x)) = aloneL.any fun z => z == x := by
      rw [List.any_map]; rfl
    have h : cIn (.str x) (.tup (aloneL.map D.str)) S = some (aloneL.any fun z => z == x) := by
      simp [cIn, flatD, h2]
    simp [oIn, h]
  simp only [aloneL, List.map_cons, List.map_nil] at e
  rw [hd]
  unfold b__law_alone
  simp only [ap_bin, ap_var, ap_c, ap_un, ap_cmp, ap_nil, ap_cons, ap_tru, ap_notB, ap_andB, ap_orB, ap_and, ap_or, ap_if, ap_no, ap_some, ap_sl, ap_tup, ap_lst, ap_call, ap_bm, ap_set, ap_expr, ap_ret, ap_retN, ap_pass, ap_brk, ap_cnt, ap_seq, ap_ifS, ap_fn, ap_gN, ap_gsN, ap_gsC, ap_gT, ap_asg, ap_gSb, ap_aug, ap_it, ap_rng1, ap_rng2, ap_enum, ap_zip, ap_for, ap_yes, R.bind_ok, R.bind_bad, R.at_ok, R.bind_exc, List.getElem?_cons_zero, List.getElem?_cons_succ, List.set_cons_zero, List.set_cons_succ, List.length_cons, List.length_nil, if_true, if_false, Bool.false_eq_true, Bool.not_true, Bool.not_false, Bool.true_and, Bool.false_and, decide_true, decide_false, Nat.zero_add, line_le, Nat.reduceAdd, Nat.reduceLeDiff, e, endOf]
  rfl
theorem sep_all : ∀ x ∈ blankL, ∀ y ∈ moreL, (skB false (x ++ y).cps.toList && decide ((x ++ y).length ≤ 60) && !(x ++ y).cps.toList.isEmpty) = true := by decide +kernel
theorem alone_sgn : ∀ x ∈ aloneL, (match x.cps.toList with | [c] => !(isLet c) && !(isDig c) && !(isWs c) && longL.all (fun z => !(z.cps.toList.head? == some c) && !(z.cps.toList[1]? == some c)) | _ => false) = true := by decide +kernel
theorem alone_chr {x : Str} (h : x ∈ aloneL) : ∃ c, x = tx [c] ∧ isLet c = false ∧ isDig c = false ∧ isWs c = false ∧ ∀ z ∈ longL, z.cps.toList.head? ≠ some c ∧ z.cps.toList[1]? ≠ some c := by
  have := alone_sgn x h
  split at this
  · rename_i c hc
    simp only [Bool.and_eq_true, Bool.not_eq_true', List.all_eq_true, beq_eq_false_iff_ne] at this
    exact ⟨c, by rw [tx_of x, hc], this.1.1.1, this.1.1.2, this.1.2, this.2⟩
  · cases this
theorem alone_mem {x : Str} (h : (aloneL.any fun z => z == x) = true) : x ∈ aloneL := by
  rw [List.any_eq_true] at h
  obtain ⟨z, hz, e⟩ := h
  have e' : z = x := by simpa using e
  exact e' ▸ hz
theorem bnd_alone1 {x : Str} (h : x ∈ aloneL) (nx : Option Nat) : bnd x.cps.toList nx = true := by
  obtain ⟨c, rfl, h1, h2, h3, h4⟩ := alone_chr h
  simp only [tx_list, bnd, h1, h2, Bool.or_self, Bool.false_eq_true, if_false, List.isEmpty_nil, Bool.not_true, Bool.false_or, Bool.not_eq_true']
  cases e : longL.any (fun z => z == tx (c :: nx.toList)) with
  | false => rfl
  | true =>
    rw [List.any_eq_true] at e
    obtain ⟨z, hz, e⟩ := e
    have e' : z = tx (c :: nx.toList) := by simpa using e
    exact absurd (by rw [e']; rfl) (h4 z hz).1
theorem bnd_alone2 {kl : Str} {last : List Nat} {w : Str} (h : w ∈ aloneL) (hl : tokS kl last = true) : bnd last w.cps.toList.head? = true := by
  obtain ⟨c, rfl, h1, h2, h3, h4⟩ := alone_chr h
  cases last with
  | nil => cases hl
  | cons x v =>
    simp only [tx_list, List.head?_cons, bnd]
    split
    · simp [h3]
    · cases e : longL.any (fun z => z == tx (x :: (some c).toList)) with
      | false => simp
      | true =>
        rw [List.any_eq_true] at e
        obtain ⟨z, hz, e⟩ := e
        have e' : z = tx [x, c] := by simpa using e
        exact absurd (by rw [e']; rfl) (h4 z hz).2
theorem sep_at (h : DrwA S i j row sd) {x0 o3 o6 o8 : Option D} {text : List Nat} {last w : Str} {k : Nat} (hk : k = 0 → last ∈ aloneL) (hl : text.length ≤ 100000) :
    ∃ (s : List Nat) (S' : Hs), (mIfS (mOrB (mNotB (mOrB (mTru (mFn m__law_alone (lCons (mVar 4) lNil))) (mTru (mFn m__law_alone (lCons (mVar 7) lNil))))) (mCmp oEq (mFn S_pick (lCons (mVar 1) (lCons (mC (.int 3)) lNil))) (mC (.int 0)))) (mIfS (mCmp oGt (mVar 5) (mC (.int 0))) (mSet 2 (mBin oAdd (mVar 2) (mFn m__law_between (lCons (mVar 1) lNil)))) mPass) mPass)
      [x0, some (.ref i), some (.str (tx text)), o3, some (.str last), some (.int (0 + (k : Int))), o6, some (.str w), o8] S = .ok (.nx [x0, some (.ref i), some (.str (tx (text ++ s))), o3, some (.str last), some (.int (0 + (k : Int))), o6, some (.str w), o8]) S' ∧
      Upd i j sd S S' ∧ skB false s = true ∧ s.length ≤ 60 ∧ (s = [] → last ∈ aloneL ∨ w ∈ aloneL) := by
  have oTru_bl : ∀ (b : Bool) (S : Hs), oTru (.bl b) S = .ok b S := fun b S => rfl
  -- what happens where something is put between
  have add : ∀ S1, Upd i j sd S S1 → 0 < k → ∃ (s : List Nat) (S' : Hs), (mIfS (mCmp oGt (mVar 5) (mC (.int 0))) (mSet 2 (mBin oAdd (mVar 2) (mFn m__law_between (lCons (mVar 1) lNil)))) mPass)
      [x0, some (.ref i), some (.str (tx text)), o3, some (.str last), some (.int (0 + (k : Int))), o6, some (.str w), o8] S1 = .ok (.nx [x0, some (.ref i), some (.str (tx (text ++ s))), o3, some (.str last), some (.int (0 + (k : Int))), o6, some (.str w), o8]) S' ∧
      Upd i j sd S S' ∧ skB false s = true ∧ s.length ≤ 60 ∧ s ≠ [] := by
    intro S1 u1 h0
    obtain ⟨x, y, S2, e, u2, hx, hy⟩ := between_at (u1.drw h)
    have := sep_all x hx y hy
    simp only [Bool.and_eq_true, decide_eq_true_eq, Bool.not_eq_true'] at this
    refine ⟨(x ++ y).cps.toList, S2, ?_, u1.trans h u2, this.1.1, this.1.2, by intro hh; rw [hh] at this; simp at this⟩
    have hk0 : (0 : Int) < 0 + (k : Int) := by omega
    have ha : oAdd (.str (tx text)) (.str (x ++ y)) S2 = .ok (.str (tx (text ++ (x ++ y).cps.toList))) S2 := by
      conv => lhs; rw [tx_of (x ++ y)]
      refine add_tx (line_le ?_)
      have h2 : (x ++ y).cps.toList.length ≤ 60 := this.1.2
      omega
    simp only [ap_bin, ap_var, ap_c, ap_un, ap_cmp, ap_nil, ap_cons, ap_tru, ap_notB, ap_andB, ap_orB, ap_and, ap_or, ap_if, ap_no, ap_some, ap_sl, ap_tup, ap_lst, ap_call, ap_bm, ap_set, ap_expr, ap_ret, ap_retN, ap_pass, ap_brk, ap_cnt, ap_seq, ap_ifS, ap_fn, ap_gN, ap_gsN, ap_gsC, ap_gT, ap_asg, ap_gSb, ap_aug, ap_it, ap_rng1, ap_rng2, ap_enum, ap_zip, ap_for, ap_yes, R.bind_ok, R.bind_bad, R.at_ok, R.bind_exc, List.getElem?_cons_zero, List.getElem?_cons_succ, List.set_cons_zero, List.set_cons_succ, List.length_cons, List.length_nil, if_true, if_false, Bool.false_eq_true, Bool.not_true, Bool.not_false, Bool.true_and, Bool.false_and, decide_true, decide_false, Nat.zero_add, oGt, hk0, e, ha]
  cases hA : (aloneL.any fun z => z == last) with
  | true =>
    have mA := alone_mem hA
    obtain ⟨v, S1, e1, u1, h1, h2⟩ := pick_ok h (many := 3) (by decide)
    by_cases c : v = 0 ∧ 0 < k
    · obtain ⟨s, S2, e2, u2, h3, h4, h5⟩ := add S1 u1 c.2
      refine ⟨s, S2, ?_, u2, h3, h4, fun _ => .inl mA⟩
      rw [← e2]
      have c1 := c.1
      subst c1
      rw [ap_ifS]
      simp only [ap_orB, ap_notB, ap_tru, ap_fn, ap_cons, ap_var, ap_nil, List.getElem?_cons_zero, List.getElem?_cons_succ, R.bind_ok, alone_at, R.at_ok, hA, oTru_bl, if_true, Bool.not_true, Bool.false_eq_true, if_false, ap_cmp, ap_c, e1, oEq_int, decide_true]
    · refine ⟨[], S1, ?_, u1, rfl, by simp, fun _ => .inl mA⟩
      rw [List.append_nil]
      by_cases c1 : v = 0
      · have hk0 : ¬ (0 : Int) < 0 + (k : Int) := by
          have : ¬ 0 < k := fun hh => c ⟨c1, hh⟩
          omega
        subst c1
        simp only [ap_bin, ap_var, ap_c, ap_un, ap_cmp, ap_nil, ap_cons, ap_tru, ap_notB, ap_andB, ap_orB, ap_and, ap_or, ap_if, ap_no, ap_some, ap_sl, ap_tup, ap_lst, ap_call, ap_bm, ap_set, ap_expr, ap_ret, ap_retN, ap_pass, ap_brk, ap_cnt, ap_seq, ap_ifS, ap_fn, ap_gN, ap_gsN, ap_gsC, ap_gT, ap_asg, ap_gSb, ap_aug, ap_it, ap_rng1, ap_rng2, ap_enum, ap_zip, ap_for, ap_yes, R.bind_ok, R.bind_bad, R.at_ok, R.bind_exc, List.getElem?_cons_zero, List.getElem?_cons_succ, List.set_cons_zero, List.set_cons_succ, List.length_cons, List.length_nil, if_true, if_false, Bool.false_eq_true, Bool.not_true, Bool.not_false, Bool.true_and, Bool.false_and, decide_true, decide_false, Nat.zero_add, alone_at, hA, oTru_bl, e1, oEq_int, oGt, hk0]
      · simp only [ap_bin, ap_var, ap_c, ap_un, ap_cmp, ap_nil, ap_cons, ap_tru, ap_notB, ap_andB, ap_orB, ap_and, ap_or, ap_if, ap_no, ap_some, ap_sl, ap_tup, ap_lst, ap_call, ap_bm, ap_set, ap_expr, ap_ret, ap_retN, ap_pass, ap_brk, ap_cnt, ap_seq, ap_ifS, ap_fn, ap_gN, ap_gsN, ap_gsC, ap_gT, ap_asg, ap_gSb, ap_aug, ap_it, ap_rng1, ap_rng2, ap_enum, ap_zip, ap_for, ap_yes, R.bind_ok, R.bind_bad, R.at_ok, R.bind_exc, List.getElem?_cons_zero, List.getElem?_cons_succ, List.set_cons_zero, List.set_cons_succ, List.length_cons, List.length_nil, if_true, if_false, Bool.false_eq_true, Bool.not_true, Bool.not_false, Bool.true_and, Bool.false_and, decide_true, decide_false, Nat.zero_add, alone_at, hA, oTru_bl, e1, oEq_int, c1]
  | false =>
    have h0 : 0 < k := by
      rcases Nat.eq_zero_or_pos k with hk0 | hk0
      · have := hk hk0
        rw [List.any_eq_false] at hA
        exact absurd (by simp) (hA last this)
      · exact hk0
    cases hB : (aloneL.any fun z => z == w) with
    | true =>
      have mB := alone_mem hB
      obtain ⟨v, S1, e1, u1, h1, h2⟩ := pick_ok h (many := 3) (by decide)
      by_cases c1 : v = 0
      · obtain ⟨s, S2, e2, u2, h3, h4, h5⟩ := add S1 u1 h0
        refine ⟨s, S2, ?_, u2, h3, h4, fun _ => .inr mB⟩
        rw [← e2]
        subst c1
        rw [ap_ifS]
        simp only [ap_orB, ap_notB, ap_tru, ap_fn, ap_cons, ap_var, ap_nil, List.getElem?_cons_zero, List.getElem?_cons_succ, R.bind_ok, alone_at, R.at_ok, hA, hB, oTru_bl, if_true, Bool.not_true, Bool.false_eq_true, if_false, ap_cmp, ap_c, e1, oEq_int, decide_true]
      · refine ⟨[], S1, ?_, u1, rfl, by simp, fun _ => .inr mB⟩
        rw [List.append_nil]
        simp only [ap_bin, ap_var, ap_c, ap_un, ap_cmp, ap_nil, ap_cons, ap_tru, ap_notB, ap_andB, ap_orB, ap_and, ap_or, ap_if, ap_no, ap_some, ap_sl, ap_tup, ap_lst, ap_call, ap_bm, ap_set, ap_expr, ap_ret, ap_retN, ap_pass, ap_brk, ap_cnt, ap_seq, ap_ifS, ap_fn, ap_gN, ap_gsN, ap_gsC, ap_gT, ap_asg, ap_gSb, ap_aug, ap_it, ap_rng1, ap_rng2, ap_enum, ap_zip, ap_for, ap_yes, R.bind_ok, R.bind_bad, R.at_ok, R.bind_exc, List.getElem?_cons_zero, List.getElem?_cons_succ, List.set_cons_zero, List.set_cons_succ, List.length_cons, List.length_nil, if_true, if_false, Bool.false_eq_true, Bool.not_true, Bool.not_false, Bool.true_and, Bool.false_and, decide_true, decide_false, Nat.zero_add, alone_at, hA, hB, oTru_bl, e1, oEq_int, c1]
    | false =>
      obtain ⟨s, S2, e2, u2, h3, h4, h5⟩ := add S (Upd.refl h) h0
      refine ⟨s, S2, ?_, u2, h3, h4, fun hh => absurd hh h5⟩
      rw [← e2]
      rw [ap_ifS]
      simp only [ap_orB, ap_notB, ap_tru, ap_fn, ap_cons, ap_var, ap_nil, List.getElem?_cons_zero, List.getElem?_cons_succ, R.bind_ok, alone_at, R.at_ok, hA, hB, oTru_bl, if_true, Bool.not_false, Bool.false_eq_true, if_false]
structure Law1 (x0 : Option D) (i j q : Nat) (row : List Int) (sd : Int) (k : Nat) (l : Ls) (S : Hs) : Prop where
  dr : DrwA S i j row sd
  ex : ∃ (text : List Nat) (due : List D) (last kl : Str) (o5 o6 o7 o8 : Option D), l = [x0, some (.ref i), some (.str (tx text)), some (.ref q), some (.str last), o5, o6, o7, o8] ∧ S[q]? = some (.lst due) ∧
    Built text due last.cps.toList ∧ tokS kl last.cps.toList = true ∧ text.length ≤ 100 * (k + 1) ∧ due.length = k ∧ (k = 0 → last = "(") ∧ D.plains due = true ∧ (∀ x ∈ due, x.toP.depth ≤ 5)
theorem cnt_tx (cs : List Nat) : Txt.count (tx cs) "\n" = (cs.count 10 : Int) := by rw [nlS]; exact count_tx cs 10
theorem rf_tx (cs : List Nat) : Txt.rfind (tx cs) "\n" = (behC 10 cs 0 0 : Int) - 1 := by rw [nlS]; exact rfind_tx cs 10
theorem step_at {x0 : Option D} {q : Nat} (hqi : q ≠ i) (hqj : q ≠ j) (k : Nat) (l : Ls) (S : Hs) (hk : k < 120) (h : Law1 x0 i j q row sd k l S) : ∃ l' S', lb_law_0 (l.set 5 (some (.int (0 + (k : Int))))) S = .ok (.nx l') S' ∧ Law1 x0 i j q row sd (k + 1) l' S' := by
  obtain ⟨dr, text, due, last, kl, o5, o6, o7, o8, rfl, hq, hb, ht, hlen, hdl, h0, hp, hdep⟩ := h
  obtain ⟨kind, w, S1, e1, u1, hw⟩ := word_at dr
  simp only [goodW, Bool.and_eq_true, decide_eq_true_eq] at hw
  obtain ⟨⟨⟨w1, w2⟩, w3⟩, w4⟩ := hw
  have d1 := u1.drw dr
  obtain ⟨s, S2, e2, u2, s1, s2, s3⟩ := sep_at (x0 := x0) (o3 := some (.ref q)) (o6 := some (.str kind)) (o8 := o8) (text := text) (last := last) (w := w) (k := k) d1 (fun hh => by rw [h0 hh]; decide +kernel) (by omega)
  have u := u1.trans dr u2
  have d2 := u.drw dr
  have hq2 : S2[q]? = some (.lst due) := u.get hq hqi
  have hsz : due.length < sizeLine := line_big (by omega)
  have hadd : ∀ S, oAdd (.str (tx (text ++ s))) (.str w) S = .ok (.str (tx (text ++ s ++ w.cps.toList))) S := by
    intro S
    conv => lhs; rw [tx_of w]
    refine add_tx (line_le ?_)
    have hw2 : w.cps.toList.length ≤ 20 := w2
    simp only [List.length_append]
    omega
  have hlt : ∀ S, bLen [.str (tx (text ++ s))] S = .ok (.int ((text ++ s).length : Int)) S := fun S => len_tx (line_le (by simp only [List.length_append]; omega))
  have htok : (D.tup [.str kind, .str w, .int (((text ++ s).count 10 : Int) + 1), .int (((text ++ s).length : Int) - ((behC 10 (text ++ s) 0 0 : Int) - 1))]) = tokD kind w.cps.toList (text ++ s) := by
    have hc : ((text ++ s).length : Int) - ((behC 10 (text ++ s) 0 0 : Int) - 1) = ((text ++ s).length : Int) - (behC 10 (text ++ s) 0 0 : Int) + 1 := by omega
    rw [hc]; rfl
  refine ⟨[x0, some (.ref i), some (.str (tx (text ++ s ++ w.cps.toList))), some (.ref q), some (.str w), some (.int (0 + (k : Int))), some (.str kind), some (.str w), o8], S2.set q (.lst (due ++ [tokD kind w.cps.toList (text ++ s)])), ?_, ?_, ?_⟩
  · unfold lb_law_0
    rw [ap_seq]
    simp only [ap_bin, ap_var, ap_c, ap_un, ap_cmp, ap_nil, ap_cons, ap_tru, ap_notB, ap_andB, ap_orB, ap_and, ap_or, ap_if, ap_no, ap_some, ap_sl, ap_tup, ap_lst, ap_call, ap_bm, ap_set, ap_expr, ap_ret, ap_retN, ap_pass, ap_brk, ap_cnt, ap_seq, ap_ifS, ap_fn, ap_gN, ap_gsN, ap_gsC, ap_gT, ap_asg, ap_gSb, ap_aug, ap_it, ap_rng1, ap_rng2, ap_enum, ap_zip, ap_for, ap_yes, R.bind_ok, R.bind_bad, R.at_ok, R.bind_exc, List.getElem?_cons_zero, List.getElem?_cons_succ, List.set_cons_zero, List.set_cons_succ, List.length_cons, List.length_nil, if_true, if_false, Bool.false_eq_true, Bool.not_true, Bool.not_false, Bool.true_and, Bool.false_and, decide_true, decide_false, Nat.zero_add, -ap_ifS, e1, e2, hasTy, hq2, oCount, oRfind, cnt_tx, rf_tx, hlt, oAdd_int, oSub, oAppend, hsz, hadd, line_le, Nat.reduceAdd, Nat.reduceLeDiff, htok]
  · obtain ⟨a, d2⟩ := d2
    exact ⟨a, by rw [List.getElem?_set_ne hqi]; exact d2.d, by rw [List.getElem?_set_ne hqj]; exact d2.r, d2.ne, d2.nn⟩
  · refine ⟨text ++ s ++ w.cps.toList, due ++ [tokD kind w.cps.toList (text ++ s)], w, kind, _, _, _, _, rfl, get_put hq2, ?_, w1, ?_, by simp [hdl], fun hh => by omega, ?_, ?_⟩
    · refine hb.step s1 w1 ?_
      cases hs : s with
      | nil =>
        rcases s3 hs with m | m
        · exact bnd_alone1 m _
        · exact bnd_alone2 m ht
      | cons c r =>
        refine bnd_blank ht fun c' hc => ?_
        have : s.head? = some c' := by rw [hs] at *; simpa using hc
        exact skB_head s1 this
    · have hw2 : w.cps.toList.length ≤ 20 := w2
      simp only [List.length_append]
      omega
    · rw [plains_app, hp]
      simp only [tokD, D.plains, D.plain, Bool.true_and, Bool.and_true, rowD, colD]
      rw [w4]
      exact w3
    · intro x hx
      rcases List.mem_append.mp hx with hx | hx
      · exact hdep x hx
      · simp only [List.mem_singleton] at hx
        subst hx
        simp [tokD, D.toP, D.toPs, PyData.depth, PyData.depthAll, rowD, colD]
end
theorem lx_end (cs : List Nat) : Lx cs [] [] := .done
def initL : List Str := ["", "", " ", "\n", "# begin\n  "]
def tailL : List Str := ["", " ", "\n", "\n  ", " # the end"]
theorem init_ok : ∀ x ∈ initL, (skB false x.cps.toList && decide (x.length ≤ 20)) = true := by decide +kernel
theorem tail_ok : ∀ x ∈ tailL, (skE false x.cps.toList && decide (x.length ≤ 20)) = true := by decide +kernel
theorem kw_plain : D.plains (kwL.map D.str) = true := by decide +kernel
theorem law_true : LawTrue m_law := by
  intro ns x S hn _ _ _ _ hx _
  obtain ⟨row, hr, e1⟩ := stream_true (most := 300) hx hn (by decide)
  have e1' : m__law_stream [x, .int 300] S = .ok (.ref (S.length + 1)) (S ++ [.lst (row.map D.int), drawsO S.length 0 row.length]) := e1
  have hd1 : DrwA (S ++ [.lst (row.map D.int), drawsO S.length 0 row.length]) (S.length + 1) S.length row row.length :=
    ⟨0, by simp, by simp, by omega, by omega⟩
  generalize hS1 : S ++ [.lst (row.map D.int), drawsO S.length 0 row.length] = S1 at e1' hd1
  have hlen1 : S1.length = S.length + 2 := by rw [← hS1]; simp
  -- the beginning of the text
  obtain ⟨d, v2, S2, e2, f2, u2, hm⟩ := choose_val hd1 (initL.map D.str) (many := 5) rfl (by decide)
  obtain ⟨t0, ht0, rfl⟩ := of_strs hm
  have d2 := u2.drw hd1
  have hlen2 := u2.le
  have d3 : DrwA (S2 ++ [.lst []]) (S.length + 1) S.length row row.length := (Upd.new d2).drw d2
  have h0 := init_ok t0 ht0
  simp only [Bool.and_eq_true, decide_eq_true_eq] at h0
  -- the words
  have hmin : (if (1 + (row.length : Int) / 3) < 120 then (1 + (row.length : Int) / 3) else 120) = (((if (1 + (row.length : Int) / 3) < 120 then (1 + (row.length : Int) / 3) else 120).toNat : Nat) : Int) := by
    split <;> omega
  generalize hnn : (if (1 + (row.length : Int) / 3) < 120 then (1 + (row.length : Int) / 3) else 120).toNat = n at hmin
  have hn120 : n ≤ 120 := by rw [← hnn]; split <;> omega
  have hrng : oRng1 [.int (n : Int)] (S2 ++ [.lst []]) = .ok (.rng 0 n) (S2 ++ [.lst []]) := by
    have := rng1 (n := (n : Int)) (S2 ++ [.lst []]) (by omega) (by omega)
    simpa using this
  obtain ⟨l', S4, e4, hL⟩ := range_loop (lo := 0) (n := n) (i := 5) (b := lb_law_0) (Law1 (some x) (S.length + 1) S.length S2.length row row.length)
    (fun k l S' hk h => step_at (by omega) (by omega) k l S' (by omega) h) n 0
    [some x, some (.ref (S.length + 1)), some (.str (tx t0.cps.toList)), some (.ref S2.length), some (.str "("), none, none, none, none] (S2 ++ [.lst []]) (by omega)
    ⟨d3, t0.cps.toList, [], "(", "sign", none, none, none, none, rfl, get_end, Built.first h0.1 _, by decide +kernel, by have := h0.2; simp only [Str.length] at this; simp; omega, rfl, fun _ => rfl, rfl, fun x hx => by cases hx⟩
  obtain ⟨d4, text, due, last, kl, o5, o6, o7, o8, rfl, hq4, hb, ht, htl, hdl, _, hp, hdep⟩ := hL
  -- the end of the text
  obtain ⟨d, v5, S5, e5, f5, u5, hm⟩ := choose_val d4 (tailL.map D.str) (many := 5) rfl (by decide)
  obtain ⟨t1, ht1, rfl⟩ := of_strs hm
  have h1 := tail_ok t1 ht1
  simp only [Bool.and_eq_true, decide_eq_true_eq] at h1
  have hq5 : S5[S2.length]? = some (.lst due) := u5.get hq4 (by omega)
  have ht1l : t1.cps.toList.length ≤ 20 := h1.2
  have htext : (text ++ t1.cps.toList).length ≤ 20000 := by simp only [List.length_append]; omega
  have ha5 : ∀ S, oAdd (.str (tx text)) (.str t1) S = .ok (.str (tx (text ++ t1.cps.toList))) S := by
    intro S
    conv => lhs; rw [tx_of t1]
    exact add_tx (line_le (by omega))
  have hlx : Lx [] (text ++ t1.cps.toList) due := hb.all (kind := kl) (bnd_blank ht fun c hc => skE_head h1.1 hc) h1.1
  generalize hcs : text ++ t1.cps.toList = cs at htext ha5 hlx
  have htk : ∀ S, m_tokens [.str (tx cs)] S = .ok (.ref S.length) (S ++ [.lst (due ++ [endD cs])]) := fun S => toks_ok hlx (Nat.lt_of_le_of_lt htext (by decide)) S
  have hlt : ∀ S, bLen [.str (tx cs)] S = .ok (.int (cs.length : Int)) S := fun S => len_tx (line_le (by omega))
  have htok : (D.tup [.str "end", .str "", .int ((cs.count 10 : Int) + 1), .int ((cs.length : Int) - ((behC 10 cs 0 0 : Int) - 1))]) = endD cs := by
    have hc : (cs.length : Int) - ((behC 10 cs 0 0 : Int) - 1) = (cs.length : Int) - (behC 10 cs 0 0 : Int) + 1 := by omega
    rw [hc]; rfl
  have hsz : due.length < sizeLine := line_big (by omega)
  -- what came of it
  generalize hS6 : S5.set S2.length (.lst (due ++ [endD cs])) = S6
  have hq6 : S6[S2.length]? = some (.lst (due ++ [endD cs])) := by rw [← hS6]; exact get_put hq5
  have hq7 : (S6 ++ [.lst (due ++ [endD cs])])[S2.length]? = some (.lst (due ++ [endD cs])) := by rw [List.getElem?_append_left (Real.lt hq6)]; exact hq6
  have hpl : D.plains (due ++ [endD cs]) = true := by rw [plains_app, hp]; simp [endD, D.plains, D.plain, rowD, colD]; decide +kernel
  have hdp : PyData.depthAll (D.toPs (due ++ [endD cs])) ≤ 30 := by
    refine depthAll_mem _ fun y hy => ?_
    rcases List.mem_append.mp hy with hy | hy
    · have := hdep y hy; omega
    · simp only [List.mem_singleton] at hy
      subst hy
      simp [endD, D.toP, D.toPs, PyData.depth, PyData.depthAll, rowD, colD]
  have hne : oNe (.ref S6.length) (.ref S2.length) (S6 ++ [.lst (due ++ [endD cs])]) = .ok (.bl false) (S6 ++ [.lst (due ++ [endD cs])]) := by
    simp only [oNe, eq_lsts get_end hq7 hpl hdp]; rfl
  generalize hS7 : S6 ++ [.lst (due ++ [endD cs])] = S7 at hne hq7
  have hi7 : S7[S6.length]? = some (.lst (due ++ [endD cs])) := by rw [← hS7]; exact get_end
  -- the keywords
  have ek : m__law_keywords [] S7 = .ok (.ref S7.length) (S7 ++ [.lst (kwL.map D.str)]) := by
    have hd : m__law_keywords [] S7 = endOf (b__law_keywords [] S7) := rfl
    rw [hd]
    unfold b__law_keywords
    simp only [ap_bin, ap_var, ap_c, ap_un, ap_cmp, ap_nil, ap_cons, ap_tru, ap_notB, ap_andB, ap_orB, ap_and, ap_or, ap_if, ap_no, ap_some, ap_sl, ap_tup, ap_lst, ap_call, ap_bm, ap_set, ap_expr, ap_ret, ap_retN, ap_pass, ap_brk, ap_cnt, ap_seq, ap_ifS, ap_fn, ap_gN, ap_gsN, ap_gsC, ap_gT, ap_asg, ap_gSb, ap_aug, ap_it, ap_rng1, ap_rng2, ap_enum, ap_zip, ap_for, ap_yes, R.bind_ok, R.bind_bad, R.at_ok, R.bind_exc, List.getElem?_cons_zero, List.getElem?_cons_succ, List.set_cons_zero, List.set_cons_succ, List.length_cons, List.length_nil, if_true, if_false, Bool.false_eq_true, Bool.not_true, Bool.not_false, Bool.true_and, Bool.false_and, decide_true, decide_false, Nat.zero_add, line_le, Nat.reduceAdd, Nat.reduceLeDiff, endOf]
    rfl
  generalize hS8 : S7 ++ [.lst (kwL.map D.str)] = S8 at ek
  have hk8 : S8[S7.length]? = some (.lst (kwL.map D.str)) := by rw [← hS8]; exact get_end
  have hkt : bTuple [.ref S7.length] S8 = .ok (.tup (kwL.map D.str)) S8 := by simp only [bTuple, seqD, hk8]
  have hke : oEq d_KEYWORDS (.tup (kwL.map D.str)) S8 = .ok (.bl true) S8 := by
    have hd : PyData.depthAll (D.toPs (kwL.map D.str)) ≤ 30 := by decide +kernel
    have h2 := pd_tup (S := S8) kw_plain hd
    have h3 : D.pd S8 70 (.wt (kwL.map D.str)) = some (.tuple (D.toPs (kwL.map D.str))) := by
      rw [D.pd, D.pds_plain S8 _ 69 kw_plain (by omega)]; rfl
    have h4 : cEqD (.wt (kwL.map D.str)) (.tup (kwL.map D.str)) S8 = some true := cEqD_same rfl h3 h2.1 h2.2
    show oEq (.wt (kwL.map D.str)) (.tup (kwL.map D.str)) S8 = _
    simp only [oEq, h4]
  -- the empty text
  have e9 : m_tokens [.str ""] S8 = .ok (.ref S8.length) (S8 ++ [.lst [endD []]]) := toks_ok (cs := []) Lx.done (by decide) S8
  generalize hS9 : S8 ++ [.lst [endD []]] = S9 at e9
  have h9 : S9[S8.length]? = some (.lst [endD []]) := by rw [← hS9]; exact get_end
  have h10 : (S9 ++ [.lst [endD []]])[S8.length]? = some (.lst [endD []]) := by rw [List.getElem?_append_left (Real.lt h9)]; exact h9
  have hend : D.tup [.str "end", .str "", .int 1, .int 1] = endD [] := rfl
  have hee : oEq (.ref S8.length) (.ref S9.length) (S9 ++ [.lst [endD []]]) = .ok (.bl true) (S9 ++ [.lst [endD []]]) := by
    simp only [oEq, eq_lsts h10 get_end (by decide +kernel) (by decide +kernel)]
  -- the law's rows, one after the other
  refine ⟨S9 ++ [.lst [endD []]], ?_⟩
  have hd : m_law [x] S = endOf (b_law [some x, none, none, none, none, none, none, none, none] S) := rfl
  have hr3 := ix_row d3
  have hdiv : ∀ S, oFdiv (.int (row.length : Int)) (.int 3) S = .ok (.int ((row.length : Int) / 3)) S := by
    intro S
    have : 0 < (3 : Int) ∧ (3 : Int).natAbs.log2 < 9000 := by decide
    simp only [oFdiv]
    rw [if_pos this]
  have hmn : ∀ S, bMin [.int 120, .int (1 + (row.length : Int) / 3)] S = .ok (.int (n : Int)) S := by
    intro S
    simp only [bMin]
    rw [hmin]
  rw [hd]
  unfold b_law
  simp only [initL, List.map_cons, List.map_nil] at e2
  simp only [tailL, List.map_cons, List.map_nil] at e5
  have et0 : t0 = tx t0.cps.toList := tx_of t0
  rw [← et0] at e4
  simp only [ap_bin, ap_var, ap_c, ap_un, ap_cmp, ap_nil, ap_cons, ap_tru, ap_notB, ap_andB, ap_orB, ap_and, ap_or, ap_if, ap_no, ap_some, ap_sl, ap_tup, ap_lst, ap_call, ap_bm, ap_set, ap_expr, ap_ret, ap_retN, ap_pass, ap_brk, ap_cnt, ap_seq, ap_ifS, ap_fn, ap_gN, ap_gsN, ap_gsC, ap_gT, ap_asg, ap_gSb, ap_aug, ap_it, ap_rng1, ap_rng2, ap_enum, ap_zip, ap_for, ap_yes, R.bind_ok, R.bind_bad, R.at_ok, R.bind_exc, List.getElem?_cons_zero, List.getElem?_cons_succ, List.set_cons_zero, List.set_cons_succ, List.length_cons, List.length_nil, if_true, if_false, Bool.false_eq_true, Bool.not_true, Bool.not_false, Bool.true_and, Bool.false_and, decide_true, decide_false, Nat.zero_add, e1', line_le, Nat.reduceAdd, Nat.reduceLeDiff, e2, f2, hr3.1, hr3.2, hdiv, oAdd_int, hmn, hrng, e4, e5, f5, ha5, hasTy, hq5, oCount, oRfind, cnt_tx, rf_tx, hlt, oSub_int, htok, oAppend, hsz, hS6, htk, hS7, isi_lst hi7, oTru_bl, hne, ek, hkt, hke, e9, hend, hee, endOf]
end GK00
set_option Elab.async false
set_option linter.all false
set_option maxRecDepth 100000
namespace GK00
open PySem PySem.Spec L2 Ly
open PyProof.Rows hiding St
theorem all_mk {l : PySem.W.OpenLaw} {w : World} {K : PySem.W.Frag} {h : Heap} {mg : Str → Option Value} {fa : Addr} (X : K.In h) (G : h.Ns mainGlobals mg) (hfa : mg "law" = some (.ref fa))
    {f__law_mix : Addr} {od__law_mix an__law_mix : Option Addr} {sl__law_mix : Array (Option Value)} {oc__law_mix kV__law_mix dc__law_mix pm__law_mix cd__law_mix ct__law_mix : Value} {f__law_stream : Addr} {od__law_stream an__law_stream : Option Addr} {sl__law_stream : Array (Option Value)} {oc__law_stream kV__law_stream dc__law_stream pm__law_stream cd__law_stream ct__law_stream : Value} {f__comment_end : Addr} {od__comment_end an__comment_end : Option Addr} {sl__comment_end : Array (Option Value)} {oc__comment_end kV__comment_end dc__comment_end pm__comment_end cd__comment_end ct__comment_end : Value} {f__word : Addr} {od__word an__word : Option Addr} {sl__word : Array (Option Value)} {oc__word kV__word dc__word pm__word cd__word ct__word : Value} {f__is_number : Addr} {od__is_number an__is_number : Option Addr} {sl__is_number : Array (Option Value)} {oc__is_number kV__is_number dc__is_number pm__is_number cd__is_number ct__is_number : Value} {f__token : Addr} {od__token an__token : Option Addr} {sl__token : Array (Option Value)} {oc__token kV__token dc__token pm__token cd__token ct__token : Value} {f_tokens : Addr} {od_tokens an_tokens : Option Addr} {sl_tokens : Array (Option Value)} {oc_tokens kV_tokens dc_tokens pm_tokens cd_tokens ct_tokens : Value} {f__law_pick : Addr} {od__law_pick an__law_pick : Option Addr} {sl__law_pick : Array (Option Value)} {oc__law_pick kV__law_pick dc__law_pick pm__law_pick cd__law_pick ct__law_pick : Value} {f__law_keywords : Addr} {od__law_keywords an__law_keywords : Option Addr} {sl__law_keywords : Array (Option Value)} {oc__law_keywords kV__law_keywords dc__law_keywords pm__law_keywords cd__law_keywords ct__law_keywords : Value} {f__law_word : Addr} {od__law_word an__law_word : Option Addr} {sl__law_word : Array (Option Value)} {oc__law_word kV__law_word dc__law_word pm__law_word cd__law_word ct__law_word : Value} {f__law_alone : Addr} {od__law_alone an__law_alone : Option Addr} {sl__law_alone : Array (Option Value)} {oc__law_alone kV__law_alone dc__law_alone pm__law_alone cd__law_alone ct__law_alone : Value} {f__law_between : Addr} {od__law_between an__law_between : Option Addr} {sl__law_between : Array (Option Value)} {oc__law_between kV__law_between dc__law_between pm__law_between cd__law_between ct__law_between : Value} {f_law : Addr} {od_law an_law : Option Addr} {sl_law : Array (Option Value)} {oc_law kV_law dc_law pm_law cd_law ct_law : Value} {u_WORD_SIGNS : Value} {u_MOST_DIGITS : Value} {u_DIGITS : Value} {u_GREATEST_WORD : Value} {u_LETTERS : Value} {ad_KEYWORDS : Addr} {cd_KEYWORDS : Option Addr} {n_KEYWORDS : Nat} {sl_KEYWORDS : Array (Option Value)} {its_KEYWORDS : Array Value} {ad_LONG_SIGNS : Addr} {cd_LONG_SIGNS : Option Addr} {n_LONG_SIGNS : Nat} {sl_LONG_SIGNS : Array (Option Value)} {its_LONG_SIGNS : Array Value} {ad_SHORT_SIGNS : Addr} {cd_SHORT_SIGNS : Option Addr} {n_SHORT_SIGNS : Nat} {sl_SHORT_SIGNS : Array (Option Value)} {its_SHORT_SIGNS : Array Value}
    (a__law_mix : PySem.W.nsIn K mainGlobals "_law_mix" = some (some (.ref f__law_mix)))
    (l__law_mix : K.lookup f__law_mix = some ⟨oc__law_mix, od__law_mix, .func (PySem.W.fnOf "_law_mix" "_law_mix" (defArgs s__law_mix) (defBody s__law_mix) (defScope s__law_mix) .none kV__law_mix dc__law_mix pm__law_mix an__law_mix cd__law_mix ct__law_mix), sl__law_mix⟩)
    (c__law_mix : PySem.W.codeIn K cd__law_mix "_law_mix" = true)
    (k__law_mix : PySem.W.keepIn K (.ref f__law_mix) = true)
    (a__law_stream : PySem.W.nsIn K mainGlobals "_law_stream" = some (some (.ref f__law_stream)))
    (l__law_stream : K.lookup f__law_stream = some ⟨oc__law_stream, od__law_stream, .func (PySem.W.fnOf "_law_stream" "_law_stream" (defArgs s__law_stream) (defBody s__law_stream) (defScope s__law_stream) .none kV__law_stream dc__law_stream pm__law_stream an__law_stream cd__law_stream ct__law_stream), sl__law_stream⟩)
    (c__law_stream : PySem.W.codeIn K cd__law_stream "_law_stream" = true)
    (k__law_stream : PySem.W.keepIn K (.ref f__law_stream) = true)
    (a__comment_end : PySem.W.nsIn K mainGlobals "_comment_end" = some (some (.ref f__comment_end)))
    (l__comment_end : K.lookup f__comment_end = some ⟨oc__comment_end, od__comment_end, .func (PySem.W.fnOf "_comment_end" "_comment_end" (defArgs s__comment_end) (defBody s__comment_end) (defScope s__comment_end) .none kV__comment_end dc__comment_end pm__comment_end an__comment_end cd__comment_end ct__comment_end), sl__comment_end⟩)
    (c__comment_end : PySem.W.codeIn K cd__comment_end "_comment_end" = true)
    (k__comment_end : PySem.W.keepIn K (.ref f__comment_end) = true)
    (a__word : PySem.W.nsIn K mainGlobals "_word" = some (some (.ref f__word)))
    (l__word : K.lookup f__word = some ⟨oc__word, od__word, .func (PySem.W.fnOf "_word" "_word" (defArgs s__word) (defBody s__word) (defScope s__word) .none kV__word dc__word pm__word an__word cd__word ct__word), sl__word⟩)
    (c__word : PySem.W.codeIn K cd__word "_word" = true)
    (k__word : PySem.W.keepIn K (.ref f__word) = true)
    (a__is_number : PySem.W.nsIn K mainGlobals "_is_number" = some (some (.ref f__is_number)))
    (l__is_number : K.lookup f__is_number = some ⟨oc__is_number, od__is_number, .func (PySem.W.fnOf "_is_number" "_is_number" (defArgs s__is_number) (defBody s__is_number) (defScope s__is_number) .none kV__is_number dc__is_number pm__is_number an__is_number cd__is_number ct__is_number), sl__is_number⟩)
    (c__is_number : PySem.W.codeIn K cd__is_number "_is_number" = true)
    (k__is_number : PySem.W.keepIn K (.ref f__is_number) = true)
    (a__token : PySem.W.nsIn K mainGlobals "_token" = some (some (.ref f__token)))
    (l__token : K.lookup f__token = some ⟨oc__token, od__token, .func (PySem.W.fnOf "_token" "_token" (defArgs s__token) (defBody s__token) (defScope s__token) .none kV__token dc__token pm__token an__token cd__token ct__token), sl__token⟩)
    (c__token : PySem.W.codeIn K cd__token "_token" = true)
    (k__token : PySem.W.keepIn K (.ref f__token) = true)
    (a_tokens : PySem.W.nsIn K mainGlobals "tokens" = some (some (.ref f_tokens)))
    (l_tokens : K.lookup f_tokens = some ⟨oc_tokens, od_tokens, .func (PySem.W.fnOf "tokens" "tokens" (defArgs s_tokens) (defBody s_tokens) (defScope s_tokens) .none kV_tokens dc_tokens pm_tokens an_tokens cd_tokens ct_tokens), sl_tokens⟩)
    (c_tokens : PySem.W.codeIn K cd_tokens "tokens" = true)
    (k_tokens : PySem.W.keepIn K (.ref f_tokens) = true)
    (a__law_pick : PySem.W.nsIn K mainGlobals "_law_pick" = some (some (.ref f__law_pick)))
    (l__law_pick : K.lookup f__law_pick = some ⟨oc__law_pick, od__law_pick, .func (PySem.W.fnOf "_law_pick" "_law_pick" (defArgs s__law_pick) (defBody s__law_pick) (defScope s__law_pick) .none kV__law_pick dc__law_pick pm__law_pick an__law_pick cd__law_pick ct__law_pick), sl__law_pick⟩)
    (c__law_pick : PySem.W.codeIn K cd__law_pick "_law_pick" = true)
    (k__law_pick : PySem.W.keepIn K (.ref f__law_pick) = true)
    (a__law_keywords : PySem.W.nsIn K mainGlobals "_law_keywords" = some (some (.ref f__law_keywords)))
    (l__law_keywords : K.lookup f__law_keywords = some ⟨oc__law_keywords, od__law_keywords, .func (PySem.W.fnOf "_law_keywords" "_law_keywords" (defArgs s__law_keywords) (defBody s__law_keywords) (defScope s__law_keywords) .none kV__law_keywords dc__law_keywords pm__law_keywords an__law_keywords cd__law_keywords ct__law_keywords), sl__law_keywords⟩)
    (c__law_keywords : PySem.W.codeIn K cd__law_keywords "_law_keywords" = true)
    (k__law_keywords : PySem.W.keepIn K (.ref f__law_keywords) = true)
    (a__law_word : PySem.W.nsIn K mainGlobals "_law_word" = some (some (.ref f__law_word)))
    (l__law_word : K.lookup f__law_word = some ⟨oc__law_word, od__law_word, .func (PySem.W.fnOf "_law_word" "_law_word" (defArgs s__law_word) (defBody s__law_word) (defScope s__law_word) .none kV__law_word dc__law_word pm__law_word an__law_word cd__law_word ct__law_word), sl__law_word⟩)
    (c__law_word : PySem.W.codeIn K cd__law_word "_law_word" = true)
    (k__law_word : PySem.W.keepIn K (.ref f__law_word) = true)
    (a__law_alone : PySem.W.nsIn K mainGlobals "_law_alone" = some (some (.ref f__law_alone)))
    (l__law_alone : K.lookup f__law_alone = some ⟨oc__law_alone, od__law_alone, .func (PySem.W.fnOf "_law_alone" "_law_alone" (defArgs s__law_alone) (defBody s__law_alone) (defScope s__law_alone) .none kV__law_alone dc__law_alone pm__law_alone an__law_alone cd__law_alone ct__law_alone), sl__law_alone⟩)
    (c__law_alone : PySem.W.codeIn K cd__law_alone "_law_alone" = true)
    (k__law_alone : PySem.W.keepIn K (.ref f__law_alone) = true)
    (a__law_between : PySem.W.nsIn K mainGlobals "_law_between" = some (some (.ref f__law_between)))
    (l__law_between : K.lookup f__law_between = some ⟨oc__law_between, od__law_between, .func (PySem.W.fnOf "_law_between" "_law_between" (defArgs s__law_between) (defBody s__law_between) (defScope s__law_between) .none kV__law_between dc__law_between pm__law_between an__law_between cd__law_between ct__law_between), sl__law_between⟩)
    (c__law_between : PySem.W.codeIn K cd__law_between "_law_between" = true)
    (k__law_between : PySem.W.keepIn K (.ref f__law_between) = true)
    (a_law : PySem.W.nsIn K mainGlobals "law" = some (some (.ref f_law)))
    (l_law : K.lookup f_law = some ⟨oc_law, od_law, .func (PySem.W.fnOf "law" "law" (defArgs s_law) (defBody s_law) (defScope s_law) .none kV_law dc_law pm_law an_law cd_law ct_law), sl_law⟩)
    (c_law : PySem.W.codeIn K cd_law "law" = true)
    (k_law : PySem.W.keepIn K (.ref f_law) = true)
    (a_WORD_SIGNS : PySem.W.nsIn K mainGlobals "WORD_SIGNS" = some (some u_WORD_SIGNS))
    (t_WORD_SIGNS : absV u_WORD_SIGNS = some (.str "_0123456789abcdefghijklmnopqrstuvwxyzABCDEFGHIJKLMNOPQRSTUVWXYZ"))
    (a_MOST_DIGITS : PySem.W.nsIn K mainGlobals "MOST_DIGITS" = some (some u_MOST_DIGITS))
    (t_MOST_DIGITS : absV u_MOST_DIGITS = some (.int 10))
    (a_DIGITS : PySem.W.nsIn K mainGlobals "DIGITS" = some (some u_DIGITS))
    (t_DIGITS : absV u_DIGITS = some (.str "0123456789"))
    (a_GREATEST_WORD : PySem.W.nsIn K mainGlobals "GREATEST_WORD" = some (some u_GREATEST_WORD))
    (t_GREATEST_WORD : absV u_GREATEST_WORD = some (.int 4294967295))
    (a_LETTERS : PySem.W.nsIn K mainGlobals "LETTERS" = some (some u_LETTERS))
    (t_LETTERS : absV u_LETTERS = some (.str "abcdefghijklmnopqrstuvwxyzABCDEFGHIJKLMNOPQRSTUVWXYZ"))
    (a_KEYWORDS : PySem.W.nsIn K mainGlobals "KEYWORDS" = some (some (.ref ad_KEYWORDS)))
    (l_KEYWORDS : K.lookup ad_KEYWORDS = some ⟨.type "tuple", cd_KEYWORDS, .seq its_KEYWORDS n_KEYWORDS, sl_KEYWORDS⟩)
    (t_KEYWORDS : strsOf its_KEYWORDS.toList = some (["public", "secret", "array", "fn", "main", "return", "if", "else", "for", "to", "max", "out", "div", "mod"] : List Str))
    (a_LONG_SIGNS : PySem.W.nsIn K mainGlobals "LONG_SIGNS" = some (some (.ref ad_LONG_SIGNS)))
    (l_LONG_SIGNS : K.lookup ad_LONG_SIGNS = some ⟨.type "tuple", cd_LONG_SIGNS, .seq its_LONG_SIGNS n_LONG_SIGNS, sl_LONG_SIGNS⟩)
    (t_LONG_SIGNS : strsOf its_LONG_SIGNS.toList = some (["<=", "<<", ">>", "=="] : List Str))
    (a_SHORT_SIGNS : PySem.W.nsIn K mainGlobals "SHORT_SIGNS" = some (some (.ref ad_SHORT_SIGNS)))
    (l_SHORT_SIGNS : K.lookup ad_SHORT_SIGNS = some ⟨.type "tuple", cd_SHORT_SIGNS, .seq its_SHORT_SIGNS n_SHORT_SIGNS, sl_SHORT_SIGNS⟩)
    (t_SHORT_SIGNS : strsOf its_SHORT_SIGNS.toList = some (["{", "}", "(", ")", "[", "]", ",", ";", "=", "+", "-", "*", "&", "|", "^", "!", "?", ":", "<"] : List Str))
    (z_int : PySem.W.nsIn K mainGlobals "int" = some none)
    (z_range : PySem.W.nsIn K mainGlobals "range" = some none)
    (z_min : PySem.W.nsIn K mainGlobals "min" = some none)
    (z_len : PySem.W.nsIn K mainGlobals "len" = some none)
    (z_isinstance : PySem.W.nsIn K mainGlobals "isinstance" = some none)
    (z_list : PySem.W.nsIn K mainGlobals "list" = some none)
    (z_tuple : PySem.W.nsIn K mainGlobals "tuple" = some none) :
    ∃ fd : FuncData, (∀ (s : Shared) (v : Value), BindsTo s fd ⟨[v], []⟩ [("script", v)]) ∧ ∀ base : Heap, K.In base → base.Ns mainGlobals mg → FnOk l.prog w K mg base (L2.CX l.prog w) 4 fa fd ["script"] (spM K 1 m_law) := by
  have e := hfa.symm.trans (PySem.W.mg_of X G a_law)
  cases e
  have F__law_mix := fun_mk (st := s__law_mix) l__law_mix c__law_mix k__law_mix
  have D__law_mix : DefAt K mg "_law_mix" s__law_mix ["cell", "k"] _ _ := ⟨F__law_mix, PySem.W.mg_of X G a__law_mix, F__law_mix.binds fun _ _ _ _ _ _ us hl => match us, hl with | [_, _], _ => rfl⟩
  have F__law_stream := fun_mk (st := s__law_stream) l__law_stream c__law_stream k__law_stream
  have D__law_stream : DefAt K mg "_law_stream" s__law_stream ["script", "most"] _ _ := ⟨F__law_stream, PySem.W.mg_of X G a__law_stream, F__law_stream.binds fun _ _ _ _ _ _ us hl => match us, hl with | [_, _], _ => rfl⟩
  have F__comment_end := fun_mk (st := s__comment_end) l__comment_end c__comment_end k__comment_end
  have D__comment_end : DefAt K mg "_comment_end" s__comment_end ["text", "at"] _ _ := ⟨F__comment_end, PySem.W.mg_of X G a__comment_end, F__comment_end.binds fun _ _ _ _ _ _ us hl => match us, hl with | [_, _], _ => rfl⟩
  have F__word := fun_mk (st := s__word) l__word c__word k__word
  have D__word : DefAt K mg "_word" s__word ["text", "at"] _ _ := ⟨F__word, PySem.W.mg_of X G a__word, F__word.binds fun _ _ _ _ _ _ us hl => match us, hl with | [_, _], _ => rfl⟩
  have F__is_number := fun_mk (st := s__is_number) l__is_number c__is_number k__is_number
  have D__is_number : DefAt K mg "_is_number" s__is_number ["word"] _ _ := ⟨F__is_number, PySem.W.mg_of X G a__is_number, F__is_number.binds fun _ _ _ _ _ _ us hl => match us, hl with | [_], _ => rfl⟩
  have F__token := fun_mk (st := s__token) l__token c__token k__token
  have D__token : DefAt K mg "_token" s__token ["text", "at", "row", "column"] _ _ := ⟨F__token, PySem.W.mg_of X G a__token, F__token.binds fun _ _ _ _ _ _ us hl => match us, hl with | [_, _, _, _], _ => rfl⟩
  have F_tokens := fun_mk (st := s_tokens) l_tokens c_tokens k_tokens
  have D_tokens : DefAt K mg "tokens" s_tokens ["text"] _ _ := ⟨F_tokens, PySem.W.mg_of X G a_tokens, F_tokens.binds fun _ _ _ _ _ _ us hl => match us, hl with | [_], _ => rfl⟩
  have F__law_pick := fun_mk (st := s__law_pick) l__law_pick c__law_pick k__law_pick
  have D__law_pick : DefAt K mg "_law_pick" s__law_pick ["draws", "many"] _ _ := ⟨F__law_pick, PySem.W.mg_of X G a__law_pick, F__law_pick.binds fun _ _ _ _ _ _ us hl => match us, hl with | [_, _], _ => rfl⟩
  have F__law_keywords := fun_mk (st := s__law_keywords) l__law_keywords c__law_keywords k__law_keywords
  have D__law_keywords : DefAt K mg "_law_keywords" s__law_keywords [] _ _ := ⟨F__law_keywords, PySem.W.mg_of X G a__law_keywords, F__law_keywords.binds fun _ _ _ _ _ _ us hl => match us, hl with | [], _ => rfl⟩
  have F__law_word := fun_mk (st := s__law_word) l__law_word c__law_word k__law_word
  have D__law_word : DefAt K mg "_law_word" s__law_word ["draws"] _ _ := ⟨F__law_word, PySem.W.mg_of X G a__law_word, F__law_word.binds fun _ _ _ _ _ _ us hl => match us, hl with | [_], _ => rfl⟩
  have F__law_alone := fun_mk (st := s__law_alone) l__law_alone c__law_alone k__law_alone
  have D__law_alone : DefAt K mg "_law_alone" s__law_alone ["text"] _ _ := ⟨F__law_alone, PySem.W.mg_of X G a__law_alone, F__law_alone.binds fun _ _ _ _ _ _ us hl => match us, hl with | [_], _ => rfl⟩
  have F__law_between := fun_mk (st := s__law_between) l__law_between c__law_between k__law_between
  have D__law_between : DefAt K mg "_law_between" s__law_between ["draws"] _ _ := ⟨F__law_between, PySem.W.mg_of X G a__law_between, F__law_between.binds fun _ _ _ _ _ _ us hl => match us, hl with | [_], _ => rfl⟩
  have F_law := fun_mk (st := s_law) l_law c_law k_law
  have D_law : DefAt K mg "law" s_law ["script"] _ _ := ⟨F_law, PySem.W.mg_of X G a_law, F_law.binds fun _ _ _ _ _ _ us hl => match us, hl with | [_], _ => rfl⟩
  have g_WORD_SIGNS : GV K mg "WORD_SIGNS" d_WORD_SIGNS := gv_str (PySem.W.mg_of X G a_WORD_SIGNS) t_WORD_SIGNS
  have g_MOST_DIGITS : GV K mg "MOST_DIGITS" d_MOST_DIGITS := gv_int (PySem.W.mg_of X G a_MOST_DIGITS) t_MOST_DIGITS
  have g_DIGITS : GV K mg "DIGITS" d_DIGITS := gv_str (PySem.W.mg_of X G a_DIGITS) t_DIGITS
  have g_GREATEST_WORD : GV K mg "GREATEST_WORD" d_GREATEST_WORD := gv_int (PySem.W.mg_of X G a_GREATEST_WORD) t_GREATEST_WORD
  have g_LETTERS : GV K mg "LETTERS" d_LETTERS := gv_str (PySem.W.mg_of X G a_LETTERS) t_LETTERS
  have g_KEYWORDS : GV K mg "KEYWORDS" d_KEYWORDS := gv_strs (PySem.W.mg_of X G a_KEYWORDS) l_KEYWORDS t_KEYWORDS rfl (by decide)
  have g_LONG_SIGNS : GV K mg "LONG_SIGNS" d_LONG_SIGNS := gv_strs (PySem.W.mg_of X G a_LONG_SIGNS) l_LONG_SIGNS t_LONG_SIGNS rfl (by decide)
  have g_SHORT_SIGNS : GV K mg "SHORT_SIGNS" d_SHORT_SIGNS := gv_strs (PySem.W.mg_of X G a_SHORT_SIGNS) l_SHORT_SIGNS t_SHORT_SIGNS rfl (by decide)
  refine ⟨PySem.W.fnOf "law" "law" (defArgs s_law) (defBody s_law) (defScope s_law) .none kV_law dc_law pm_law an_law cd_law ct_law, fun s v => .of_eq rfl, fun base _ _ => ?_⟩
  have G__law_mix := (ok__law_mix (P := l.prog) (w := w) (base := base) D__law_mix  (PySem.W.mg_none_of X G z_int)).imp fun vs H Q E h => spM_fine fine_mix h
  have G__law_stream := ok__law_stream (P := l.prog) (w := w) (base := base) D__law_stream D__law_mix G__law_mix (PySem.W.mg_none_of X G z_range) (PySem.W.mg_none_of X G z_min) (PySem.W.mg_none_of X G z_len) (PySem.W.mg_none_of X G z_int)
  have G__comment_end := ok__comment_end (P := l.prog) (w := w) (base := base) D__comment_end  (PySem.W.mg_none_of X G z_len)
  have G__word := ok__word (P := l.prog) (w := w) (base := base) D__word  g_WORD_SIGNS (PySem.W.mg_none_of X G z_len)
  have G__is_number := ok__is_number (P := l.prog) (w := w) (base := base) D__is_number  g_MOST_DIGITS g_DIGITS g_GREATEST_WORD (PySem.W.mg_none_of X G z_len) (PySem.W.mg_none_of X G z_int)
  have G__token := ok__token (P := l.prog) (w := w) (base := base) D__token D__word G__word D__is_number G__is_number g_LETTERS g_KEYWORDS g_DIGITS g_LONG_SIGNS g_SHORT_SIGNS
  have G_tokens := ok_tokens (P := l.prog) (w := w) (base := base) D_tokens D__comment_end G__comment_end D__token G__token (PySem.W.mg_none_of X G z_len)
  have G__law_pick := (ok__law_pick (P := l.prog) (w := w) (base := base) D__law_pick D__law_mix G__law_mix (PySem.W.mg_none_of X G z_len) (PySem.W.mg_none_of X G z_int)).imp fun vs H Q E h => spM_fine fine_pick h
  have G__law_keywords := ok__law_keywords (P := l.prog) (w := w) (base := base) D__law_keywords 
  have G__law_word := ok__law_word (P := l.prog) (w := w) (base := base) D__law_word D__law_pick G__law_pick D__law_keywords G__law_keywords
  have G__law_alone := ok__law_alone (P := l.prog) (w := w) (base := base) D__law_alone 
  have G__law_between := ok__law_between (P := l.prog) (w := w) (base := base) D__law_between D__law_pick G__law_pick
  have G_law := ok_law (P := l.prog) (w := w) (base := base) D_law D__law_stream G__law_stream D__law_pick G__law_pick D__law_word G__law_word D__law_alone G__law_alone D__law_between G__law_between D_tokens G_tokens D__law_keywords G__law_keywords g_KEYWORDS (PySem.W.mg_none_of X G z_range) (PySem.W.mg_none_of X G z_min) (PySem.W.mg_none_of X G z_len) (PySem.W.mg_none_of X G z_isinstance) (PySem.W.mg_none_of X G z_list) (PySem.W.mg_none_of X G z_tuple)
  exact G_law
end GK00
open PySem PySem.W
open PyProof.Rows hiding St
set_option maxHeartbeats 0 in
theorem PySem.Challenge.cw_sameclock_k00_tokens_of_a_program_holds : PySem.Challenge.rw_sameclock_k00_tokens_of_a_program.Holds := by
  w_on; o_law; k_head; (case hw => w_witness2)
  k_fill
  refine L2.walk_ofB (l := PySem.Challenge.rw_sameclock_k00_tokens_of_a_program) (n := 63) (k := 4) (x := "script") (CX := fun w => L2.CX (PySem.Challenge.rw_sameclock_k00_tokens_of_a_program).prog w) (sp := fun w => Ly.spM _ 1 GK00.m_law) rfl (by decide) rfl ⟨rfl, by decide, by decide⟩ (fun w h Y => PySem.W.kIn_of Y) ?F (fun w H a ns hl hb hO hS => Ly.law_end GK00.law_true hl hb hO hS) (fun w H s e s' => Ly.law_noexc)
  case F =>
    intro w mg fa h KX G hmg
    refine' GK00.all_mk KX G hmg ?a__law_mix ?l__law_mix ?c__law_mix ?k__law_mix ?a__law_stream ?l__law_stream ?c__law_stream ?k__law_stream ?a__comment_end ?l__comment_end ?c__comment_end ?k__comment_end ?a__word ?l__word ?c__word ?k__word ?a__is_number ?l__is_number ?c__is_number ?k__is_number ?a__token ?l__token ?c__token ?k__token ?a_tokens ?l_tokens ?c_tokens ?k_tokens ?a__law_pick ?l__law_pick ?c__law_pick ?k__law_pick ?a__law_keywords ?l__law_keywords ?c__law_keywords ?k__law_keywords ?a__law_word ?l__law_word ?c__law_word ?k__law_word ?a__law_alone ?l__law_alone ?c__law_alone ?k__law_alone ?a__law_between ?l__law_between ?c__law_between ?k__law_between ?a_law ?l_law ?c_law ?k_law ?a_WORD_SIGNS ?t_WORD_SIGNS ?a_MOST_DIGITS ?t_MOST_DIGITS ?a_DIGITS ?t_DIGITS ?a_GREATEST_WORD ?t_GREATEST_WORD ?a_LETTERS ?t_LETTERS ?a_KEYWORDS ?l_KEYWORDS ?t_KEYWORDS ?a_LONG_SIGNS ?l_LONG_SIGNS ?t_LONG_SIGNS ?a_SHORT_SIGNS ?l_SHORT_SIGNS ?t_SHORT_SIGNS ?z_int ?z_range ?z_min ?z_len ?z_isinstance ?z_list ?z_tuple
    (case a__law_mix => k_is)
    (case l__law_mix => k_is)
    (case c__law_mix => k_is)
    (case k__law_mix => k_is)
    (case a__law_stream => k_is)
    (case l__law_stream => k_is)
    (case c__law_stream => k_is)
    (case k__law_stream => k_is)
    (case a__comment_end => k_is)
    (case l__comment_end => k_is)
    (case c__comment_end => k_is)
    (case k__comment_end => k_is)
    (case a__word => k_is)
    (case l__word => k_is)
    (case c__word => k_is)
    (case k__word => k_is)
    (case a__is_number => k_is)
    (case l__is_number => k_is)
    (case c__is_number => k_is)
    (case k__is_number => k_is)
    (case a__token => k_is)
    (case l__token => k_is)
    (case c__token => k_is)
    (case k__token => k_is)
    (case a_tokens => k_is)
    (case l_tokens => k_is)
    (case c_tokens => k_is)
    (case k_tokens => k_is)
    (case a__law_pick => k_is)
    (case l__law_pick => k_is)
    (case c__law_pick => k_is)
    (case k__law_pick => k_is)
    (case a__law_keywords => k_is)
    (case l__law_keywords => k_is)
    (case c__law_keywords => k_is)
    (case k__law_keywords => k_is)
    (case a__law_word => k_is)
    (case l__law_word => k_is)
    (case c__law_word => k_is)
    (case k__law_word => k_is)
    (case a__law_alone => k_is)
    (case l__law_alone => k_is)
    (case c__law_alone => k_is)
    (case k__law_alone => k_is)
    (case a__law_between => k_is)
    (case l__law_between => k_is)
    (case c__law_between => k_is)
    (case k__law_between => k_is)
    (case a_law => k_is)
    (case l_law => k_is)
    (case c_law => k_is)
    (case k_law => k_is)
    (case a_WORD_SIGNS => k_is)
    (case t_WORD_SIGNS => rfl)
    (case a_MOST_DIGITS => k_is)
    (case t_MOST_DIGITS => rfl)
    (case a_DIGITS => k_is)
    (case t_DIGITS => rfl)
    (case a_GREATEST_WORD => k_is)
    (case t_GREATEST_WORD => rfl)
    (case a_LETTERS => k_is)
    (case t_LETTERS => rfl)
    (case a_KEYWORDS => k_is)
    (case l_KEYWORDS => k_is)
    (case t_KEYWORDS => rfl)
    (case a_LONG_SIGNS => k_is)
    (case l_LONG_SIGNS => k_is)
    (case t_LONG_SIGNS => rfl)
    (case a_SHORT_SIGNS => k_is)
    (case l_SHORT_SIGNS => k_is)
    (case t_SHORT_SIGNS => rfl)
    (case z_int => k_is)
    (case z_range => k_is)
    (case z_min => k_is)
    (case z_len => k_is)
    (case z_isinstance => k_is)
    (case z_list => k_is)
    (case z_tuple => k_is)
