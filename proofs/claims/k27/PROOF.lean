import PyProof.Rows.All
import Wide.All
import OpenK.AllK
import Wide.FinOn
import HandS.ForMost
import HandS.ForExc
import HandS.TupAny
import HandS.Wide
import HandS.Codes
import HandS.StrMore
import HandS.RaiseMore
import HandS.FStr
import HandS.More
import HandS.IsInst
import HandS.Style
import HandS.Deep
import HandS.Text
import HandS.TupLen
import HandS.Flow
import HandS.Iter
import HandS.Comp
import HandS.Exc
import HandS.CallSlots
import HandS.Words
import HandS.WordsExc
import HandS.Zip
import KE.GoesMore
import KE.GoesEnum
import KE.GoesZip
import HandS.Rev
import HandS.EndBits
import HandS.HeadHook3
import HandS.DictComp
import HandS.SetKeys
import HandS.Conv
import HandS.SortInts
import HandS.CallLocal
import PyProof.StrLawsIn
import HandS.WideBits
import HandS.TupMul
import KE.KDictZip
import KE.BitLaws
import KE.OsArith
import PySem.Challenge.RW_sameclock_k27_code_row_by_row
set_option Elab.async false
set_option linter.all false
set_option maxRecDepth 100000
/-! Values and a store without addresses; what a def does as a plain function of them, and the hand layer's readings of that. -/
namespace Ly
open PySem PySem.Spec L2
open PyProof.Rows hiding St

/-- a value; ref i: the i-th object of the store; cst a: a thing of the written part -/
inductive D where
  | non | bl (b : Bool) | int (i : Int) | str (x : Str) | tup (xs : List D) | wt (xs : List D) | wl (xs : List D) | ref (i : Nat) | cst (a : Addr)
/-- an object of the store -/
inductive O where
  | lst (xs : List D) | rol (xs : List D) | dic (kvs : List (Key × D)) | dit (kvs : List (List Key × D)) | ins (C : Addr) (fs : List (Str × D))
abbrev Hs := List O
abbrev Ls := List (Option D)

/-- a tuple of the written part -/
def Wt (K : PySem.W.Frag) (a : Addr) (xs : List V) : Prop :=
  ∃ (o : Obj) (its : Array Value) (n : Nat), K.lookup a = some o ∧ o.cls = .type "tuple" ∧ o.data = .seq its n ∧ its.size ≤ sizeLine ∧ Vals xs its.toList
/-- a list of the written part -/
def Wl (K : PySem.W.Frag) (a : Addr) (xs : List V) : Prop :=
  ∃ (o : Obj) (its : Array Value) (n : Nat), K.lookup a = some o ∧ o.cls = .type "list" ∧ o.dict = none ∧ o.data = .seq its n ∧ its.size ≤ sizeLine ∧ Vals xs its.toList
theorem Wl.sq {K : PySem.W.Frag} {H : Hp} {a : Addr} {xs : List V} (h : Wl K a xs) : SqL K H a xs := .inr h
theorem Wt.sq {K : PySem.W.Frag} {H : Hp} {a : Addr} {xs : List V} (h : Wt K a xs) : SqT K H a xs := .inr h

section
variable (K : PySem.W.Frag) (pi : Nat → Addr) (n : Nat) (H : Hp)
mutual
inductive Rep : D → V → Prop
  | non : Rep .non .non
  | bl (b : Bool) : Rep (.bl b) (.bl b)
  | int (i : Int) : Rep (.int i) (.int i)
  | str (x : Str) : Rep (.str x) (.str x)
  | tup {a : Addr} {ds : List D} {xs : List V} : H a = some (.tup xs) → Reps ds xs → Rep (.tup ds) (.ref a)
  | wt {a : Addr} {ds : List D} {xs : List V} : Wt K a xs → Reps ds xs → Rep (.wt ds) (.ref a)
  | wl {a : Addr} {ds : List D} {xs : List V} : Wl K a xs → Reps ds xs → Rep (.wl ds) (.ref a)
  | ref {i : Nat} : i < n → Rep (.ref i) (.ref (pi i))
  | cst (a : Addr) : Rep (.cst a) (.ref a)
inductive Reps : List D → List V → Prop
  | nil : Reps [] []
  | cons {d : D} {ds : List D} {v : V} {vs : List V} : Rep d v → Reps ds vs → Reps (d :: ds) (v :: vs)
end
/-- the slots of a frame; a slot that is not spoken of may hold anything -/
inductive Sl : Ls → St → Prop
  | nil : Sl [] []
  | no {l : Ls} {s : St} (o : Option V) : Sl l s → Sl (none :: l) (o :: s)
  | yes {l : Ls} {s : St} {d : D} {v : V} : Rep K pi n H d v → Sl l s → Sl (some d :: l) (some v :: s)
/-- an object of the store stands at a -/
def RO (a : Addr) : O → Prop
  | .lst ds => ∃ xs, H a = some (.lst xs) ∧ Reps K pi n H ds xs
  | .rol ds => ∃ o xs, H a = some (.frz o (.lst xs)) ∧ Reps K pi n H ds xs
  | .dic kvs => ∃ ks, H a = some (.dK ks) ∧ ks.map (·.1) = kvs.map (·.1) ∧ Reps K pi n H (kvs.map (·.2)) (ks.map (·.2))
  | .dit kvs => ∃ ks, H a = some (.dT ks) ∧ ks.map (·.1) = kvs.map (·.1) ∧ Reps K pi n H (kvs.map (·.2)) (ks.map (·.2))
  | .ins C fs => ∃ dx ks, H a = some (.ins C dx ks) ∧ ks.map (·.1) = fs.map (·.1) ∧ Reps K pi n H (fs.map (·.2)) (ks.map (·.2))
end
structure Real (K : PySem.W.Frag) (pi : Nat → Addr) (S : Hs) (H : Hp) : Prop where
  ob : ∀ i o, S[i]? = some o → RO K pi S.length H (pi i) o
  inj : ∀ i j, i < S.length → j < S.length → pi i = pi j → i = j
structure Ext (n m : Nat) (pi pi' : Nat → Addr) (H H' : Hp) : Prop where
  le : n ≤ m
  ag : ∀ i, i < n → pi' i = pi i
  tp : ∀ a xs, H a = some (.tup xs) → H' a = some (.tup xs)
theorem Ext.refl {n : Nat} {pi : Nat → Addr} {H : Hp} : Ext n n pi pi H H := ⟨Nat.le_refl _, fun _ _ => rfl, fun _ _ h => h⟩
theorem Ext.trans {n m k : Nat} {p q r : Nat → Addr} {H H1 H2 : Hp} (a : Ext n m p q H H1) (b : Ext m k q r H1 H2) : Ext n k p r H H2 :=
  ⟨Nat.le_trans a.le b.le, fun i h => (b.ag i (Nat.lt_of_lt_of_le h a.le)).trans (a.ag i h), fun x xs h => b.tp x xs (a.tp x xs h)⟩
section
variable {K : PySem.W.Frag} {pi pi' : Nat → Addr} {n m : Nat} {H H' : Hp}
mutual
theorem Rep.ext (x : Ext n m pi pi' H H') : ∀ (d : D) (v : V), Rep K pi n H d v → Rep K pi' m H' d v
  | .non, _, .non => .non
  | .bl _, _, .bl _ => .bl _
  | .int _, _, .int _ => .int _
  | .str _, _, .str _ => .str _
  | .tup ds, _, .tup t r => .tup (x.tp _ _ t) (Reps.ext x ds _ r)
  | .wt ds, _, .wt t r => .wt t (Reps.ext x ds _ r)
  | .wl ds, _, .wl t r => .wl t (Reps.ext x ds _ r)
  | .ref i, _, .ref h => by rw [← x.ag i h]; exact .ref (Nat.lt_of_lt_of_le h x.le)
  | .cst _, _, .cst _ => .cst _
theorem Reps.ext (x : Ext n m pi pi' H H') : ∀ (d : List D) (v : List V), Reps K pi n H d v → Reps K pi' m H' d v
  | [], _, .nil => .nil
  | d :: ds, _, .cons r s => .cons (Rep.ext x d _ r) (Reps.ext x ds _ s)
end
theorem Sl.ext (x : Ext n m pi pi' H H') {l : Ls} {s : St} (h : Sl K pi n H l s) : Sl K pi' m H' l s := by
  induction h with
  | nil => exact .nil
  | no o _ ih => exact .no o ih
  | yes r _ ih => exact .yes (r.ext x _ _) ih
theorem RO.ext (x : Ext n m pi pi' H H') {a : Addr} {o : O} (h : RO K pi n H a o) (e : H' a = H a) : RO K pi' m H' a o := by
  cases o with
  | lst ds => obtain ⟨xs, h1, h2⟩ := h; exact ⟨xs, e.trans h1, h2.ext x _ _⟩
  | rol ds => obtain ⟨o, xs, h1, h2⟩ := h; exact ⟨o, xs, e.trans h1, h2.ext x _ _⟩
  | dic kvs => obtain ⟨ks, h1, h2, h3⟩ := h; exact ⟨ks, e.trans h1, h2, h3.ext x _ _⟩
  | dit kvs => obtain ⟨ks, h1, h2, h3⟩ := h; exact ⟨ks, e.trans h1, h2, h3.ext x _ _⟩
  | ins C fs => obtain ⟨dx, ks, h1, h2, h3⟩ := h; exact ⟨dx, ks, e.trans h1, h2, h3.ext x _ _⟩
theorem RO.some {a : Addr} {o : O} (h : RO K pi n H a o) : ∃ u, H a = some u ∧ ∀ xs, u ≠ .tup xs := by
  cases o with
  | lst ds => obtain ⟨xs, h1, h2⟩ := h; exact ⟨_, h1, fun _ => nofun⟩
  | rol ds => obtain ⟨o, xs, h1, h2⟩ := h; exact ⟨_, h1, fun _ => nofun⟩
  | dic kvs => obtain ⟨ks, h1, h2, h3⟩ := h; exact ⟨_, h1, fun _ => nofun⟩
  | dit kvs => obtain ⟨ks, h1, h2, h3⟩ := h; exact ⟨_, h1, fun _ => nofun⟩
  | ins C fs => obtain ⟨dx, ks, h1, h2, h3⟩ := h; exact ⟨_, h1, fun _ => nofun⟩
theorem Reps.len {ds : List D} {vs : List V} (h : Reps K pi n H ds vs) : ds.length = vs.length := by
  induction ds generalizing vs with
  | nil => cases h; rfl
  | cons d ds ih => cases h with | cons r s => rw [List.length_cons, List.length_cons, ih s]
theorem Reps.append {ds es : List D} {vs us : List V} (h : Reps K pi n H ds vs) (g : Reps K pi n H es us) : Reps K pi n H (ds ++ es) (vs ++ us) := by
  induction ds generalizing vs with
  | nil => cases h; exact g
  | cons d ds ih => cases h with | cons r s => exact .cons r (ih s)
theorem Reps.get {ds : List D} {vs : List V} (h : Reps K pi n H ds vs) {i : Nat} {d : D} (e : ds[i]? = some d) : ∃ v, vs[i]? = some v ∧ Rep K pi n H d v := by
  induction ds generalizing vs i with
  | nil => simp at e
  | cons d ds ih =>
    cases h with
    | cons r s =>
      cases i with
      | zero => simp at e; subst e; exact ⟨_, rfl, r⟩
      | succ i => simpa using ih s (by simpa using e)
theorem Reps.take {ds : List D} {vs : List V} (h : Reps K pi n H ds vs) (i : Nat) : Reps K pi n H (ds.take i) (vs.take i) := by
  induction ds generalizing vs i with
  | nil => cases h; simp; exact .nil
  | cons d ds ih => cases h with | cons r s => cases i with | zero => exact .nil | succ i => exact .cons r (ih s i)
theorem Reps.drop {ds : List D} {vs : List V} (h : Reps K pi n H ds vs) (i : Nat) : Reps K pi n H (ds.drop i) (vs.drop i) := by
  induction ds generalizing vs i with
  | nil => cases h; simp; exact .nil
  | cons d ds ih => cases h with | cons r s => cases i with | zero => exact .cons r s | succ i => exact ih s i
theorem Reps.set {ds : List D} {vs : List V} (h : Reps K pi n H ds vs) (i : Nat) {d : D} {v : V} (r : Rep K pi n H d v) : Reps K pi n H (ds.set i d) (vs.set i v) := by
  induction ds generalizing vs i with
  | nil => cases h; exact .nil
  | cons d ds ih => cases h with | cons r s => cases i with | zero => exact .cons (by assumption) s | succ i => exact .cons r (ih s i)
theorem Sl.len {l : Ls} {s : St} (h : Sl K pi n H l s) : l.length = s.length := by
  induction h with
  | nil => rfl
  | no _ _ ih => simp [ih]
  | yes _ _ ih => simp [ih]
theorem Sl.get {l : Ls} {s : St} (h : Sl K pi n H l s) {i : Nat} {d : D} (e : l[i]? = some (some d)) : ∃ v, s[i]? = some (some v) ∧ Rep K pi n H d v := by
  induction h generalizing i with
  | nil => simp at e
  | no o _ ih =>
    cases i with
    | zero => simp at e
    | succ i => simpa using ih (by simpa using e)
  | yes r _ ih =>
    cases i with
    | zero => simp at e; subst e; exact ⟨_, rfl, r⟩
    | succ i => simpa using ih (by simpa using e)
theorem Sl.set {l : Ls} {s : St} (h : Sl K pi n H l s) (i : Nat) {d : D} {v : V} (r : Rep K pi n H d v) : Sl K pi n H (l.set i (some d)) (s.set i (some v)) := by
  induction h generalizing i with
  | nil => exact .nil
  | no o t ih => cases i with | zero => exact .yes r t | succ i => exact .no o (ih i)
  | yes q t ih => cases i with | zero => exact .yes r t | succ i => exact .yes q (ih i)
theorem Sl.skip {l : Ls} {s : St} (h : Sl K pi n H l s) (i : Nat) (o : Option V) : Sl K pi n H (l.set i none) (s.set i o) := by
  induction h generalizing i with
  | nil => exact .nil
  | no o t ih => cases i with | zero => exact .no _ t | succ i => exact .no _ (ih i)
  | yes q t ih => cases i with | zero => exact .no _ t | succ i => exact .yes q (ih i)
/-- a new object -/
def piN (pi : Nat → Addr) (n : Nat) (p : Addr) : Nat → Addr := fun i => if i = n then p else pi i
theorem piN_same {p : Addr} : piN pi n p n = p := if_pos rfl
theorem piN_ne {p : Addr} {i : Nat} (h : i ≠ n) : piN pi n p i = pi i := if_neg h
theorem Real.at {S : Hs} (R : Real K pi S H) {i : Nat} (h : i < S.length) : ∃ u, H (pi i) = some u ∧ ∀ xs, u ≠ .tup xs := (R.ob i _ (List.getElem?_eq_getElem h)).some
theorem ext_new {S : Hs} {p : Addr} {u : HO} (hp : H p = none) : Ext S.length (S.length + 1) pi (piN pi S.length p) H (upd H p u) :=
  ⟨Nat.le_succ _, fun i h => piN_ne (Nat.ne_of_lt h), fun a xs h => by rw [upd_ne (ne_of_none h hp)]; exact h⟩
theorem Real.new {S : Hs} {p : Addr} {u : HO} {o : O} (R : Real K pi S H) (hp : H p = none) (h : RO K (piN pi S.length p) (S.length + 1) (upd H p u) p o) : Real K (piN pi S.length p) (S ++ [o]) (upd H p u) := by
  have hn : ∀ i, i < S.length → pi i ≠ p := fun i hi => by obtain ⟨u, e, _⟩ := R.at hi; exact ne_of_none e hp
  refine ⟨fun i o' e => ?_, fun i j hi hj e => ?_⟩
  · rw [List.length_append, List.length_singleton]
    by_cases hi : i < S.length
    · rw [List.getElem?_append_left hi] at e
      rw [piN_ne (Nat.ne_of_lt hi)]
      exact (R.ob i o' e).ext (ext_new hp) (upd_ne (hn i hi))
    · rw [List.getElem?_append_right (Nat.le_of_not_lt hi)] at e
      have : i = S.length := by
        have := (List.getElem?_eq_some_iff.mp e).1
        simp at this; omega
      subst this
      simp at e; subst e
      rw [piN_same]; exact h
  · simp at hi hj
    by_cases h1 : i = S.length <;> by_cases h2 : j = S.length
    · omega
    · subst h1; rw [piN_same, piN_ne h2] at e; exact absurd e.symm (hn j (by omega))
    · subst h2; rw [piN_same, piN_ne h1] at e; exact absurd e (hn i (by omega))
    · rw [piN_ne h1, piN_ne h2] at e; exact R.inj i j (by omega) (by omega) e
theorem ext_upd {a : Addr} {u : HO} (h : ∀ xs, H a ≠ some (.tup xs)) : Ext n n pi pi H (upd H a u) :=
  ⟨Nat.le_refl _, fun _ _ => rfl, fun b xs e => by
    by_cases hb : b = a
    · subst hb; exact absurd e (h xs)
    · rw [upd_ne hb]; exact e⟩
theorem Real.notup {S : Hs} (R : Real K pi S H) {i : Nat} (h : i < S.length) : ∀ xs, H (pi i) ≠ some (.tup xs) := fun xs e => by
  obtain ⟨u, e1, e2⟩ := R.at h
  rw [e] at e1; exact e2 xs (Option.some.inj e1).symm
theorem Real.put {S : Hs} {i : Nat} {u : HO} {o : O} (R : Real K pi S H) (hi : i < S.length) (h : RO K pi S.length (upd H (pi i) u) (pi i) o) : Real K pi (S.set i o) (upd H (pi i) u) := by
  refine ⟨fun j o' e => ?_, fun j k hj hk e => R.inj j k (by simpa using hj) (by simpa using hk) e⟩
  rw [List.length_set]
  by_cases hj : j = i
  · subst hj
    rw [List.getElem?_set_self hi] at e
    cases e; exact h
  · rw [List.getElem?_set_ne (Ne.symm hj)] at e
    have hl := (List.getElem?_eq_some_iff.mp e).1
    exact (R.ob j o' e).ext (ext_upd (R.notup hi)) (upd_ne fun z => hj (R.inj j i hl hi z))
end

/-! ### what comes of a part: a value, an exception, or nothing is said -/
inductive R (α : Type) where
  | ok (a : α) (S : Hs)
  | exc (c : V) (fs : Option (List (Str × D))) (l : Ls) (S : Hs)
  | bad
def R.bind {α β : Type} (r : R α) (k : α → Hs → R β) : R β :=
  match r with
  | .ok a S => k a S
  | .exc c fs l S => .exc c fs l S
  | .bad => .bad
@[simp] theorem R.bind_ok {α β : Type} (a : α) (S : Hs) (k : α → Hs → R β) : (R.ok a S).bind k = k a S := (show (R.ok a S).bind k = k a S from rfl).trans (Eq.refl _)
@[simp] theorem R.bind_exc {α β : Type} (c fs l S) (k : α → Hs → R β) : (R.exc c fs l S : R α).bind k = .exc c fs l S := (show (R.exc c fs l S : R α).bind k = .exc c fs l S from rfl).trans (Eq.refl _)
@[simp] theorem R.bind_bad {α β : Type} (k : α → Hs → R β) : (R.bad : R α).bind k = .bad := (show (R.bad : R α).bind k = .bad from rfl).trans (Eq.refl _)
theorem R.bind_assoc {α β γ : Type} (r : R α) (k : α → Hs → R β) (l : β → Hs → R γ) : (r.bind k).bind l = r.bind fun a S => (k a S).bind l := by cases r <;> rfl

/-- an exception's own dict -/
def XFs (K : PySem.W.Frag) (pi : Nat → Addr) (n : Nat) (H : Hp) : Option Addr → Option (List (Str × D)) → Prop
  | none, none => True
  | some d, some fs => ∃ ks, H d = some (.xd ks) ∧ ks.map (·.1) = fs.map (·.1) ∧ Reps K pi n H (fs.map (·.2)) (ks.map (·.2))
  | _, _ => False
def Post {α : Type} (K : PySem.W.Frag) (E : St → XK) (n : Nat) (pi : Nat → Addr) (H : Hp) (r : R α) (Q : α → Hs → (Nat → Addr) → Hp → Prop) : Prop :=
  match r with
  | .ok a S => ∀ pi' H', Ext n S.length pi pi' H H' → Real K pi' S H' → Q a S pi' H'
  | .exc c fs l S => ∀ pi' H' u d s, Ext n S.length pi pi' H H' → Real K pi' S H' → RelV c u → XFs K pi' S.length H' d fs → Sl K pi' S.length H' l s → E s u d H'
  | .bad => False
section
variable {α β : Type} {K : PySem.W.Frag} {E : St → XK} {n m : Nat} {pi pi' : Nat → Addr} {H H' : Hp}
theorem Post.ext {r : R α} {Q : α → Hs → (Nat → Addr) → Hp → Prop} (h : Post K E n pi H r Q) (x : Ext n m pi pi' H H') : Post K E m pi' H' r Q := by
  cases r with
  | ok a S => exact fun p2 H2 y R => h p2 H2 (x.trans y) R
  | exc c fs l S => exact fun p2 H2 u d s y R r f => h p2 H2 u d s (x.trans y) R r f
  | bad => exact h
theorem Post.mono {r : R α} {Q Q' : α → Hs → (Nat → Addr) → Hp → Prop} (h : Post K E n pi H r Q)
    (w : ∀ a S p2 H2, r = .ok a S → Ext n S.length pi p2 H H2 → Real K p2 S H2 → Q a S p2 H2 → Q' a S p2 H2) : Post K E n pi H r Q' := by
  cases r with
  | ok a S => exact fun p2 H2 y R => w a S p2 H2 rfl y R (h p2 H2 y R)
  | exc c fs l S => exact h
  | bad => exact h
theorem Post.bind {r : R α} {k : α → Hs → R β} {Q : β → Hs → (Nat → Addr) → Hp → Prop} (h : Post K E n pi H (r.bind k) Q) :
    Post K E n pi H r (fun a S1 p1 H1 => Post K E S1.length p1 H1 (k a S1) Q) := by
  cases r with
  | ok a S => exact fun p2 H2 y R => Post.ext (show Post K E n pi H (k a S) Q from h) y
  | exc c fs l S => exact h
  | bad => exact h
theorem Post.ok {a : α} {S : Hs} {Q : α → Hs → (Nat → Addr) → Hp → Prop} (h : Post K E n pi H (.ok a S) Q) (x : Ext n S.length pi pi' H H') (R : Real K pi' S H') : Q a S pi' H' := h pi' H' x R
end

abbrev M := Ls → Hs → R D
abbrev MB := Ls → Hs → R Bool
abbrev ML := Ls → Hs → R (List D)
/-- how a block ends -/
inductive F where
  | nx (l : Ls) | rt (d : D) | bk (l : Ls) | ct (l : Ls)
abbrev MS := Ls → Hs → R F

abbrev QD (K : PySem.W.Frag) (Q : VK) : D → Hs → (Nat → Addr) → Hp → Prop := fun d S p H => ∀ v, Rep K p S.length H d v → Q v H
abbrev QL (K : PySem.W.Frag) (Q : List V → Hp → Prop) : List D → Hs → (Nat → Addr) → Hp → Prop := fun d S p H => ∀ v, Reps K p S.length H d v → Q v H
abbrev QB (Q : Bool → Hp → Prop) : Bool → Hs → (Nat → Addr) → Hp → Prop := fun d _ _ H => Q d H
def QF (K : PySem.W.Frag) (D0 : Ends) : F → Hs → (Nat → Addr) → Hp → Prop := fun f S p H =>
  match f with
  | .nx l => ∀ s, Sl K p S.length H l s → D0.nx s H
  | .rt d => ∀ v, Rep K p S.length H d v → D0.rt v H
  | .bk l => ∀ s, Sl K p S.length H l s → D0.bk s H
  | .ct l => ∀ s, Sl K p S.length H l s → D0.ct s H
/-- the readings -/
def T (K : PySem.W.Frag) (E : St → XK) (f : M) : TE := fun s H Q => ∃ p l S, Real K p S H ∧ Sl K p S.length H l s ∧ Post K E S.length p H (f l S) (QD K Q)
def TB (K : PySem.W.Frag) (E : St → XK) (f : MB) : TT := fun s H Q => ∃ p l S, Real K p S H ∧ Sl K p S.length H l s ∧ Post K E S.length p H (f l S) (QB Q)
def TL (K : PySem.W.Frag) (E : St → XK) (f : ML) : TA := fun s H Q => ∃ p l S, Real K p S H ∧ Sl K p S.length H l s ∧ Post K E S.length p H (f l S) (QL K Q)
def TSt (K : PySem.W.Frag) (E : St → XK) (f : MS) : TS := fun D0 s H => ∃ p l S, Real K p S H ∧ Sl K p S.length H l s ∧ Post K E S.length p H (f l S) (QF K D0)
structure EM (X : Cx) (E : St → XK) (e : Expr) (f : M) : Prop where pe : PE X e (T X.K E f)
structure BM (X : Cx) (E : St → XK) (e : Expr) (f : MB) : Prop where pt : PT X e (TB X.K E f)
structure BW (X : Cx) (E : St → XK) (e : Expr) (f : MB) : Prop where pw : PW X e (TB X.K E f)
structure LM (X : Cx) (E : St → XK) (es : List Expr) (f : ML) : Prop where pa : PA X es (TL X.K E f)
structure SM (X : Cx) (E : St → XK) (st : Stmt) (f : MS) : Prop where ps : PS X st (TSt X.K E f)
structure SMs (X : Cx) (E : St → XK) (st : List Stmt) (f : MS) : Prop where ps : PSs X st (TSt X.K E f)

section
variable {X : Cx} {t t' : TE}
theorem _root_.L2.PE.weak {e : Expr} (h : PE X e t) (w : ∀ s H Q, t' s H Q → t s H Q) : PE X e t' := ⟨fun pins s σ H Q I q => h.run pins s σ H Q I (w σ H Q q)⟩
theorem _root_.L2.PT.weak {e : Expr} {t t' : TT} (h : PT X e t) (w : ∀ s H Q, t' s H Q → t s H Q) : PT X e t' := ⟨fun pins s σ H Q I q => h.run pins s σ H Q I (w σ H Q q)⟩
theorem _root_.L2.PW.weak {e : Expr} {t t' : TT} (h : PW X e t) (w : ∀ s H Q, t' s H Q → t s H Q) : PW X e t' := ⟨fun wh pins s σ H Q I q => h.run wh pins s σ H Q I (w σ H Q q)⟩
theorem _root_.L2.PA.weak {e : List Expr} {t t' : TA} (h : PA X e t) (w : ∀ s H Q, t' s H Q → t s H Q) : PA X e t' := ⟨fun pos pins s σ H Q I q => h.run pos pins s σ H Q I (w σ H Q q)⟩
theorem _root_.L2.PS.weak {e : Stmt} {t t' : TS} (h : PS X e t) (w : ∀ s H Q, t' Q s H → t Q s H) : PS X e t' := ⟨fun pins s σ H Q I q => h.run pins s σ H Q I (w σ H Q q)⟩
theorem _root_.L2.PSs.weak {e : List Stmt} {t t' : TS} (h : PSs X e t) (w : ∀ s H Q, t' Q s H → t Q s H) : PSs X e t' := ⟨fun pins s σ H Q I q => h.run pins s σ H Q I (w σ H Q q)⟩
end
section
variable {K : PySem.W.Frag} {E : St → XK} {s : St} {H : Hp} {β : Type} {QQ : β → Hs → (Nat → Addr) → Hp → Prop}
/-- a part, and what follows it -/
theorem T.of {f : M} {k : D → Hs → R β} {p : Nat → Addr} {l : Ls} {S : Hs} {Q' : VK} (R : Real K p S H) (L : Sl K p S.length H l s) (h : Post K E S.length p H ((f l S).bind k) QQ)
    (st : ∀ p1 S1 H1 d v, Real K p1 S1 H1 → Ext S.length S1.length p p1 H H1 → Sl K p1 S1.length H1 l s → Rep K p1 S1.length H1 d v → Post K E S1.length p1 H1 (k d S1) QQ → Q' v H1) : T K E f s H Q' :=
  ⟨p, l, S, R, L, h.bind.mono fun a S1 p1 H1 _ x R1 q v r => st p1 S1 H1 a v R1 x (L.ext x) r q⟩
theorem TB.of {f : MB} {k : Bool → Hs → R β} {p : Nat → Addr} {l : Ls} {S : Hs} {Q' : Bool → Hp → Prop} (R : Real K p S H) (L : Sl K p S.length H l s) (h : Post K E S.length p H ((f l S).bind k) QQ)
    (st : ∀ p1 S1 H1 b, Real K p1 S1 H1 → Ext S.length S1.length p p1 H H1 → Sl K p1 S1.length H1 l s → Post K E S1.length p1 H1 (k b S1) QQ → Q' b H1) : TB K E f s H Q' :=
  ⟨p, l, S, R, L, h.bind.mono fun a S1 p1 H1 _ x R1 q => st p1 S1 H1 a R1 x (L.ext x) q⟩
theorem TL.of {f : ML} {k : List D → Hs → R β} {p : Nat → Addr} {l : Ls} {S : Hs} {Q' : List V → Hp → Prop} (R : Real K p S H) (L : Sl K p S.length H l s) (h : Post K E S.length p H ((f l S).bind k) QQ)
    (st : ∀ p1 S1 H1 d v, Real K p1 S1 H1 → Ext S.length S1.length p p1 H H1 → Sl K p1 S1.length H1 l s → Reps K p1 S1.length H1 d v → Post K E S1.length p1 H1 (k d S1) QQ → Q' v H1) : TL K E f s H Q' :=
  ⟨p, l, S, R, L, h.bind.mono fun a S1 p1 H1 _ x R1 q v r => st p1 S1 H1 a v R1 x (L.ext x) r q⟩
/-- the last part -/
theorem T.last {f : M} {p : Nat → Addr} {l : Ls} {S : Hs} {Q : VK} (R : Real K p S H) (L : Sl K p S.length H l s) (h : Post K E S.length p H (f l S) (QD K Q)) : T K E f s H Q := ⟨p, l, S, R, L, h⟩
end
end Ly
set_option Elab.async false
set_option linter.all false
set_option maxRecDepth 100000
namespace Ly
open PySem PySem.Spec L2
open PyProof.Rows hiding St
section
variable {K : PySem.W.Frag} {E : St → XK} {p : Nat → Addr} {S : Hs} {H : Hp} {Q : VK}
/-- what is laid beside the store -/
theorem ext_junk {n : Nat} {q : Addr} {u : HO} (hq : H q = none) : Ext n n p p H (upd H q u) :=
  ⟨Nat.le_refl _, fun _ _ => rfl, fun a xs h => by rw [upd_ne (ne_of_none h hq)]; exact h⟩
theorem Real.junk {q : Addr} {u : HO} (R : Real K p S H) (hq : H q = none) : Real K p S (upd H q u) :=
  ⟨fun i o e => (R.ob i o e).ext (ext_junk hq) (by
    obtain ⟨z, e1, _⟩ := (R.ob i o e).some
    exact upd_ne (ne_of_none e1 hq)), R.inj⟩
theorem Post.val {d : D} (h : Post K E S.length p H (.ok d S) (QD K Q)) (R : Real K p S H) {v : V} (r : Rep K p S.length H d v) : Q v H := Post.ok h Ext.refl R v r
theorem Post.valT {ds : List D} {xs : List V} (h : Post K E S.length p H (.ok (.tup ds) S) (QD K Q)) (R : Real K p S H) (r : Reps K p S.length H ds xs) {q : Addr} (hq : H q = none) : Q (.ref q) (upd H q (.tup xs)) :=
  Post.ok h (ext_junk hq) (R.junk hq) _ (.tup upd_same (r.ext (ext_junk hq) _ _))
theorem Post.new {o : O} {u : HO} (h : Post K E S.length p H (.ok (.ref S.length) (S ++ [o])) (QD K Q)) (R : Real K p S H) {q : Addr} (hq : H q = none)
    (ro : RO K (piN p S.length q) (S.length + 1) (upd H q u) q o) : Q (.ref q) (upd H q u) := by
  have e : (S ++ [o]).length = S.length + 1 := by simp
  have := Post.ok h (by rw [e]; exact ext_new hq) (R.new hq ro) (.ref (piN p S.length q S.length)) (.ref (by rw [e]; exact Nat.lt_succ_self _))
  rwa [piN_same] at this
theorem Post.newL {ds : List D} {xs : List V} (h : Post K E S.length p H (.ok (.ref S.length) (S ++ [.lst ds])) (QD K Q)) (R : Real K p S H) (r : Reps K p S.length H ds xs) {q : Addr} (hq : H q = none) : Q (.ref q) (upd H q (.lst xs)) :=
  h.new R hq ⟨xs, upd_same, r.ext (ext_new hq) _ _⟩
/-- an object is changed, a value comes -/
theorem Post.put {d : D} {i : Nat} {o : O} {u : HO} (h : Post K E S.length p H (.ok d (S.set i o)) (QD K Q)) (R : Real K p S H) (hi : i < S.length) (ro : RO K p S.length (upd H (p i) u) (p i) o) {v : V} (r : Rep K p S.length (upd H (p i) u) d v) : Q v (upd H (p i) u) := by
  have e : (S.set i o).length = S.length := by simp
  exact Post.ok h (by rw [e]; exact ext_upd (R.notup hi)) (R.put hi ro) v (by rw [e]; exact r)
/-- what a list of the store is like in the heap -/
theorem Real.lst {i : Nat} {ds : List D} (R : Real K p S H) (e : S[i]? = some (.lst ds)) : ∃ xs, H (p i) = some (.lst xs) ∧ Reps K p S.length H ds xs := R.ob i _ e
theorem Real.lt {i : Nat} {o : O} (e : S[i]? = some o) : i < S.length := (List.getElem?_eq_some_iff.mp e).1
end

/-! ### operators by values -/
def OpOk (K : PySem.W.Frag) (E : St → XK) (r : R2) (op : D → D → Hs → R D) : Prop :=
  ∀ p S H x y v u Q, Real K p S H → Rep K p S.length H x v → Rep K p S.length H y u → Post K E S.length p H (op x y S) (QD K Q) → r v u H Q
def mBin (op : D → D → Hs → R D) (f g : M) : M := fun l S => (f l S).bind fun x S1 => (g l S1).bind fun y S2 => op x y S2
instance (i j : Int) : Decidable (IntMulOk i j) := inferInstanceAs (Decidable (¬ _))
def oAdd : D → D → Hs → R D
  | .int i, .int j, S => .ok (.int (i + j)) S
  | .str x, .str y, S => if x.length + y.length ≤ sizeLine then .ok (.str (x ++ y)) S else .bad
  | .tup xs, .tup ys, S => if xs.length + ys.length ≤ sizeLine then .ok (.tup (xs ++ ys)) S else .bad
  | .ref i, .ref j, S => match S[i]?, S[j]? with
    | some (.lst xs), some (.lst ys) => if xs.length + ys.length ≤ sizeLine then .ok (.ref S.length) (S ++ [.lst (xs ++ ys)]) else .bad
    | _, _ => .bad
  | _, _, _ => .bad
def oSub : D → D → Hs → R D
  | .int i, .int j, S => .ok (.int (i - j)) S
  | _, _, _ => .bad
def oMul : D → D → Hs → R D
  | .int i, .int j, S => if IntMulOk i j then .ok (.int (i * j)) S else .bad
  | .ref i, .int k, S => match S[i]? with
    | some (.lst xs) => if -(2 ^ 63) ≤ k ∧ k < 2 ^ 63 ∧ xs.length * k.toNat ≤ sizeLine then .ok (.ref S.length) (S ++ [.lst (List.replicate k.toNat xs).flatten]) else .bad
    | _ => .bad
  | _, _, _ => .bad
def oFdiv : D → D → Hs → R D
  | .int i, .int j, S => if 0 < j ∧ j.natAbs.log2 < 9000 then .ok (.int (i / j)) S else .bad
  | _, _, _ => .bad
def oMod : D → D → Hs → R D
  | .int i, .int j, S => if 0 < j then .ok (.int (i % j)) S else .bad
  | _, _, _ => .bad
def oPow : D → D → Hs → R D
  | .int i, .int j, S => if 0 ≤ j ∧ j ≤ 1000000 ∧ i.natAbs < 2 ^ 64 then .ok (.int (i ^ j.toNat)) S else .bad
  | _, _, _ => .bad
def oShl : D → D → Hs → R D
  | .int i, .int j, S => if 0 ≤ j ∧ j ≤ 1000000 ∧ i.natAbs < 2 ^ 64 then .ok (.int (i * 2 ^ j.toNat)) S else .bad
  | _, _, _ => .bad
def oShr : D → D → Hs → R D
  | .int i, .int j, S => if 0 ≤ j then .ok (.int (i / 2 ^ j.toNat)) S else .bad
  | _, _, _ => .bad
def oAnd : D → D → Hs → R D
  | .int i, .int j, S => .ok (.int (Builtin.bitAnd i j)) S
  | _, _, _ => .bad
def oOr : D → D → Hs → R D
  | .int i, .int j, S => .ok (.int (Builtin.bitOr i j)) S
  | _, _, _ => .bad
def oXor : D → D → Hs → R D
  | .int i, .int j, S => .ok (.int (Builtin.bitXor i j)) S
  | _, _, _ => .bad
abbrev orR (r r' : R2) : R2 := fun x y H Q => r x y H Q ∨ r' x y H Q
section
variable {X : Cx} {E : St → XK} {a b : Expr} {f g : M} {pos : Pos}
theorem e_bin {o : Operator} {r : R2} {op : D → D → Hs → R D} (ho : OpR X (binaryOp o) r) (hk : OpOk X.K E r op) (ha : EM X E a f) (hb : EM X E b g) : EM X E (.BinOp a o b pos) (mBin op f g) :=
  ⟨(pe_op ho ha.pe hb.pe).weak fun s H Q ⟨p, l, S, R, L, h⟩ => T.of R L h fun p1 S1 H1 d v R1 x1 L1 r1 h1 => T.of R1 L1 h1 fun p2 S2 H2 d2 v2 R2 x2 L2 r2 h2 => hk p2 S2 H2 _ _ _ _ Q R2 (r1.ext x2 _ _) r2 h2⟩
abbrev rAddAll (K : PySem.W.Frag) : R2 := orR (rI0 fun i j => .int (i + j)) (orR (fun x y H Q => ∃ i j, x = V.str i ∧ y = V.str j ∧ i.length + j.length ≤ sizeLine ∧ Q (V.str (i ++ j)) H) (orR (rCatA K) rCat))
theorem or_add : OpR X (binaryOp .Add) (rAddAll X.K) := .or op_add (.or op_add_str (.or op_catA op_cat))
theorem ok_add {K : PySem.W.Frag} {E : St → XK} : OpOk K E (rAddAll K) oAdd := by
  intro p S H x y v u Q R rx ry h
  unfold oAdd at h
  split at h
  · cases rx; cases ry; exact .inl ⟨_, _, rfl, rfl, h.val R (.int _)⟩
  · split at h
    · rename_i hl; cases rx; cases ry; exact .inr (.inl ⟨_, _, rfl, rfl, hl, h.val R (.str _)⟩)
    · exact h.elim
  · split at h
    · rename_i xs ys _ hl
      cases rx with
      | @tup a ds vs t r =>
      cases ry with
      | @tup b es us t' r' =>
      refine .inr (.inr (.inl ⟨a, b, vs, us, rfl, rfl, SqT.of t, SqT.of t', by rw [← r.len, ← r'.len]; exact hl, fun e => ?_, fun e e' => ?_, fun e e' q hq => ?_⟩))
      · subst e; cases r; exact h.val R (.tup t' r')
      · subst e'; cases r'; rw [List.append_nil] at h; exact h.val R (.tup t r)
      · exact h.valT R (r.append r') hq
    · exact h.elim
  · split at h
    · rename_i i j _ _ _ xs ys e1 e2
      split at h
      · rename_i hl
        obtain ⟨vs, h1, r1⟩ := R.lst e1
        obtain ⟨us, h2, r2⟩ := R.lst e2
        cases rx; cases ry
        exact .inr (.inr (.inr ⟨_, _, vs, us, rfl, rfl, h1, h2, by rw [← r1.len, ← r2.len]; exact hl, fun q hq => h.newL R (r1.append r2) hq⟩))
      · exact h.elim
    · exact h.elim
  · exact h.elim
theorem e_add (ha : EM X E a f) (hb : EM X E b g) : EM X E (.BinOp a .Add b pos) (mBin oAdd f g) := e_bin or_add ok_add ha hb
theorem ok_I {K : PySem.W.Frag} {E : St → XK} {op : D → D → Hs → R D} {C : Int → Int → Prop} [∀ i j, Decidable (C i j)] {gg : Int → Int → Int}
    (h1 : ∀ i j S, op (.int i) (.int j) S = if C i j then .ok (.int (gg i j)) S else .bad) (h2 : ∀ x y S, (∀ i j, x = .int i → y = .int j → False) → op x y S = .bad) : OpOk K E (rI C fun i j => .int (gg i j)) op := by
  intro p S H x y v u Q R rx ry h
  by_cases e : ∃ i j, x = .int i ∧ y = .int j
  · obtain ⟨i, j, rfl, rfl⟩ := e
    rw [h1] at h
    cases rx; cases ry
    split at h
    · rename_i c; exact ⟨i, j, rfl, rfl, c, h.val R (.int _)⟩
    · exact h.elim
  · rw [h2 x y S fun i j a b => e ⟨i, j, a, b⟩] at h; exact h.elim
theorem ok_I0 {K : PySem.W.Frag} {E : St → XK} {op : D → D → Hs → R D} {gg : Int → Int → Int}
    (h1 : ∀ i j S, op (.int i) (.int j) S = .ok (.int (gg i j)) S) (h2 : ∀ x y S, (∀ i j, x = .int i → y = .int j → False) → op x y S = .bad) : OpOk K E (rI0 fun i j => .int (gg i j)) op := by
  intro p S H x y v u Q R rx ry h
  by_cases e : ∃ i j, x = .int i ∧ y = .int j
  · obtain ⟨i, j, rfl, rfl⟩ := e
    rw [h1] at h
    cases rx; cases ry
    exact ⟨i, j, rfl, rfl, h.val R (.int _)⟩
  · rw [h2 x y S fun i j a b => e ⟨i, j, a, b⟩] at h; exact h.elim
theorem e_sub (ha : EM X E a f) (hb : EM X E b g) : EM X E (.BinOp a .Sub b pos) (mBin oSub f g) :=
  e_bin op_sub (ok_I0 (fun _ _ _ => rfl) fun x y S h => by unfold oSub; split <;> first | rfl | exact (h _ _ rfl rfl).elim) ha hb
theorem op_mulA : OpR X (binaryOp .Mult) (rI IntMulOk fun i j => .int (i * j)) := opI fun _ _ _ _ _ _ _ hc q => mul_int q hc
theorem ok_mul {K : PySem.W.Frag} {E : St → XK} : OpOk K E (orR (rI IntMulOk fun i j => .int (i * j)) rRep) oMul := by
  intro p S H x y v u Q R rx ry h
  unfold oMul at h
  split at h
  · split at h
    · rename_i c; cases rx; cases ry; exact .inl ⟨_, _, rfl, rfl, c, h.val R (.int _)⟩
    · exact h.elim
  · split at h
    · rename_i e1
      split at h
      · rename_i hl
        obtain ⟨vs, h1, r1⟩ := R.lst e1
        cases rx; cases ry
        refine .inr ⟨_, _, vs, rfl, rfl, h1, hl.1, hl.2.1, by rw [← r1.len]; exact hl.2.2, fun q hq => h.newL R ?_ hq⟩
        generalize Int.toNat _ = n
        clear h hl
        induction n with
        | zero => exact .nil
        | succ n ih => rw [List.replicate_succ, List.replicate_succ, List.flatten_cons, List.flatten_cons]; exact r1.append ih
      · exact h.elim
    · exact h.elim
  · exact h.elim
theorem e_mul (ha : EM X E a f) (hb : EM X E b g) : EM X E (.BinOp a .Mult b pos) (mBin oMul f g) := e_bin (OpR.or op_mulA op_rep) ok_mul ha hb
theorem e_fdiv (ha : EM X E a f) (hb : EM X E b g) : EM X E (.BinOp a .FloorDiv b pos) (mBin oFdiv f g) :=
  e_bin op_fdivW (ok_I (C := fun _ j => 0 < j ∧ j.natAbs.log2 < 9000) (fun _ _ _ => rfl) fun x y S h => by unfold oFdiv; split <;> first | rfl | exact (h _ _ rfl rfl).elim) ha hb
theorem e_mod (ha : EM X E a f) (hb : EM X E b g) : EM X E (.BinOp a .Mod b pos) (mBin oMod f g) :=
  e_bin op_mod (ok_I (fun _ _ _ => rfl) fun x y S h => by unfold oMod; split <;> first | rfl | exact (h _ _ rfl rfl).elim) ha hb
theorem e_pow (ha : EM X E a f) (hb : EM X E b g) : EM X E (.BinOp a .Pow b pos) (mBin oPow f g) :=
  e_bin op_pow (ok_I (C := fun i j => 0 ≤ j ∧ j ≤ 1000000 ∧ i.natAbs < 2 ^ 64) (fun _ _ _ => rfl) fun x y S h => by unfold oPow; split <;> first | rfl | exact (h _ _ rfl rfl).elim) ha hb
theorem e_shl (ha : EM X E a f) (hb : EM X E b g) : EM X E (.BinOp a .LShift b pos) (mBin oShl f g) :=
  e_bin op_shl (ok_I (C := fun i j => 0 ≤ j ∧ j ≤ 1000000 ∧ i.natAbs < 2 ^ 64) (fun _ _ _ => rfl) fun x y S h => by unfold oShl; split <;> first | rfl | exact (h _ _ rfl rfl).elim) ha hb
theorem e_shr (ha : EM X E a f) (hb : EM X E b g) : EM X E (.BinOp a .RShift b pos) (mBin oShr f g) :=
  e_bin op_shr (ok_I (fun _ _ _ => rfl) fun x y S h => by unfold oShr; split <;> first | rfl | exact (h _ _ rfl rfl).elim) ha hb
theorem e_band (ha : EM X E a f) (hb : EM X E b g) : EM X E (.BinOp a .BitAnd b pos) (mBin oAnd f g) :=
  e_bin op_and (ok_I0 (fun _ _ _ => rfl) fun x y S h => by unfold oAnd; split <;> first | rfl | exact (h _ _ rfl rfl).elim) ha hb
theorem e_bor (ha : EM X E a f) (hb : EM X E b g) : EM X E (.BinOp a .BitOr b pos) (mBin oOr f g) :=
  e_bin op_or (ok_I0 (fun _ _ _ => rfl) fun x y S h => by unfold oOr; split <;> first | rfl | exact (h _ _ rfl rfl).elim) ha hb
theorem e_bxor (ha : EM X E a f) (hb : EM X E b g) : EM X E (.BinOp a .BitXor b pos) (mBin oXor f g) :=
  e_bin op_xor (ok_I0 (fun _ _ _ => rfl) fun x y S h => by unfold oXor; split <;> first | rfl | exact (h _ _ rfl rfl).elim) ha hb
/-! ### names, constants -/
def mVar (i : Nat) : M := fun l S => match l[i]? with
  | some (some d) => .ok d S
  | _ => .bad
def mC (d : D) : M := fun _ S => .ok d S
theorem e_of_var {e : Expr} {i : Nat} (h : PE X e (tVar i)) : EM X E e (mVar i) := ⟨h.weak fun s H Q ⟨p, l, S, R, L, h⟩ => by
  unfold mVar at h
  split at h
  · rename_i d e
    obtain ⟨v, h1, r⟩ := L.get e
    exact ⟨v, h1, h.val R r⟩
  · exact h.elim⟩
theorem e_of_c {e : Expr} {d : D} {v : V} (h : PE X e (tC v)) (hr : ∀ p n H, Rep X.K p n H d v) : EM X E e (mC d) := ⟨h.weak fun s H Q ⟨p, l, S, R, L, h⟩ => h.val R (hr _ _ _)⟩
theorem e_v (i : Nat) {x : Str} {pos : Pos} (hN : X.N[i]? = some x := by rfl) (hv : Vis X.env.scope x := by first | exact Or.inl rfl | exact Or.inr (Or.inl rfl) | exact Or.inr (Or.inr rfl)) (hd : (x == ("__debug__" : Str)) = false := by decide)
    (hcd : (x == ("__classdict__" : Str)) = false := by decide) : EM X E (.Name x pos) (mVar i) := e_of_var (pe_var hN hv hd hcd)
theorem e_int {i j pos} : EM X E (.Constant (.int i) j pos) (mC (.int i)) := e_of_c pe_int fun _ _ _ => .int _
theorem e_str {i j pos} : EM X E (.Constant (.str i) j pos) (mC (.str i)) := e_of_c pe_str fun _ _ _ => .str _
theorem e_bl {i j pos} : EM X E (.Constant (.bool i) j pos) (mC (.bl i)) := e_of_c pe_bl fun _ _ _ => .bl _
theorem e_non {j pos} : EM X E (.Constant .none j pos) (mC .non) := e_of_c pe_non fun _ _ _ => .non
def oNeg : D → Hs → R D
  | .int i, S => .ok (.int (-i)) S
  | _, _ => .bad
def mUn (op : D → Hs → R D) (f : M) : M := fun l S => (f l S).bind op
theorem e_neg (ha : EM X E a f) : EM X E (.UnaryOp .USub a pos) (mUn oNeg f) := ⟨(pe_un un_neg ha.pe).weak fun s H Q ⟨p, l, S, R, L, h⟩ => T.of R L h fun p1 S1 H1 d v R1 x1 L1 r1 h1 => by
  unfold oNeg at h1
  split at h1
  · cases r1; exact ⟨_, rfl, h1.val R1 (.int _)⟩
  · exact h1.elim⟩
end
end Ly
set_option Elab.async false
set_option linter.all false
set_option maxRecDepth 100000
namespace Ly
open PySem PySem.Spec L2
open PyProof.Rows hiding St
/-! ### data -/
mutual
def D.pd (S : Hs) : Nat → D → Option PyData
  | 0, _ => none
  | _ + 1, .non => some .none
  | _ + 1, .bl b => some (.bool b)
  | _ + 1, .int i => some (.int i)
  | _ + 1, .str x => some (.str x)
  | k + 1, .tup ds => (D.pds S k ds).map .tuple
  | k + 1, .wt ds => (D.pds S k ds).map .tuple
  | k + 1, .ref i => match S[i]? with
    | some (.lst ds) => (D.pds S k ds).map .list
    | some (.rol ds) => (D.pds S k ds).map .list
    | _ => none
  | _ + 1, .cst _ => none
  | _ + 1, .wl _ => none
def D.pds (S : Hs) : Nat → List D → Option (List PyData)
  | _, [] => some []
  | 0, _ :: _ => none
  | k + 1, d :: ds => match D.pd S k d, D.pds S (k + 1) ds with
    | some a, some b => some (a :: b)
    | _, _ => none
end
section
variable {K : PySem.W.Frag} {p : Nat → Addr} {S : Hs} {H : Hp}
mutual
theorem D.pd_dp (R : Real K p S H) : ∀ (k : Nat) (d : D) (v : V) (x : PyData), Rep K p S.length H d v → D.pd S k d = some x → Dp K H v x
  | 0, d, _, _, _, e => by simp [D.pd] at e
  | k + 1, .non, _, _, .non, e => by simp [D.pd] at e; subst e; exact .non
  | k + 1, .bl b, _, _, .bl _, e => by simp [D.pd] at e; subst e; exact .bl _
  | k + 1, .int b, _, _, .int _, e => by simp [D.pd] at e; subst e; exact .int _
  | k + 1, .str b, _, _, .str _, e => by simp [D.pd] at e; subst e; exact .str _
  | k + 1, .tup ds, _, _, .tup t r, e => by
    simp only [D.pd, Option.map_eq_some_iff] at e
    obtain ⟨xs, e, rfl⟩ := e
    exact .tup (SqT.of t) (D.pds_dp R k ds _ _ r e)
  | k + 1, .wt ds, _, _, .wt t r, e => by
    simp only [D.pd, Option.map_eq_some_iff] at e
    obtain ⟨xs, e, rfl⟩ := e
    exact .tup t.sq (D.pds_dp R k ds _ _ r e)
  | k + 1, .ref i, _, _, .ref h, e => by
    simp only [D.pd] at e
    split at e
    · rename_i ds q
      simp only [Option.map_eq_some_iff] at e
      obtain ⟨xs, e, rfl⟩ := e
      obtain ⟨vs, h1, r⟩ := R.lst q
      exact .lst (SqL.of h1) (D.pds_dp R k ds _ _ r e)
    · rename_i ds q
      simp only [Option.map_eq_some_iff] at e
      obtain ⟨xs, e, rfl⟩ := e
      obtain ⟨o, vs, h1, r⟩ := R.ob i _ q
      exact .lst (.inl (.inr ⟨o, h1⟩)) (D.pds_dp R k ds _ _ r e)
    · cases e
  | k + 1, .cst a, _, _, _, e => by simp [D.pd] at e
  | k + 1, .wl a, _, _, _, e => by simp [D.pd] at e
theorem D.pds_dp (R : Real K p S H) : ∀ (k : Nat) (d : List D) (v : List V) (x : List PyData), Reps K p S.length H d v → D.pds S k d = some x → DpAll K H v x
  | k, [], _, _, .nil, e => by cases k <;> (simp [D.pds] at e; subst e; exact .nil)
  | 0, d :: ds, _, _, _, e => by simp [D.pds] at e
  | k + 1, d :: ds, _, _, .cons r s, e => by
    simp only [D.pds] at e
    split at e
    · rename_i a b e1 e2
      cases e
      exact .cons (D.pd_dp R k d _ _ r e1) (D.pds_dp R (k + 1) ds _ _ s e2)
    · cases e
end
end
/-! ### comparisons -/
def cEqS : D → D → Option Bool
  | .int i, .int j => some (decide (i = j))
  | .str i, .str j => some (decide (i = j))
  | .bl i, .bl j => some (decide (i = j))
  | .non, .non => some true
  | .non, .int _ => some false
  | .int _, .non => some false
  | .non, .bl _ => some false
  | .bl _, .non => some false
  | .non, .str _ => some false
  | .str _, .non => some false
  | .int _, .str _ => some false
  | .str _, .int _ => some false
  | .bl _, .str _ => some false
  | .str _, .bl _ => some false
  | _, _ => none
def cEqD (x y : D) (S : Hs) : Option Bool :=
  match cEqS x y with
  | some b => some b
  | none => match D.pd S 70 x, D.pd S 70 y with
    | some a, some b => if SeqAt.shaped a = true ∧ SeqAt.shaped b = true then some (PyData.eqv a b) else none
    | _, _ => none
def oEq (x y : D) (S : Hs) : R D := match cEqD x y S with
  | some b => .ok (.bl b) S
  | none => .bad
def oNe (x y : D) (S : Hs) : R D := match cEqD x y S with
  | some b => .ok (.bl (!b)) S
  | none => .bad
def oLt : D → D → Hs → R D
  | .int i, .int j, S => .ok (.bl (decide (i < j))) S
  | _, _, _ => .bad
def oLe : D → D → Hs → R D
  | .int i, .int j, S => .ok (.bl (decide (i ≤ j))) S
  | _, _, _ => .bad
def oGt : D → D → Hs → R D
  | .int i, .int j, S => .ok (.bl (decide (j < i))) S
  | _, _, _ => .bad
def oGe : D → D → Hs → R D
  | .int i, .int j, S => .ok (.bl (decide (j ≤ i))) S
  | _, _, _ => .bad
def D.isNon : D → Bool
  | .non => true
  | _ => false
def oIs : D → D → Hs → R D
  | x, .non, S => .ok (.bl x.isNon) S
  | .bl a, .bl b, S => .ok (.bl (decide (a = b))) S
  | _, _, _ => .bad
def oIsNot : D → D → Hs → R D
  | x, .non, S => .ok (.bl (!x.isNon)) S
  | .bl a, .bl b, S => .ok (.bl (!decide (a = b))) S
  | _, _, _ => .bad
/-- == of flat values -/
def eqF : D → D → Bool
  | .non, .non => true
  | .bl a, .bl b => a == b
  | .bl a, .int b => (if a then 1 else 0) == b
  | .int a, .bl b => a == (if b then 1 else 0)
  | .int a, .int b => a == b
  | .str a, .str b => a == b
  | _, _ => false
def flatD : D → Bool
  | .non => true
  | .bl _ => true
  | .int _ => true
  | .str _ => true
  | _ => false
def inS (i j : Str) : Bool := match i with
  | ⟨⟨[c]⟩⟩ => decide (c ∈ j.cps.toList)
  | _ => !(Builtin.Str.occurrences j i 0 j.length 1).isEmpty
def D.key : D → Option Key
  | .int i => some (.inl i)
  | .str x => some (.inr x)
  | _ => none
def D.keys : List D → Option (List Key)
  | [] => some []
  | d :: ds => match d.key, D.keys ds with
    | some k, some l => some (k :: l)
    | _, _ => none
def D.tkey : D → Option (List Key)
  | .tup ds => D.keys ds
  | _ => none
def getK {κ : Type} [DecidableEq κ] (kvs : List (κ × D)) (k : κ) : Option D := (kvs.find? fun kv => decide (kv.1 = k)).map (·.2)
def setK {κ : Type} [DecidableEq κ] (kvs : List (κ × D)) (k : κ) (v : D) : List (κ × D) :=
  if (kvs.any fun kv => decide (kv.1 = k)) = true then kvs.map fun kv => if kv.1 = k then (kv.1, v) else kv else kvs ++ [(k, v)]
/-- d.get(y) of a dict; none: no dict, or no key of its kind -/
def dGet (x y : D) (S : Hs) : Option (Option D) := match x with
  | .ref i => match S[i]? with
    | some (.dic kvs) => match y.key with
      | some k => some (getK kvs k)
      | none => none
    | some (.dit kvs) => match y.tkey with
      | some k => some (getK kvs k)
      | none => none
    | _ => none
  | _ => none
def cIn (x y : D) (S : Hs) : Option Bool := match x, y with
  | .str i, .str j => some (inS i j)
  | x, .tup ds => if flatD x && ds.all flatD then some (ds.any fun z => eqF z x) else none
  | x, .wt ds => if flatD x && ds.all flatD then some (ds.any fun z => eqF z x) else none
  | x, .ref i => match S[i]? with
    | some (.lst ds) => if flatD x && ds.all flatD then some (ds.any fun z => eqF z x) else
      match D.pd S 70 x, D.pd S 70 (.ref i) with
      | some a, some (.list b) => if SeqAt.shaped a = true ∧ SeqAt.shaped (.list b) = true then some (b.any fun z => z.eqv a) else none
      | _, _ => none
    | some (.dic kvs) => (dGet (.ref i) x S).map (·.isSome)
    | some (.dit kvs) => (dGet (.ref i) x S).map (·.isSome)
    | _ => none
  | _, _ => none
def oIn (x y : D) (S : Hs) : R D := match cIn x y S with
  | some b => .ok (.bl b) S
  | none => .bad
def oNotIn (x y : D) (S : Hs) : R D := match cIn x y S with
  | some b => .ok (.bl (!b)) S
  | none => .bad
section
variable {K : PySem.W.Frag} {E : St → XK} {p : Nat → Addr} {S : Hs} {H : Hp} {n : Nat} {pi : Nat → Addr}
theorem cEqS_V {x y : D} {v u : V} {b : Bool} (rx : Rep K pi n H x v) (ry : Rep K pi n H y u) (h : cEqS x y = some b) : scal v u = true ∧ decide (v = u) = b := by
  unfold cEqS at h
  split at h <;> first | (cases h; done) | (cases rx; cases ry; cases h; exact ⟨rfl, by simp⟩)
theorem ok_eq : OpOk K E (orR rEq (rEqD K)) oEq := by
  intro p S H x y v u Q R rx ry h
  unfold oEq at h
  split at h
  · rename_i b e
    unfold cEqD at e
    split at e
    · rename_i c e1
      cases e
      obtain ⟨h1, h2⟩ := cEqS_V rx ry e1
      exact .inl ⟨h1, by rw [h2]; exact h.val R (.bl _)⟩
    · split at e
      · rename_i a c e1 e2
        split at e
        · rename_i hs
          cases e
          exact .inr ⟨a, c, D.pd_dp R _ _ _ _ rx e1, D.pd_dp R _ _ _ _ ry e2, hs.1, hs.2, h.val R (.bl _)⟩
        · cases e
      · cases e
  · exact h.elim
theorem ok_ne : OpOk K E (orR rNe (rNeD K)) oNe := by
  intro p S H x y v u Q R rx ry h
  unfold oNe at h
  split at h
  · rename_i b e
    unfold cEqD at e
    split at e
    · rename_i c e1
      cases e
      obtain ⟨h1, h2⟩ := cEqS_V rx ry e1
      exact .inl ⟨h1, by rw [h2]; exact h.val R (.bl _)⟩
    · split at e
      · rename_i a c e1 e2
        split at e
        · rename_i hs
          cases e
          exact .inr ⟨a, c, D.pd_dp R _ _ _ _ rx e1, D.pd_dp R _ _ _ _ ry e2, hs.1, hs.2, h.val R (.bl _)⟩
        · cases e
      · cases e
  · exact h.elim
theorem ok_B0 {op : D → D → Hs → R D} {gg : Int → Int → Bool} (h1 : ∀ i j S, op (.int i) (.int j) S = .ok (.bl (gg i j)) S) (h2 : ∀ x y S, (∀ i j, x = .int i → y = .int j → False) → op x y S = .bad) : OpOk K E (rI0 fun i j => .bl (gg i j)) op := by
  intro p S H x y v u Q R rx ry h
  by_cases e : ∃ i j, x = .int i ∧ y = .int j
  · obtain ⟨i, j, rfl, rfl⟩ := e
    rw [h1] at h
    cases rx; cases ry
    exact ⟨i, j, rfl, rfl, h.val R (.bl _)⟩
  · rw [h2 x y S fun i j a b => e ⟨i, j, a, b⟩] at h; exact h.elim
theorem ok_lt : OpOk K E (rI0 fun i j => .bl (decide (i < j))) oLt := ok_B0 (fun _ _ _ => rfl) fun x y S h => by unfold oLt; split <;> first | rfl | exact (h _ _ rfl rfl).elim
theorem ok_le : OpOk K E (rI0 fun i j => .bl (decide (i ≤ j))) oLe := ok_B0 (fun _ _ _ => rfl) fun x y S h => by unfold oLe; split <;> first | rfl | exact (h _ _ rfl rfl).elim
theorem ok_gt : OpOk K E (rI0 fun i j => .bl (decide (j < i))) oGt := ok_B0 (fun _ _ _ => rfl) fun x y S h => by unfold oGt; split <;> first | rfl | exact (h _ _ rfl rfl).elim
theorem ok_ge : OpOk K E (rI0 fun i j => .bl (decide (j ≤ i))) oGe := ok_B0 (fun _ _ _ => rfl) fun x y S h => by unfold oGe; split <;> first | rfl | exact (h _ _ rfl rfl).elim
theorem isNon_V {x : D} {v : V} (rx : Rep K pi n H x v) : x.isNon = decide (v = .non) := by cases rx <;> rfl
abbrev rIsNA : R2 := fun x y H Q => y = .non ∧ Q (.bl (decide (x = .non))) H
abbrev rNotNA : R2 := fun x y H Q => y = .non ∧ Q (.bl (!decide (x = .non))) H
theorem ok_is : OpOk K E (orR rIsNA rIsB) oIs := by
  intro p S H x y v u Q R rx ry h
  unfold oIs at h
  split at h
  · cases ry; exact .inl ⟨rfl, by rw [← isNon_V rx]; exact h.val R (.bl _)⟩
  · cases rx; cases ry; exact .inr ⟨_, _, rfl, rfl, h.val R (.bl _)⟩
  · exact h.elim
theorem ok_isnot : OpOk K E (orR rNotNA rNotB) oIsNot := by
  intro p S H x y v u Q R rx ry h
  unfold oIsNot at h
  split at h
  · cases ry; exact .inl ⟨rfl, by rw [← isNon_V rx]; exact h.val R (.bl _)⟩
  · cases rx; cases ry; exact .inr ⟨_, _, rfl, rfl, h.val R (.bl _)⟩
  · exact h.elim
theorem flat_V {x : D} {v : V} (rx : Rep K pi n H x v) (h : flatD x = true) : flatV v = true := by cases rx <;> first | rfl | cases h
theorem eqF_V {x y : D} {v u : V} (rx : Rep K pi n H x v) (ry : Rep K pi n H y u) (h : flatD y = true) : eqF x y = eqV v u := by cases rx <;> cases ry <;> first | rfl | cases h
theorem flats_V {ds : List D} {vs : List V} (r : Reps K pi n H ds vs) (h : ds.all flatD = true) : vs.all flatV = true := by
  induction ds generalizing vs with
  | nil => cases r; rfl
  | cons d ds ih =>
    cases r with
    | cons r s =>
      rw [List.all_cons, Bool.and_eq_true] at h ⊢
      exact ⟨flat_V r h.1, ih s h.2⟩
theorem any_V {ds : List D} {vs : List V} {x : D} {v : V} (r : Reps K pi n H ds vs) (rx : Rep K pi n H x v) (h : flatD x = true) : (ds.any fun z => eqF z x) = inV v vs := by
  unfold inV
  induction ds generalizing vs with
  | nil => cases r; rfl
  | cons d ds ih =>
    cases r with
    | cons r s => rw [List.any_cons, List.any_cons, eqF_V r rx h, ih s]
theorem key_V {y : D} {u : V} {k : Key} (ry : Rep K pi n H y u) (h : y.key = some k) : u = kV k := by
  unfold D.key at h
  split at h <;> first | (cases ry; cases h; rfl) | cases h
theorem keys_V {ds : List D} {vs : List V} {k : List Key} (r : Reps K pi n H ds vs) (h : D.keys ds = some k) : vs = k.map kV := by
  induction ds generalizing vs k with
  | nil => cases r; cases h; rfl
  | cons d ds ih =>
    cases r with
    | cons r s =>
      simp only [D.keys] at h
      split at h
      · rename_i a b e1 e2
        cases h
        rw [key_V r e1, ih s e2]; rfl
      · cases h
def GetRel (K : PySem.W.Frag) (p : Nat → Addr) (n : Nat) (H : Hp) (o : Option D) (w : Option V) : Prop := match o with
  | some d => ∃ z, w = some z ∧ Rep K p n H d z
  | none => w = none
theorem getK_V {κ : Type} [DecidableEq κ] {kvs : List (κ × D)} {ks : List (κ × V)} (h : ks.map (·.1) = kvs.map (·.1)) (r : Reps K pi n H (kvs.map (·.2)) (ks.map (·.2))) (k : κ) : GetRel K pi n H (getK kvs k) (valV ks k) := by
  induction kvs generalizing ks with
  | nil => cases ks with | nil => exact rfl | cons a b => cases h
  | cons a kvs ih =>
    cases ks with
    | nil => cases h
    | cons b ks =>
      simp only [List.map_cons, List.cons.injEq] at h
      cases r with
      | cons r s =>
        have := ih h.2 s
        unfold getK valV at this ⊢
        by_cases e : a.1 = k
        · rw [List.find?_cons_of_pos (by simpa using e)]
          refine ⟨b.2, ?_, r⟩
          rw [List.find?_cons_of_pos (by simpa [h.1] using e)]; rfl
        · rw [List.find?_cons_of_neg (by simpa using e), List.find?_cons_of_neg (by simpa [h.1] using e)]
          exact this
theorem dGet_V {x y : D} {v u : V} {o : Option D} (R : Real K p S H) (rx : Rep K p S.length H x v) (ry : Rep K p S.length H y u) (h : dGet x y S = some o) :
    ∃ a w, v = .ref a ∧ DGet H a u w ∧ GetRel K p S.length H o w := by
  cases x with
  | ref i =>
    cases rx
    simp only [dGet] at h
    split at h
    · rename_i kvs q
      obtain ⟨ks, h1, h2, h3⟩ := R.ob i _ q
      split at h
      · rename_i k ek
        cases h
        exact ⟨_, _, rfl, .inl ⟨ks, k, .inl h1, key_V ry ek, rfl⟩, getK_V h2 h3 k⟩
      · cases h
    · rename_i kvs q
      obtain ⟨ks, h1, h2, h3⟩ := R.ob i _ q
      split at h
      · rename_i k ek
        cases h
        unfold D.tkey at ek
        split at ek
        · cases ry with
          | @tup b _ vs t r =>
          exact ⟨_, _, rfl, .inr ⟨ks, k, b, .inl h1, rfl, by rw [← keys_V r ek]; exact t, rfl⟩, getK_V h2 h3 k⟩
        · cases ek
      · cases h
    · cases h
  | _ => cases h
abbrev rDIn : R2 := fun x y H Q => ∃ a o, y = .ref a ∧ DGet H a x o ∧ Q (.bl o.isSome) H
abbrev rDNotIn : R2 := fun x y H Q => ∃ a o, y = .ref a ∧ DGet H a x o ∧ Q (.bl (!o.isSome)) H
abbrev rInStr : R2 := fun x y H Q => ∃ i j, x = V.str i ∧ y = V.str j ∧ Q (V.bl !(Builtin.Str.occurrences j i 0 j.length 1).isEmpty) H
abbrev rInSign : R2 := fun x y H Q => ∃ (c : Nat) (z : Str), x = .str ⟨#[c]⟩ ∧ y = .str z ∧ Q (.bl (decide (c ∈ z.cps.toList))) H
abbrev rInAll (K : PySem.W.Frag) : R2 := orR rInSign (orR rInStr (orR (rIn K false) (orR (rInD K) rDIn)))
abbrev rNotInStr : R2 := fun x y H Q => ∃ i j, x = V.str i ∧ y = V.str j ∧ Q (V.bl !(!(Builtin.Str.occurrences j i 0 j.length 1).isEmpty)) H
abbrev rNotInSign : R2 := fun x y H Q => ∃ (c : Nat) (z : Str), x = .str ⟨#[c]⟩ ∧ y = .str z ∧ Q (.bl (!decide (c ∈ z.cps.toList))) H
abbrev rNotInAll (K : PySem.W.Frag) : R2 := orR rNotInSign (orR rNotInStr (orR (rIn K true) (orR (rNotInD K) rDNotIn)))
theorem or_din {X : Cx} (hu : X.A.units + 1 < cLine) : OpR X (compareOp .In) rDIn := by
  intro pins s σ H x y v u Q I rx ry h
  obtain ⟨a, o, rfl, g, q⟩ := h
  obtain rfl : u = Value.ref a := ry
  exact d_in hu I g rx fun s3 I3 => ⟨.bl o.isSome, H, I3, rfl, q⟩
theorem or_dnotin {X : Cx} (hu : X.A.units + 1 < cLine) : OpR X (compareOp .NotIn) rDNotIn := by
  intro pins s σ H x y v u Q I rx ry h
  obtain ⟨a, o, rfl, g, q⟩ := h
  obtain rfl : u = Value.ref a := ry
  exact d_notIn hu I g rx fun s3 I3 => ⟨.bl (!o.isSome), H, I3, rfl, q⟩
theorem cIn_V {x y : D} {v u : V} {b : Bool} (R : Real K p S H) (rx : Rep K p S.length H x v) (ry : Rep K p S.length H y u) (h : cIn x y S = some b) :
    (∃ (c : Nat) (z : Str), v = .str ⟨#[c]⟩ ∧ u = .str z ∧ b = decide (c ∈ z.cps.toList)) ∨ (∃ i j, v = V.str i ∧ u = V.str j ∧ b = !(Builtin.Str.occurrences j i 0 j.length 1).isEmpty) ∨
    (∃ q xs, u = .ref q ∧ (SqL K H q xs ∨ SqT K H q xs) ∧ flatV v = true ∧ xs.all flatV = true ∧ b = inV v xs) ∨
    (∃ d ds, Dp K H v d ∧ Dp K H u (.list ds) ∧ SeqAt.shaped d = true ∧ SeqAt.shaped (.list ds) = true ∧ b = ds.any fun z => z.eqv d) ∨
    (∃ a o, u = .ref a ∧ DGet H a v o ∧ b = o.isSome) := by
  have dic : ∀ i, y = .ref i → ((dGet (.ref i) x S).map (·.isSome)) = some b → ∃ a o, u = .ref a ∧ DGet H a v o ∧ b = o.isSome := fun i e hh => by
    subst e
    rw [Option.map_eq_some_iff] at hh
    obtain ⟨o, hh, rfl⟩ := hh
    obtain ⟨a, w, e1, g, m⟩ := dGet_V R ry rx hh
    refine ⟨a, w, e1, g, ?_⟩
    cases o with
    | none => rw [m]; rfl
    | some d => obtain ⟨z, e, _⟩ := m; rw [e]; rfl
  unfold cIn at h
  split at h
  · rename_i i j
    cases h; cases rx; cases ry
    unfold inS
    split
    · exact .inl ⟨_, _, rfl, rfl, rfl⟩
    · exact .inr (.inl ⟨_, _, rfl, rfl, rfl⟩)
  · split at h
    · rename_i hf
      rw [Bool.and_eq_true] at hf
      cases h
      cases ry with
      | tup t r => exact .inr (.inr (.inl ⟨_, _, rfl, .inr (SqT.of t), flat_V rx hf.1, flats_V r hf.2, any_V r rx hf.1⟩))
    · cases h
  · split at h
    · rename_i hf
      rw [Bool.and_eq_true] at hf
      cases h
      cases ry with
      | wt t r => exact .inr (.inr (.inl ⟨_, _, rfl, .inr t.sq, flat_V rx hf.1, flats_V r hf.2, any_V r rx hf.1⟩))
    · cases h
  · rename_i i
    split at h
    · rename_i ds q
      obtain ⟨vs, h1, r⟩ := R.lst q
      split at h
      · rename_i hf
        rw [Bool.and_eq_true] at hf
        cases h
        cases ry
        exact .inr (.inr (.inl ⟨_, _, rfl, .inl (SqL.of h1), flat_V rx hf.1, flats_V r hf.2, any_V r rx hf.1⟩))
      · split at h
        · rename_i a c e1 e2
          split at h
          · rename_i hs
            cases h
            exact .inr (.inr (.inr (.inl ⟨a, c, D.pd_dp R _ _ _ _ rx e1, D.pd_dp R _ _ _ _ ry e2, hs.1, hs.2, rfl⟩)))
          · cases h
        · cases h
    · exact .inr (.inr (.inr (.inr (dic i rfl h))))
    · exact .inr (.inr (.inr (.inr (dic i rfl h))))
    · cases h
  · cases h
theorem ok_in : OpOk K E (rInAll K) oIn := by
  intro p S H x y v u Q R rx ry h
  unfold oIn at h
  split at h
  · rename_i b e
    have hq : Q (.bl b) H := h.val R (.bl _)
    rcases cIn_V R rx ry e with ⟨c, z, h1, h2, rfl⟩ | ⟨i, j, h1, h2, rfl⟩ | ⟨q, xs, h1, h2, h3, h4, rfl⟩ | ⟨d, ds, h1, h2, h3, h4, rfl⟩ | ⟨a, o, h1, h2, rfl⟩
    · exact .inl ⟨c, z, h1, h2, hq⟩
    · exact .inr (.inl ⟨i, j, h1, h2, hq⟩)
    · exact .inr (.inr (.inl ⟨q, xs, h1, h2, h3, h4, hq⟩))
    · exact .inr (.inr (.inr (.inl ⟨d, ds, h1, h2, h3, h4, hq⟩)))
    · exact .inr (.inr (.inr (.inr ⟨a, o, h1, h2, hq⟩)))
  · exact h.elim
theorem ok_notin : OpOk K E (rNotInAll K) oNotIn := by
  intro p S H x y v u Q R rx ry h
  unfold oNotIn at h
  split at h
  · rename_i b e
    have hq : Q (.bl (!b)) H := h.val R (.bl _)
    rcases cIn_V R rx ry e with ⟨c, z, h1, h2, rfl⟩ | ⟨i, j, h1, h2, rfl⟩ | ⟨q, xs, h1, h2, h3, h4, rfl⟩ | ⟨d, ds, h1, h2, h3, h4, rfl⟩ | ⟨a, o, h1, h2, rfl⟩
    · exact .inl ⟨c, z, h1, h2, hq⟩
    · exact .inr (.inl ⟨i, j, h1, h2, hq⟩)
    · exact .inr (.inr (.inl ⟨q, xs, h1, h2, h3, h4, hq⟩))
    · exact .inr (.inr (.inr (.inl ⟨d, ds, h1, h2, h3, h4, hq⟩)))
    · exact .inr (.inr (.inr (.inr ⟨a, o, h1, h2, hq⟩)))
  · exact h.elim
end
/-! ### a comparison as a value and as a test -/
def mCmp (op : D → D → Hs → R D) (f g : M) : MB := fun l S => (f l S).bind fun x S1 => (g l S1).bind fun y S2 => (op x y S2).bind fun d S3 => match d with
  | .bl b => .ok b S3
  | _ => .bad
section
variable {X : Cx} {E : St → XK} {a b : Expr} {f g : M} {pos : Pos} {r : R2} {op : D → D → Hs → R D} {o : CmpOp}
theorem e_cmp (ho : OpR X (compareOp o) r) (hk : OpOk X.K E r op) (ha : EM X E a f) (hb : EM X E b g) (h1 : behindInMarks o b = false) : EM X E (.Compare a [o] [b] pos) (mBin op f g) :=
  ⟨(pe_cmpR ho ha.pe hb.pe h1).weak fun s H Q ⟨p, l, S, R, L, h⟩ => T.of R L h fun p1 S1 H1 d v R1 x1 L1 r1 h1 => T.of R1 L1 h1 fun p2 S2 H2 d2 v2 R2 x2 L2 r2 h2 => hk p2 S2 H2 _ _ _ _ Q R2 (r1.ext x2 _ _) r2 h2⟩
/-- the operation's end is asked for a truth -/
theorem OpOk.test (hk : OpOk X.K E r op) {p : Nat → Addr} {S : Hs} {H : Hp} {x y : D} {v u : V} {Q : Bool → Hp → Prop} (R : Real X.K p S H) (rx : Rep X.K p S.length H x v) (ry : Rep X.K p S.length H y u)
    (h : Post X.K E S.length p H ((op x y S).bind fun d S3 => match d with | .bl b => Ly.R.ok b S3 | _ => Ly.R.bad) (QB Q)) : r v u H fun x H' => ∃ k, x = .bl k ∧ Q k H' := by
  refine hk p S H x y v u _ R rx ry (h.bind.mono fun d S3 p3 H3 _ x3 R3 q w rw' => ?_)
  cases rw' with
  | bl b => exact ⟨b, rfl, Post.ok (Q := QB Q) q Ext.refl R3⟩
  | _ => exact q.elim
theorem b_cmp (ho : OpR X (compareOp o) r) (hk : OpOk X.K E r op) (ha : EM X E a f) (hb : EM X E b g) (h1 : behindInMarks o b = false) : BM X E (.Compare a [o] [b] pos) (mCmp op f g) :=
  ⟨(pt_cmpR ho ha.pe hb.pe h1).weak fun s H Q ⟨p, l, S, R, L, h⟩ => T.of R L h fun p1 S1 H1 d v R1 x1 L1 r1 h1 => T.of R1 L1 h1 fun p2 S2 H2 d2 v2 R2 x2 L2 r2 h2 => hk.test R2 (r1.ext x2 _ _) r2 h2⟩
end
end Ly
set_option Elab.async false
set_option linter.all false
set_option maxRecDepth 100000
namespace Ly
open PySem PySem.Spec L2
open PyProof.Rows hiding St
/-! ### argument lists -/
def lNil : ML := fun _ S => .ok [] S
def lCons (f : M) (g : ML) : ML := fun l S => (f l S).bind fun x S1 => (g l S1).bind fun xs S2 => .ok (x :: xs) S2
section
variable {X : Cx} {E : St → XK} {e : Expr} {es : List Expr} {f : M} {g : ML} {pos : Pos}
theorem l_nil : LM X E [] lNil := ⟨pa_nil.weak fun s H Q ⟨p, l, S, R, L, h⟩ => Post.ok h Ext.refl R _ .nil⟩
theorem l_cons (ha : EM X E e f) (hb : LM X E es g) (hs : starEach (e :: es) X.env = (false, eval e X.env) :: starEach es X.env := by rfl) : LM X E (e :: es) (lCons f g) :=
  ⟨(pa_cons ha.pe hb.pa hs).weak fun s H Q ⟨p, l, S, R, L, h⟩ => T.of R L h fun p1 S1 H1 d v R1 x1 L1 r1 h1 => TL.of R1 L1 h1 fun p2 S2 H2 d2 v2 R2 x2 L2 r2 h2 => Post.ok h2 Ext.refl R2 _ (.cons (r1.ext x2 _ _) r2)⟩
/-! ### tests -/
def tru (x : D) (S : Hs) : Option Bool := match x with
  | .non => some false
  | .bl b => some b
  | .int i => some (i != 0)
  | .str x => if x.length ≤ sizeLine then some ((x.length : Int) != 0) else none
  | .tup xs => some (!xs.isEmpty)
  | .wt xs => some (!xs.isEmpty)
  | .ref i => match S[i]? with
    | some (.lst xs) => some (!xs.isEmpty)
    | some (.rol xs) => some (!xs.isEmpty)
    | some (.dic xs) => some (!xs.isEmpty)
    | _ => none
  | .wl xs => some (!xs.isEmpty)
  | .cst _ => none
def oTru (x : D) (S : Hs) : R Bool := match tru x S with
  | some b => .ok b S
  | none => .bad
def oNot (x : D) (S : Hs) : R D := match tru x S with
  | some b => .ok (.bl (!b)) S
  | none => .bad
theorem empty_len {α β : Type} {xs : List α} {ys : List β} (h : xs.length = ys.length) : xs.isEmpty = ys.isEmpty := by cases xs <;> cases ys <;> first | rfl | simp at h
theorem tru_V {K : PySem.W.Frag} {p : Nat → Addr} {S : Hs} {H : Hp} {x : D} {v : V} {b : Bool} (R : Real K p S H) (rx : Rep K p S.length H x v) (h : tru x S = some b) : TruV K v H b := by
  unfold tru at h
  cases rx with
  | non => cases h; rfl
  | bl b => cases h; rfl
  | int i => cases h; rfl
  | str x => simp only at h; split at h <;> cases h; exact ⟨by assumption, rfl⟩
  | tup t r => cases h; exact .inr (.inl ⟨_, SqT.of t, by rw [empty_len r.len]⟩)
  | wt t r => cases h; exact .inr (.inl ⟨_, t.sq, by rw [empty_len r.len]⟩)
  | wl t r => cases h; exact .inl ⟨_, t.sq, by rw [empty_len r.len]⟩
  | ref hi =>
    simp only at h
    split at h
    · rename_i q
      obtain ⟨vs, h1, r⟩ := R.lst q
      cases h; exact .inl ⟨_, SqL.of h1, by rw [empty_len r.len]⟩
    · rename_i q
      obtain ⟨o, vs, h1, r⟩ := R.ob _ _ q
      cases h; exact .inl ⟨_, .inl (.inr ⟨o, h1⟩), by rw [empty_len r.len]⟩
    · rename_i q
      obtain ⟨ks, h1, h2, h3⟩ := R.ob _ _ q
      cases h; exact .inr (.inr ⟨_, h1, by rw [empty_len (show ks.length = _ from by simpa using congrArg List.length h2)]⟩)
    · cases h
  | cst a => cases h
def mTru (f : M) : MB := fun l S => (f l S).bind oTru
theorem oTru_of {K : PySem.W.Frag} {p : Nat → Addr} {S : Hs} {H : Hp} {x : D} {v : V} {Q : Bool → Hp → Prop} (R : Real K p S H) (rx : Rep K p S.length H x v) (h : Post K E S.length p H (oTru x S) (QB Q)) : ∃ k, TruV K v H k ∧ Q k H := by
  unfold oTru at h
  split at h
  · rename_i b e; exact ⟨b, tru_V R rx e, Post.ok (Q := QB Q) h Ext.refl R⟩
  · exact h.elim
theorem b_tru {a : Expr} (ha : EM X E a f) (he : ∀ whole, isTrue a X.env whole = (do let v ← whole; standAt a.pos; holding [v] (truthy v)) := by intro _; rfl) : BM X E a (mTru f) :=
  ⟨(pt_truth ha.pe he).weak fun s H Q ⟨p, l, S, R, L, h⟩ => T.of R L h fun p1 S1 H1 d v R1 x1 L1 r1 h1 => oTru_of R1 r1 h1⟩
def mNotB (f : MB) : MB := fun l S => (f l S).bind fun b S1 => .ok (!b) S1
def mAndB (f g : MB) : MB := fun l S => (f l S).bind fun b S1 => if b = true then g l S1 else .ok false S1
def mOrB (f g : MB) : MB := fun l S => (f l S).bind fun b S1 => if b = true then .ok true S1 else g l S1
theorem TB.last {K : PySem.W.Frag} {s : St} {H : Hp} {f : MB} {p : Nat → Addr} {l : Ls} {S : Hs} {Q : Bool → Hp → Prop} (R : Real K p S H) (L : Sl K p S.length H l s) (h : Post K E S.length p H (f l S) (QB Q)) : TB K E f s H Q := ⟨p, l, S, R, L, h⟩
variable {a b : Expr} {rest : List Expr} {fb gb : MB}
theorem b_not (ha : BM X E a fb) : BM X E (.UnaryOp .Not a pos) (mNotB fb) :=
  ⟨(pt_not ha.pt).weak fun s H Q ⟨p, l, S, R, L, h⟩ => TB.of R L h fun p1 S1 H1 b R1 x1 L1 h1 => Post.ok (Q := QB Q) h1 Ext.refl R1⟩
theorem w_and1 (ha : BM X E a fb) : BW X E (.BoolOp .And [a] pos) fb := ⟨pw_and1 ha.pt⟩
theorem w_or1 (ha : BM X E a fb) : BW X E (.BoolOp .Or [a] pos) fb := ⟨pw_or1 ha.pt⟩
theorem w_and (ha : BM X E a fb) (hb : BW X E (.BoolOp .And (b :: rest) pos) gb) : BW X E (.BoolOp .And (a :: b :: rest) pos) (mAndB fb gb) :=
  ⟨(pw_and ha.pt hb.pw).weak fun s H Q ⟨p, l, S, R, L, h⟩ => TB.of R L h fun p1 S1 H1 b R1 x1 L1 h1 => by
    cases b with
    | true => exact TB.last R1 L1 h1
    | false => exact Post.ok (Q := QB Q) h1 Ext.refl R1⟩
theorem w_or (ha : BM X E a fb) (hb : BW X E (.BoolOp .Or (b :: rest) pos) gb) : BW X E (.BoolOp .Or (a :: b :: rest) pos) (mOrB fb gb) :=
  ⟨(pw_or ha.pt hb.pw).weak fun s H Q ⟨p, l, S, R, L, h⟩ => TB.of R L h fun p1 S1 H1 b R1 x1 L1 h1 => by
    cases b with
    | false => exact TB.last R1 L1 h1
    | true => exact Post.ok (Q := QB Q) h1 Ext.refl R1⟩
theorem b_of {e : Expr} (h : BW X E e fb) : BM X E e fb := ⟨h.pw.pt⟩
/-! ### as values -/
def mAnd (f g : M) : M := fun l S => (f l S).bind fun x S1 => (oTru x S1).bind fun b S2 => if b = true then g l S2 else .ok x S2
def mOr (f g : M) : M := fun l S => (f l S).bind fun x S1 => (oTru x S1).bind fun b S2 => if b = true then .ok x S2 else g l S2
def mIf (c : MB) (f g : M) : M := fun l S => (c l S).bind fun b S1 => if b = true then f l S1 else g l S1
variable {h' : M} {t : List Expr}
theorem oTru_bind {β : Type} {K : PySem.W.Frag} {p : Nat → Addr} {S : Hs} {H : Hp} {x : D} {v : V} {k : Bool → Hs → R β} {QQ : β → Hs → (Nat → Addr) → Hp → Prop} (R : Real K p S H) (rx : Rep K p S.length H x v)
    (h : Post K E S.length p H ((oTru x S).bind k) QQ) : ∃ b, TruV K v H b ∧ Post K E S.length p H (k b S) QQ := by
  unfold oTru at h
  split at h
  · rename_i b e; exact ⟨b, tru_V R rx e, h⟩
  · exact h.elim
theorem e_one {op : BoolOp} (ha : EM X E a f) : EM X E (.BoolOp op [a] pos) f := ⟨pe_one ha.pe⟩
theorem e_and {g : M} (ha : EM X E a f) (hb : EM X E (.BoolOp .And (b :: rest) pos) g) : EM X E (.BoolOp .And (a :: b :: rest) pos) (mAnd f g) :=
  ⟨(pe_andT ha.pe hb.pe).weak fun s H Q ⟨p, l, S, R, L, h⟩ => T.of R L h fun p1 S1 H1 d v R1 x1 L1 r1 h1 => by
    obtain ⟨k, hk, h2⟩ := oTru_bind R1 r1 h1
    refine ⟨k, hk, ?_⟩
    cases k with
    | true => exact T.last R1 L1 h2
    | false => exact Post.val h2 R1 r1⟩
theorem e_or {g : M} (ha : EM X E a f) (hb : EM X E (.BoolOp .Or (b :: rest) pos) g) : EM X E (.BoolOp .Or (a :: b :: rest) pos) (mOr f g) :=
  ⟨(pe_orT ha.pe hb.pe).weak fun s H Q ⟨p, l, S, R, L, h⟩ => T.of R L h fun p1 S1 H1 d v R1 x1 L1 r1 h1 => by
    obtain ⟨k, hk, h2⟩ := oTru_bind R1 r1 h1
    refine ⟨k, hk, ?_⟩
    cases k with
    | false => exact T.last R1 L1 h2
    | true => exact Post.val h2 R1 r1⟩
theorem e_not (ha : EM X E a f) : EM X E (.UnaryOp .Not a pos) (mUn oNot f) :=
  ⟨(pe_notT ha.pe).weak fun s H Q ⟨p, l, S, R, L, h⟩ => T.of R L h fun p1 S1 H1 d v R1 x1 L1 r1 h1 => by
    unfold oNot at h1
    split at h1
    · rename_i b e; exact ⟨b, tru_V R1 r1 e, h1.val R1 (.bl _)⟩
    · exact h1.elim⟩
theorem e_if {c : Expr} {g : M} (hc : BM X E c fb) (ha : EM X E a f) (hb : EM X E b g) : EM X E (.IfExp c a b pos) (mIf fb f g) :=
  ⟨(pe_ifExp hc.pt ha.pe hb.pe).weak fun s H Q ⟨p, l, S, R, L, h⟩ => TB.of R L h fun p1 S1 H1 b R1 x1 L1 h1 => by
    cases b with
    | true => exact T.last R1 L1 h1
    | false => exact T.last R1 L1 h1⟩
end
/-! ### subscripts -/
def oIx (x y : D) (S : Hs) : R D := match x, y with
  | .str z, .int i => if z.length ≤ sizeLine then (match atI z.cps.toList i with
    | some c => .ok (.str ⟨#[c]⟩) S
    | none => .bad) else .bad
  | .tup xs, .int i => match atI xs i with
    | some d => .ok d S
    | none => .bad
  | .wt xs, .int i => match atI xs i with
    | some d => .ok d S
    | none => .bad
  | .wl xs, .int i => match atI xs i with
    | some d => .ok d S
    | none => .bad
  | .ref j, y => match S[j]? with
    | some (.lst xs) => (match y with
      | .int i => (match atI xs i with
        | some d => .ok d S
        | none => .bad)
      | _ => .bad)
    | some (.rol xs) => (match y with
      | .int i => (match atI xs i with
        | some d => .ok d S
        | none => .bad)
      | _ => .bad)
    | some (.dic _) => (match dGet x y S with
      | some (some d) => .ok d S
      | _ => .bad)
    | some (.dit _) => (match dGet x y S with
      | some (some d) => .ok d S
      | _ => .bad)
    | _ => .bad
  | _, _ => .bad
abbrev rIxDic : R2 := fun x y H Q => ∃ a v, x = .ref a ∧ DGet H a y (some v) ∧ Q v H
theorem ix_dic {X : Cx} (hu : X.A.units + 1 < cLine) : IxR X rIxDic := by
  intro value slice pins s σ H x y v u Q I rx ry h hs
  obtain ⟨a, w, rfl, g, q⟩ := h
  obtain rfl : v = Value.ref a := rx
  exact tail_any (dict_typeIs I g) PySem.F.slot_dict_getitem.lookup (d_getItem hu I g ry fun w' s3 I3 rw' => ⟨w, H, I3, rw', q⟩) hs
abbrev rIxAll (K : PySem.W.Frag) : R2 := orR rIxS (orR (rIxL K) (orR (rIxT K) rIxDic))
theorem ix_all {X : Cx} (hu : X.A.units + 1 < cLine) : IxR X (rIxAll X.K) := IxR.or ix_str (IxR.or ix_list (IxR.or ix_tup (ix_dic hu)))
section
variable {K : PySem.W.Frag} {E : St → XK} {p : Nat → Addr} {S : Hs} {H : Hp} {n : Nat} {pi : Nat → Addr}
theorem Reps.atI {ds : List D} {vs : List V} (h : Reps K pi n H ds vs) {i : Int} {d : D} (e : atI ds i = some d) : ∃ v, L2.atI vs i = some v ∧ Rep K pi n H d v := by
  unfold L2.atI at e ⊢
  rw [← h.len]
  cases q : ixN ds.length i with
  | none => rw [q] at e; cases e
  | some j =>
    rw [q] at e
    exact h.get e
theorem ok_ix : OpOk K E (rIxAll K) oIx := by
  intro p S H x y v u Q R rx ry h
  unfold oIx at h
  split at h
  · split at h
    · rename_i hl
      split at h
      · rename_i c e; cases rx; cases ry; exact .inl ⟨_, _, c, rfl, rfl, hl, e, h.val R (.str _)⟩
      · exact h.elim
    · exact h.elim
  · split at h
    · rename_i d e
      cases ry
      cases rx with
      | tup t r =>
      obtain ⟨w, e2, r2⟩ := r.atI e
      exact .inr (.inr (.inl ⟨_, _, _, w, rfl, rfl, SqT.of t, e2, h.val R r2⟩))
    · exact h.elim
  · split at h
    · rename_i d e
      cases ry
      cases rx with
      | wt t r =>
      obtain ⟨w, e2, r2⟩ := r.atI e
      exact .inr (.inr (.inl ⟨_, _, _, w, rfl, rfl, t.sq, e2, h.val R r2⟩))
    · exact h.elim
  · split at h
    · rename_i d e
      cases ry
      cases rx with
      | wl t r =>
      obtain ⟨w, e2, r2⟩ := r.atI e
      exact .inr (.inl ⟨_, _, _, w, rfl, rfl, t.sq, e2, h.val R r2⟩)
    · exact h.elim
  · split at h
    · rename_i q
      split at h
      · split at h
        · rename_i d e
          obtain ⟨vs, h1, r⟩ := R.lst q
          obtain ⟨w, e2, r2⟩ := r.atI e
          cases rx; cases ry
          exact .inr (.inl ⟨_, _, _, w, rfl, rfl, SqL.of h1, e2, h.val R r2⟩)
        · exact h.elim
      · exact h.elim
    · rename_i q
      split at h
      · split at h
        · rename_i d e
          obtain ⟨o, vs, h1, r⟩ := R.ob _ _ q
          obtain ⟨w, e2, r2⟩ := r.atI e
          cases rx; cases ry
          exact .inr (.inl ⟨_, _, _, w, rfl, rfl, .inl (.inr ⟨o, h1⟩), e2, h.val R r2⟩)
        · exact h.elim
      · exact h.elim
    · split at h
      · rename_i d e
        obtain ⟨a, w, e1, g, m⟩ := dGet_V R rx ry e
        obtain ⟨z, e3, r3⟩ := m
        subst e3
        exact .inr (.inr (.inr ⟨a, z, e1, g, h.val R r3⟩))
      · exact h.elim
    · split at h
      · rename_i d e
        obtain ⟨a, w, e1, g, m⟩ := dGet_V R rx ry e
        obtain ⟨z, e3, r3⟩ := m
        subst e3
        exact .inr (.inr (.inr ⟨a, z, e1, g, h.val R r3⟩))
      · exact h.elim
    · exact h.elim
  · exact h.elim
end
/-! ### slices -/
abbrev MO := Ls → Hs → R (Option Int)
def oNo : MO := fun _ S => .ok none S
def oSome (f : M) : MO := fun l S => (f l S).bind fun d S1 => match d with
  | .int i => .ok (some i) S1
  | _ => .bad
def cutD (xs : List D) (lo hi : Option Int) : List D := (xs.drop (HT.sIx xs.length 0 lo)).take (HT.sIx xs.length xs.length hi - HT.sIx xs.length 0 lo)
def oSl (x : D) (lo hi : Option Int) (S : Hs) : R D := match x with
  | .str z => if z.length ≤ sizeLine then .ok (.str (cutS z lo hi)) S else .bad
  | .tup xs => .ok (.tup (cutD xs lo hi)) S
  | .ref i => match S[i]? with
    | some (.lst xs) => .ok (.ref S.length) (S ++ [.lst (cutD xs lo hi)])
    | some (.rol xs) => .ok (.ref S.length) (S ++ [.lst (cutD xs lo hi)])
    | _ => .bad
  | _ => .bad
def mSl (f : M) (lo hi : MO) : M := fun l S => (f l S).bind fun x S1 => (lo l S1).bind fun a S2 => (hi l S2).bind fun b S3 => oSl x a b S3
def TO' (K : PySem.W.Frag) (E : St → XK) (f : MO) : TO := fun s H Q => ∃ p l S, Real K p S H ∧ Sl K p S.length H l s ∧ Post K E S.length p H (f l S) (fun d _ _ H => Q d H)
structure OM (X : Cx) (E : St → XK) (e : Option Expr) (f : MO) : Prop where po : PO X e (TO' X.K E f)
section
variable {X : Cx} {E : St → XK} {e a b : Expr} {f g : M} {pos p2 : Pos} {lo hi : Option Expr} {fl fh : MO}
theorem _root_.L2.PO.weak {X : Cx} {e : Option Expr} {t t' : TO} (h : PO X e t) (w : ∀ s H Q, t' s H Q → t s H Q) : PO X e t' := ⟨fun pins s σ H Q I q => h.run pins s σ H Q I (w σ H Q q)⟩
theorem o_no : OM X E none oNo := ⟨po_none.weak fun s H Q ⟨p, l, S, R, L, h⟩ => Post.ok (Q := fun d _ _ H => Q d H) h Ext.refl R⟩
theorem o_some (ha : EM X E a f) : OM X E (some a) (oSome f) := ⟨(po_some ha.pe).weak fun s H Q ⟨p, l, S, R, L, h⟩ => T.of R L h fun p1 S1 H1 d v R1 x1 L1 r1 h1 => by
  split at h1
  · cases r1; exact ⟨_, rfl, Post.ok (Q := fun d _ _ H => Q d H) h1 Ext.refl R1⟩
  · exact h1.elim⟩
theorem OM.of {K : PySem.W.Frag} {s : St} {H : Hp} {β : Type} {QQ : β → Hs → (Nat → Addr) → Hp → Prop} {f : MO} {k : Option Int → Hs → R β} {p : Nat → Addr} {l : Ls} {S : Hs} {Q' : Option Int → Hp → Prop} (R : Real K p S H) (L : Sl K p S.length H l s) (h : Post K E S.length p H ((f l S).bind k) QQ)
    (st : ∀ p1 S1 H1 b, Real K p1 S1 H1 → Ext S.length S1.length p p1 H H1 → Sl K p1 S1.length H1 l s → Post K E S1.length p1 H1 (k b S1) QQ → Q' b H1) : TO' K E f s H Q' :=
  ⟨p, l, S, R, L, h.bind.mono fun a S1 p1 H1 _ x R1 q => st p1 S1 H1 a R1 x (L.ext x) q⟩
theorem Reps.cut {K : PySem.W.Frag} {pi : Nat → Addr} {n : Nat} {H : Hp} {ds : List D} {vs : List V} (h : Reps K pi n H ds vs) (a b : Option Int) : Reps K pi n H (cutD ds a b) (cutV vs a b) := by
  unfold cutD cutV
  rw [← h.len]
  exact (h.drop _).take _
theorem cut_whole {vs : List V} {a b : Option Int} (h : HT.sIx vs.length 0 a = 0 ∧ HT.sIx vs.length vs.length b = vs.length) : cutV vs a b = vs := by
  unfold cutV
  rw [h.1, h.2, List.drop_zero, Nat.sub_zero, List.take_length]
theorem e_slice (ha : EM X E a f) (hl : OM X E lo fl) (hu : OM X E hi fh) : EM X E (.Subscript a (.Slice lo hi none p2) pos) (mSl f fl fh) :=
  ⟨(pe_slice (SlR.or sl_str (SlR.or sl_list sl_tupA)) ha.pe hl.po hu.po).weak fun s H Q ⟨p, l, S, R, L, h⟩ => T.of R L h fun p1 S1 H1 d v R1 x1 L1 r1 h1 => OM.of R1 L1 h1 fun p2 S2 H2 ba R2 x2 L2 h2 => OM.of R2 L2 h2 fun p3 S3 H3 bb R3 x3 L3 h3 => by
    have r3 := r1.ext (x2.trans x3) _ _
    unfold oSl at h3
    split at h3
    · split at h3
      · rename_i hl; cases r3; exact .inl ⟨_, rfl, hl, h3.val R3 (.str _)⟩
      · exact h3.elim
    · cases r3 with
      | @tup q _ vs t r =>
      refine .inr (.inr ⟨q, vs, rfl, SqT.of t, fun w => ?_, fun _ z hz => h3.valT R3 (r.cut ba bb) hz⟩)
      have := r.cut ba bb
      rw [cut_whole w] at this
      exact h3.val R3 (.tup t this)
    · split at h3
      · rename_i q
        obtain ⟨vs, e1, r⟩ := R3.lst q
        cases r3
        exact .inr (.inl ⟨_, vs, rfl, SqL.of e1, fun z hz => h3.newL R3 (r.cut ba bb) hz⟩)
      · rename_i q
        obtain ⟨o, vs, e1, r⟩ := R3.ob _ _ q
        cases r3
        exact .inr (.inl ⟨_, vs, rfl, .inl (.inr ⟨o, e1⟩), fun z hz => h3.newL R3 (r.cut ba bb) hz⟩)
      · exact h3.elim
    · exact h3.elim⟩
theorem e_ix (hu : X.A.units + 1 < cLine) (ha : EM X E a f) (hb : EM X E b g) (hs : PlainIx b := by intro _ _; rfl) : EM X E (.Subscript a b pos) (mBin oIx f g) :=
  ⟨(pe_ix (ix_all hu) ha.pe hb.pe hs).weak fun s H Q ⟨p, l, S, R, L, h⟩ => T.of R L h fun p1 S1 H1 d v R1 x1 L1 r1 h1 => T.of R1 L1 h1 fun p2 S2 H2 d2 v2 R2 x2 L2 r2 h2 => ok_ix p2 S2 H2 _ _ _ _ Q R2 (r1.ext x2 _ _) r2 h2⟩
/-! ### displays -/
def mTup (f : ML) : M := fun l S => (f l S).bind fun ds S1 => if ds.length ≤ sizeLine then .ok (.tup ds) S1 else .bad
def mLst (f : ML) : M := fun l S => (f l S).bind fun ds S1 => if ds.length ≤ sizeLine then .ok (.ref S1.length) (S1 ++ [.lst ds]) else .bad
theorem e_tup {es : List Expr} {fl : ML} {x1 : Nat} (h : LM X E es fl) : EM X E (.Tuple es x1 pos) (mTup fl) :=
  ⟨(pe_tup h.pa).weak fun s H Q ⟨p, l, S, R, L, h⟩ => TL.of R L h fun p1 S1 H1 d v R1 x1 L1 r1 h1 => by
    split at h1
    · rename_i hl; exact ⟨by rw [← r1.len]; exact hl, fun q hq => h1.valT R1 r1 hq⟩
    · exact h1.elim⟩
theorem e_lst {es : List Expr} {fl : ML} (h : LM X E es fl) : EM X E (.List es pos) (mLst fl) :=
  ⟨(pe_lst h.pa).weak fun s H Q ⟨p, l, S, R, L, h⟩ => TL.of R L h fun p1 S1 H1 d v R1 x1 L1 r1 h1 => by
    split at h1
    · rename_i hl; exact ⟨by rw [← r1.len]; exact hl, fun q hq => h1.newL R1 r1 hq⟩
    · exact h1.elim⟩
def mDicK : M := fun _ S => .ok (.ref S.length) (S ++ [.dic []])
def mDicT : M := fun _ S => .ok (.ref S.length) (S ++ [.dit []])
theorem e_dicK : EM X E (.Dict [] [] pos) mDicK := ⟨pe_dnewK.weak fun s H Q ⟨p, l, S, R, L, h⟩ q hq => Post.new h R hq ⟨[], upd_same, rfl, .nil⟩⟩
theorem e_dicT : EM X E (.Dict [] [] pos) mDicT := ⟨pe_dnewT.weak fun s H Q ⟨p, l, S, R, L, h⟩ q hq => Post.new h R hq ⟨[], upd_same, rfl, .nil⟩⟩
end
end Ly
set_option Elab.async false
set_option linter.all false
set_option maxRecDepth 100000
namespace Ly
open PySem PySem.Spec L2
open PyProof.Rows hiding St
/-! ### calls of what is built in -/
def mCall (op : List D → Hs → R D) (f : ML) : M := fun l S => (f l S).bind op
def CallOk (K : PySem.W.Frag) (E : St → XK) (r : List V → Hp → VK → Prop) (op : List D → Hs → R D) : Prop :=
  ∀ p S H ds vs Q, Real K p S H → Reps K p S.length H ds vs → Post K E S.length p H (op ds S) (QD K Q) → r vs H Q
abbrev orC (r r' : List V → Hp → VK → Prop) : List V → Hp → VK → Prop := fun xs H Q => r xs H Q ∨ r' xs H Q
section
variable {X : Cx} {E : St → XK} {e : Expr} {es : List Expr} {f : ML} {x : Str} {p pos : Pos} {id T : String} {r : List V → Hp → VK → Prop} {op : List D → Hs → R D}
theorem e_callB (hc : CallR X (.builtin id) r) (hk : CallOk X.K E r op) (hg : Gl X x) (hm : X.mg x = none) (hv : bootBuiltins x = some (.builtin id)) (ha : LM X E (e :: es) f) (hn : x ≠ "__name__" := by decide) (hdb : (x == ("__debug__" : Str)) = false := by decide)
    (he : starEach (e :: es) X.env = (false, eval e X.env) :: starEach es X.env := by rfl) (hpl : (backTo pos (starEach es X.env)).any (·.1) = false := by rfl) : EM X E (.Call (.Name x p) (e :: es) [] pos) (mCall op f) :=
  ⟨(pe_callB hc hg hm hv ha.pa hn hdb he hpl).weak fun s H Q ⟨p, l, S, R, L, h⟩ => TL.of R L h fun p1 S1 H1 d v R1 x1 L1 r1 h1 => hk p1 S1 H1 _ _ Q R1 r1 h1⟩
theorem e_callT (hc : CallR X (.type T) r) (hk : CallOk X.K E r op) (hg : Gl X x) (hm : X.mg x = none) (hv : bootBuiltins x = some (.type T)) (ha : LM X E (e :: es) f) (hn : x ≠ "__name__" := by decide) (hdb : (x == ("__debug__" : Str)) = false := by decide)
    (he : starEach (e :: es) X.env = (false, eval e X.env) :: starEach es X.env := by rfl) (hpl : (backTo pos (starEach es X.env)).any (·.1) = false := by rfl) : EM X E (.Call (.Name x p) (e :: es) [] pos) (mCall op f) :=
  ⟨(pe_callTy hc hg hm hv ha.pa hn hdb he hpl).weak fun s H Q ⟨p, l, S, R, L, h⟩ => TL.of R L h fun p1 S1 H1 d v R1 x1 L1 r1 h1 => hk p1 S1 H1 _ _ Q R1 r1 h1⟩
end
def lenD (x : D) (S : Hs) : Option Nat := match x with
  | .str y => if y.length ≤ sizeLine then some y.length else none
  | .tup xs => some xs.length
  | .wt xs => some xs.length
  | .wl xs => some xs.length
  | .ref i => match S[i]? with
    | some (.lst xs) => some xs.length
    | some (.rol xs) => some xs.length
    | some (.dic xs) => some xs.length
    | _ => none
  | _ => none
def bLen : List D → Hs → R D
  | [x], S => match lenD x S with
    | some n => .ok (.int (n : Int)) S
    | none => .bad
  | _, _ => .bad
def bInt : List D → Hs → R D
  | [.int i], S => .ok (.int i) S
  | [.bl b], S => .ok (.int (b2i b)) S
  | [.str x], S => match intText? x with
    | some n => if x.length ≤ 640 then .ok (.int n) S else .bad
    | none => .bad
  | _, _ => .bad
def bStr : List D → Hs → R D
  | [.int i], S => if i.natAbs.log2 < 1920 then .ok (.str (Str.ofString (toString i))) S else .bad
  | [.str x], S => .ok (.str x) S
  | _, _ => .bad
def bAbs : List D → Hs → R D
  | [.int i], S => .ok (.int (if i < 0 then -i else i)) S
  | _, _ => .bad
def intsD : List D → Option (List Int)
  | [] => some []
  | .int i :: r => (intsD r).map (i :: ·)
  | _ => none
def strsD : List D → Option (List Str)
  | [] => some []
  | .str i :: r => (strsD r).map (i :: ·)
  | _ => none
def seqD (x : D) (S : Hs) : Option (List D) := match x with
  | .ref i => match S[i]? with
    | some (.lst xs) => some xs
    | some (.rol xs) => some xs
    | _ => none
  | .wl xs => some xs
  | _ => none
def leastI : Int → List Int → Int
  | m, [] => m
  | m, x :: r => leastI (if x < m then x else m) r
def mostI : Int → List Int → Int
  | m, [] => m
  | m, x :: r => mostI (if m < x then x else m) r
def bMin : List D → Hs → R D
  | [.int i, .int j], S => .ok (.int (if j < i then j else i)) S
  | [x], S => match (seqD x S).bind intsD with
    | some (n :: r) => .ok (.int (leastI n r)) S
    | _ => .bad
  | _, _ => .bad
def bMax : List D → Hs → R D
  | [.int i, .int j], S => .ok (.int (if j > i then j else i)) S
  | [x], S => match (seqD x S).bind intsD with
    | some (n :: r) => .ok (.int (mostI n r)) S
    | _ => .bad
  | _, _ => .bad
def bSum : List D → Hs → R D
  | [x], S => match (seqD x S).bind intsD with
    | some ns => .ok (.int ns.sum) S
    | _ => .bad
  | _, _ => .bad
def bTuple : List D → Hs → R D
  | [.tup xs], S => .ok (.tup xs) S
  | [.wt xs], S => .ok (.wt xs) S
  | [.ref i], S => match seqD (.ref i) S with
    | some xs => .ok (.tup xs) S
    | none => .bad
  | _, _ => .bad
def keyD : Key → D
  | .inl i => .int i
  | .inr x => .str x
def bList : List D → Hs → R D
  | [.tup xs], S => .ok (.ref S.length) (S ++ [.lst xs])
  | [.wt xs], S => .ok (.ref S.length) (S ++ [.lst xs])
  | [.ref i], S => match S[i]? with
    | some (.lst xs) => .ok (.ref S.length) (S ++ [.lst xs])
    | some (.rol xs) => .ok (.ref S.length) (S ++ [.lst xs])
    | some (.dic kvs) => .ok (.ref S.length) (S ++ [.lst (kvs.map fun kv => keyD kv.1)])
    | _ => .bad
  | _, _ => .bad
def bDict : List D → Hs → R D
  | [.ref i], S => match S[i]? with
    | some (.dic kvs) => .ok (.ref S.length) (S ++ [.dic kvs])
    | _ => .bad
  | _, _ => .bad
section
variable {K : PySem.W.Frag} {E : St → XK} {X : Cx}
abbrev rLenAll (K : PySem.W.Frag) : List V → Hp → VK → Prop := orC (fun xs H Q => ∃ x n, xs = [x] ∧ LenV K x H n ∧ Q (V.int ((n : Nat) : Int)) H) (fun xs H Q => ∃ a kvs, xs = [V.ref a] ∧ H a = some (.dK kvs) ∧ Q (V.int ((kvs.length : Nat) : Int)) H)
theorem cr_lenA : CallR X (.builtin "len") (rLenAll X.K) := CallR.or call_len call_lenD
theorem ok_len : CallOk K E (rLenAll K) bLen := by
  intro p S H ds vs Q R r h
  unfold bLen at h
  split at h
  · cases r with
    | cons r0 rs =>
    cases rs
    split at h
    · rename_i n e
      have hq : Q (V.int ((n : Nat) : Int)) H := h.val R (.int _)
      unfold lenD at e
      split at e
      · split at e
        · cases e; cases r0; exact .inl ⟨_, _, rfl, ⟨by assumption, rfl⟩, hq⟩
        · cases e
      · cases e
        cases r0 with
        | tup t r => exact .inl ⟨_, _, rfl, .inr ⟨_, SqT.of t, r.len⟩, hq⟩
      · cases e
        cases r0 with
        | wt t r => exact .inl ⟨_, _, rfl, .inr ⟨_, t.sq, r.len⟩, hq⟩
      · cases e
        cases r0 with
        | wl t r => exact .inl ⟨_, _, rfl, .inl ⟨_, t.sq, r.len⟩, hq⟩
      · split at e
        · rename_i q
          obtain ⟨vs, h1, r⟩ := R.lst q
          cases e; cases r0; exact .inl ⟨_, _, rfl, .inl ⟨_, SqL.of h1, r.len⟩, hq⟩
        · rename_i q
          obtain ⟨o, vs, h1, r⟩ := R.ob _ _ q
          cases e; cases r0; exact .inl ⟨_, _, rfl, .inl ⟨_, .inl (.inr ⟨o, h1⟩), r.len⟩, hq⟩
        · rename_i zs q
          obtain ⟨ks, h1, h2, h3⟩ := R.ob _ _ q
          cases e; cases r0
          have hl : ks.length = zs.length := by simpa using congrArg List.length h2
          exact .inr ⟨_, _, rfl, h1, by rw [hl]; exact hq⟩
        · cases e
      · cases e
    · exact h.elim
  · exact h.elim
abbrev rIntAll : List V → Hp → VK → Prop := orC (fun xs H Q => (∃ i, xs = [.int i] ∧ Q (.int i) H) ∨ ∃ k, xs = [.bl k] ∧ Q (.int (b2i k)) H) (fun xs H Q => ∃ a n, xs = [V.str a] ∧ intText? a = some n ∧ a.length ≤ 640 ∧ Q (V.int n) H)
theorem cr_intA : CallR X (.type "int") rIntAll := CallR.or call_int1 call_int_str
theorem ok_int : CallOk K E rIntAll bInt := by
  intro p S H ds vs Q R r h
  unfold bInt at h
  split at h
  · cases r with
    | cons r0 rs => cases rs; cases r0; exact .inl (.inl ⟨_, rfl, h.val R (.int _)⟩)
  · cases r with
    | cons r0 rs => cases rs; cases r0; exact .inl (.inr ⟨_, rfl, h.val R (.int _)⟩)
  · cases r with
    | cons r0 rs =>
    cases rs; cases r0
    split at h
    · rename_i n e
      split at h
      · rename_i hl; exact .inr ⟨_, _, rfl, e, hl, h.val R (.int _)⟩
      · exact h.elim
    · exact h.elim
  · exact h.elim
abbrev rStrAll : List V → Hp → VK → Prop := orC (fun xs H Q => ∃ i, xs = [V.int i] ∧ i.natAbs.log2 < 1920 ∧ Q (V.str (Str.ofString (toString i))) H) (fun xs H Q => ∃ a, xs = [.str a] ∧ Q (.str a) H)
theorem cr_strA : CallR X (.type "str") rStrAll := CallR.or call_str_int SkE.call_str_str
theorem ok_str : CallOk K E rStrAll bStr := by
  intro p S H ds vs Q R r h
  unfold bStr at h
  split at h
  · split at h
    · rename_i hl
      cases r with
      | cons r0 rs => cases rs; cases r0; exact .inl ⟨_, rfl, hl, h.val R (.str _)⟩
    · exact h.elim
  · cases r with
    | cons r0 rs => cases rs; cases r0; exact .inr ⟨_, rfl, h.val R (.str _)⟩
  · exact h.elim
theorem ok_abs : CallOk K E (fun xs H Q => ∃ i, xs = [.int i] ∧ Q (.int (if i < 0 then -i else i)) H) bAbs := by
  intro p S H ds vs Q R r h
  unfold bAbs at h
  split at h
  · cases r with
    | cons r0 rs => cases rs; cases r0; exact ⟨_, rfl, h.val R (.int _)⟩
  · exact h.elim
theorem ints_V {pi : Nat → Addr} {n : Nat} {H : Hp} {ds : List D} {vs : List V} {ns : List Int} (r : Reps K pi n H ds vs) (h : intsD ds = some ns) : vs = ns.map V.int := by
  induction ds generalizing vs ns with
  | nil => cases r; simp [intsD] at h; subst h; rfl
  | cons d ds ih =>
    cases r with
    | cons r s =>
      cases r <;> simp [intsD] at h
      obtain ⟨ms, h1, rfl⟩ := h
      rw [ih s h1]; rfl
theorem strs_V {pi : Nat → Addr} {n : Nat} {H : Hp} {ds : List D} {vs : List V} {ns : List Str} (r : Reps K pi n H ds vs) (h : strsD ds = some ns) : vs = ns.map V.str := by
  induction ds generalizing vs ns with
  | nil => cases r; simp [strsD] at h; subst h; rfl
  | cons d ds ih =>
    cases r with
    | cons r s =>
      cases r <;> simp [strsD] at h
      obtain ⟨ms, h1, rfl⟩ := h
      rw [ih s h1]; rfl
theorem seq_V {p : Nat → Addr} {S : Hs} {H : Hp} {x : D} {v : V} {ds : List D} (R : Real K p S H) (r : Rep K p S.length H x v) (h : seqD x S = some ds) : ∃ a vs, v = .ref a ∧ SqL K H a vs ∧ Reps K p S.length H ds vs := by
  unfold seqD at h
  split at h
  · split at h
    · rename_i q
      cases h; cases r
      obtain ⟨vs, h1, r⟩ := R.lst q
      exact ⟨_, vs, rfl, SqL.of h1, r⟩
    · rename_i q
      cases h; cases r
      obtain ⟨o, vs, h1, r⟩ := R.ob _ _ q
      exact ⟨_, vs, rfl, .inl (.inr ⟨o, h1⟩), r⟩
    · cases h
  · cases h
    cases r with
    | wl t r => exact ⟨_, _, rfl, t.sq, r⟩
  · cases h
theorem leastI_le (r : List Int) : ∀ m, leastI m r ≤ m ∧ (∀ y ∈ r, leastI m r ≤ y) ∧ (leastI m r = m ∨ leastI m r ∈ r) := by
  induction r with
  | nil => intro m; exact ⟨Int.le_refl _, by simp, .inl rfl⟩
  | cons x r ih =>
    intro m
    obtain ⟨h1, h2, h3⟩ := ih (if x < m then x else m)
    simp only [leastI]
    refine ⟨?_, fun y hy => ?_, ?_⟩
    · split at h1 <;> split <;> omega
    · rcases List.mem_cons.mp hy with rfl | hy
      · split at h1 <;> split <;> omega
      · exact h2 y hy
    · rcases h3 with h3 | h3
      · rw [h3]; split
        · exact .inr (List.mem_cons_self ..)
        · exact .inl rfl
      · exact .inr (List.mem_cons_of_mem _ h3)
theorem mostI_le (r : List Int) : ∀ m, m ≤ mostI m r ∧ (∀ y ∈ r, y ≤ mostI m r) ∧ (mostI m r = m ∨ mostI m r ∈ r) := by
  induction r with
  | nil => intro m; exact ⟨Int.le_refl _, by simp, .inl rfl⟩
  | cons x r ih =>
    intro m
    obtain ⟨h1, h2, h3⟩ := ih (if m < x then x else m)
    simp only [mostI]
    refine ⟨?_, fun y hy => ?_, ?_⟩
    · split at h1 <;> split <;> omega
    · rcases List.mem_cons.mp hy with rfl | hy
      · split at h1 <;> split <;> omega
      · exact h2 y hy
    · rcases h3 with h3 | h3
      · rw [h3]; split
        · exact .inr (List.mem_cons_self ..)
        · exact .inl rfl
      · exact .inr (List.mem_cons_of_mem _ h3)
abbrev rMin2 : List V → Hp → VK → Prop := fun xs H Q => ∃ i j, xs = [V.int i, V.int j] ∧ Q (V.int (if j < i then j else i)) H
abbrev rMax2 : List V → Hp → VK → Prop := fun xs H Q => ∃ i j, xs = [V.int i, V.int j] ∧ Q (V.int (if j > i then j else i)) H
theorem cr_minA (hc : X.calm = true) : CallR X (.builtin "min") (orC rMin2 (rMin X.K)) := CallR.or (call_min2 hc) (cr_min hc)
theorem cr_maxA (hc : X.calm = true) : CallR X (.builtin "max") (orC rMax2 (rMax X.K)) := CallR.or (call_max2 hc) (cr_max hc)
theorem ok_min : CallOk K E (orC rMin2 (rMin K)) bMin := by
  intro p S H ds vs Q R r h
  unfold bMin at h
  split at h
  · cases r with
    | cons r0 rs => cases rs with | cons r1 rs => cases rs; cases r0; cases r1; exact .inl ⟨_, _, rfl, h.val R (.int _)⟩
  · split at h
    · rename_i n t e
      rw [Option.bind_eq_some_iff] at e
      obtain ⟨ds, e1, e2⟩ := e
      cases r with
      | cons r0 rs =>
      cases rs
      obtain ⟨a, vs, rfl, hs, r⟩ := seq_V R r0 e1
      rw [ints_V r e2] at hs
      have hq : Q _ H := h.val R (.int _)
      refine .inr ⟨a, _, rfl, hs, by simp, fun m hm hle => ?_⟩
      obtain ⟨h1, h2, h3⟩ := leastI_le t n
      have : m = leastI n t := by
        have a1 : leastI n t ≤ m := by
          rcases List.mem_cons.mp hm with rfl | hm
          · exact h1
          · exact h2 m hm
        have a2 : m ≤ leastI n t := hle _ (h3.elim (fun e => by rw [e]; exact List.mem_cons_self ..) (List.mem_cons_of_mem _))
        omega
      rw [this]; exact hq
    · exact h.elim
  · exact h.elim
theorem ok_max : CallOk K E (orC rMax2 (rMax K)) bMax := by
  intro p S H ds vs Q R r h
  unfold bMax at h
  split at h
  · cases r with
    | cons r0 rs => cases rs with | cons r1 rs => cases rs; cases r0; cases r1; exact .inl ⟨_, _, rfl, h.val R (.int _)⟩
  · split at h
    · rename_i n t e
      rw [Option.bind_eq_some_iff] at e
      obtain ⟨ds, e1, e2⟩ := e
      cases r with
      | cons r0 rs =>
      cases rs
      obtain ⟨a, vs, rfl, hs, r⟩ := seq_V R r0 e1
      rw [ints_V r e2] at hs
      have hq : Q _ H := h.val R (.int _)
      refine .inr ⟨a, _, rfl, hs, by simp, fun m hm hle => ?_⟩
      obtain ⟨h1, h2, h3⟩ := mostI_le t n
      have : m = mostI n t := by
        have a1 : m ≤ mostI n t := by
          rcases List.mem_cons.mp hm with rfl | hm
          · exact h1
          · exact h2 m hm
        have a2 : mostI n t ≤ m := hle _ (h3.elim (fun e => by rw [e]; exact List.mem_cons_self ..) (List.mem_cons_of_mem _))
        omega
      rw [this]; exact hq
    · exact h.elim
  · exact h.elim
theorem ok_sum : CallOk K E (rSum K) bSum := by
  intro p S H ds vs Q R r h
  unfold bSum at h
  split at h
  · split at h
    · rename_i ns e
      rw [Option.bind_eq_some_iff] at e
      obtain ⟨ds, e1, e2⟩ := e
      cases r with
      | cons r0 rs =>
      cases rs
      obtain ⟨a, vs, rfl, hs, r⟩ := seq_V R r0 e1
      rw [ints_V r e2] at hs
      exact ⟨a, ns, rfl, hs, h.val R (.int _)⟩
    · exact h.elim
  · exact h.elim
abbrev rTupleOf (K : PySem.W.Frag) : List V → Hp → VK → Prop := fun xs H Q => ∃ p ys, xs = [V.ref p] ∧ ((SqL K H p ys ∧ ∀ l, H l = none → Q (V.ref l) (upd H l (.tup ys))) ∨ SqT K H p ys ∧ Q (V.ref p) H)
theorem ok_tuple : CallOk K E (rTupleOf K) bTuple := by
  intro p S H ds vs Q R r h
  unfold bTuple at h
  split at h
  · cases r with
    | cons r0 rs =>
    cases rs
    cases r0 with
    | tup t r => exact ⟨_, _, rfl, .inr ⟨SqT.of t, h.val R (.tup t r)⟩⟩
  · cases r with
    | cons r0 rs =>
    cases rs
    cases r0 with
    | wt t r => exact ⟨_, _, rfl, .inr ⟨t.sq, h.val R (.wt t r)⟩⟩
  · split at h
    · rename_i e
      cases r with
      | cons r0 rs =>
      cases rs
      obtain ⟨a, vs, rfl, hs, r⟩ := seq_V R r0 e
      exact ⟨a, vs, rfl, .inl ⟨hs, fun q hq => h.valT R r hq⟩⟩
    · exact h.elim
  · exact h.elim
abbrev rListOf (K : PySem.W.Frag) : List V → Hp → VK → Prop := fun xs H Q => ∃ p ys, xs = [V.ref p] ∧ (SqL K H p ys ∨ SqT K H p ys) ∧ ∀ l, H l = none → Q (V.ref l) (upd H l (.lst ys))
abbrev rListD : List V → Hp → VK → Prop := fun xs H Q => ∃ (a : Addr) (kvs : List (Key × V)), xs = [.ref a] ∧ Rd H a (.dK kvs) ∧ ∀ p, H p = none → Q (.ref p) (upd H p (.lst (kvs.map fun kv => kV kv.1)))
theorem cr_listA (hc : X.calm = true) : CallR X (.type "list") (orC (rListOf X.K) rListD) := CallR.or call_list_of (call_listD hc)
theorem keyD_V {pi : Nat → Addr} {n : Nat} {H : Hp} (k : Key) : Rep K pi n H (keyD k) (kV k) := by cases k <;> constructor
theorem keysD_V {pi : Nat → Addr} {n : Nat} {H : Hp} {kvs : List (Key × D)} {ks : List (Key × V)} (h : ks.map (·.1) = kvs.map (·.1)) : Reps K pi n H (kvs.map fun kv => keyD kv.1) (ks.map fun kv => kV kv.1) := by
  induction kvs generalizing ks with
  | nil => cases ks with | nil => exact .nil | cons a b => cases h
  | cons a kvs ih =>
    cases ks with
    | nil => cases h
    | cons b ks =>
      simp only [List.map_cons, List.cons.injEq] at h
      simp only [List.map_cons]
      exact .cons (by rw [h.1]; exact keyD_V _) (ih h.2)
theorem ok_list : CallOk K E (orC (rListOf K) rListD) bList := by
  intro p S H ds vs Q R r h
  unfold bList at h
  split at h
  · cases r with
    | cons r0 rs =>
    cases rs
    cases r0 with
    | tup t r => exact .inl ⟨_, _, rfl, .inr (SqT.of t), fun q hq => h.newL R r hq⟩
  · cases r with
    | cons r0 rs =>
    cases rs
    cases r0 with
    | wt t r => exact .inl ⟨_, _, rfl, .inr t.sq, fun q hq => h.newL R r hq⟩
  · cases r with
    | cons r0 rs =>
    cases rs
    split at h
    · rename_i q
      obtain ⟨vs, h1, r⟩ := R.lst q
      cases r0
      exact .inl ⟨_, _, rfl, .inl (SqL.of h1), fun q hq => h.newL R r hq⟩
    · rename_i q
      obtain ⟨o, vs, h1, r⟩ := R.ob _ _ q
      cases r0
      exact .inl ⟨_, _, rfl, .inl (.inl (.inr ⟨o, h1⟩)), fun q hq => h.newL R r hq⟩
    · rename_i q
      obtain ⟨ks, h1, h2, h3⟩ := R.ob _ _ q
      cases r0
      exact .inr ⟨_, _, rfl, .inl h1, fun q hq => h.newL R (keysD_V h2) hq⟩
    · exact h.elim
  · exact h.elim
abbrev rDictOf : List V → Hp → VK → Prop := fun xs H Q => ∃ (a : Addr) (kvs : List (Key × V)), xs = [.ref a] ∧ Rd H a (.dK kvs) ∧ ∀ p, H p = none → Q (.ref p) (upd H p (.dK kvs))
theorem ok_dict : CallOk K E rDictOf bDict := by
  intro p S H ds vs Q R r h
  unfold bDict at h
  split at h
  · cases r with
    | cons r0 rs =>
    cases rs
    split at h
    · rename_i q
      obtain ⟨ks, h1, h2, h3⟩ := R.ob _ _ q
      cases r0
      exact ⟨_, _, rfl, .inl h1, fun q hq => h.new R hq ⟨ks, upd_same, h2, h3.ext (ext_new hq) _ _⟩⟩
    · exact h.elim
  · exact h.elim
end
/-! the shorthands -/
section
variable {X : Cx} {E : St → XK} {e : Expr} {f : ML} {p pos : Pos} {es : List Expr}
theorem c_len (hm : X.mg "len" = none) (ha : LM X E [e] f) (hg : Gl X "len" := by rfl) (he : starEach [e] X.env = (false, eval e X.env) :: starEach [] X.env := by rfl) : EM X E (.Call (.Name "len" p) [e] [] pos) (mCall bLen f) := e_callB cr_lenA ok_len hg hm (by decide +kernel) ha (by decide) (by decide) he (by rfl)
theorem c_int (hm : X.mg "int" = none) (ha : LM X E [e] f) (hg : Gl X "int" := by rfl) (he : starEach [e] X.env = (false, eval e X.env) :: starEach [] X.env := by rfl) : EM X E (.Call (.Name "int" p) [e] [] pos) (mCall bInt f) := e_callT cr_intA ok_int hg hm (by decide +kernel) ha (by decide) (by decide) he (by rfl)
theorem c_str (hm : X.mg "str" = none) (ha : LM X E [e] f) (hg : Gl X "str" := by rfl) (he : starEach [e] X.env = (false, eval e X.env) :: starEach [] X.env := by rfl) : EM X E (.Call (.Name "str" p) [e] [] pos) (mCall bStr f) := e_callT cr_strA ok_str hg hm (by decide +kernel) ha (by decide) (by decide) he (by rfl)
theorem c_abs (hm : X.mg "abs" = none) (ha : LM X E [e] f) (hg : Gl X "abs" := by rfl) (he : starEach [e] X.env = (false, eval e X.env) :: starEach [] X.env := by rfl) : EM X E (.Call (.Name "abs" p) [e] [] pos) (mCall bAbs f) := e_callB call_abs ok_abs hg hm (by decide +kernel) ha (by decide) (by decide) he (by rfl)
theorem c_sum (hc : X.calm = true) (hm : X.mg "sum" = none) (ha : LM X E [e] f) (hg : Gl X "sum" := by rfl) (he : starEach [e] X.env = (false, eval e X.env) :: starEach [] X.env := by rfl) : EM X E (.Call (.Name "sum" p) [e] [] pos) (mCall bSum f) := e_callB (cr_sum hc) ok_sum hg hm (by decide +kernel) ha (by decide) (by decide) he (by rfl)
theorem c_tuple (hm : X.mg "tuple" = none) (ha : LM X E [e] f) (hg : Gl X "tuple" := by rfl) (he : starEach [e] X.env = (false, eval e X.env) :: starEach [] X.env := by rfl) : EM X E (.Call (.Name "tuple" p) [e] [] pos) (mCall bTuple f) := e_callT call_tuple_of ok_tuple hg hm (by decide +kernel) ha (by decide) (by decide) he (by rfl)
theorem c_list (hc : X.calm = true) (hm : X.mg "list" = none) (ha : LM X E [e] f) (hg : Gl X "list" := by rfl) (he : starEach [e] X.env = (false, eval e X.env) :: starEach [] X.env := by rfl) : EM X E (.Call (.Name "list" p) [e] [] pos) (mCall bList f) := e_callT (cr_listA hc) ok_list hg hm (by decide +kernel) ha (by decide) (by decide) he (by rfl)
theorem c_dict (hm : X.mg "dict" = none) (ha : LM X E [e] f) (hg : Gl X "dict" := by rfl) (he : starEach [e] X.env = (false, eval e X.env) :: starEach [] X.env := by rfl) : EM X E (.Call (.Name "dict" p) [e] [] pos) (mCall bDict f) := e_callT call_dictD ok_dict hg hm (by decide +kernel) ha (by decide) (by decide) he (by rfl)
theorem c_min (hc : X.calm = true) (hm : X.mg "min" = none) (ha : LM X E (e :: es) f) (hg : Gl X "min" := by rfl) (he : starEach (e :: es) X.env = (false, eval e X.env) :: starEach es X.env := by rfl) (hpl : (backTo pos (starEach es X.env)).any (·.1) = false := by rfl) : EM X E (.Call (.Name "min" p) (e :: es) [] pos) (mCall bMin f) := e_callB (cr_minA hc) ok_min hg hm (by decide +kernel) ha (by decide) (by decide) he hpl
theorem c_max (hc : X.calm = true) (hm : X.mg "max" = none) (ha : LM X E (e :: es) f) (hg : Gl X "max" := by rfl) (he : starEach (e :: es) X.env = (false, eval e X.env) :: starEach es X.env := by rfl) (hpl : (backTo pos (starEach es X.env)).any (·.1) = false := by rfl) : EM X E (.Call (.Name "max" p) (e :: es) [] pos) (mCall bMax f) := e_callB (cr_maxA hc) ok_max hg hm (by decide +kernel) ha (by decide) (by decide) he hpl
end
end Ly
set_option Elab.async false
set_option linter.all false
set_option maxRecDepth 100000
namespace Ly
open PySem PySem.Spec L2
open PyProof.Rows hiding St
/-! ### methods of what is built in -/
def hasTy (T : String) (x : D) (S : Hs) : Bool := match x with
  | .str _ => decide (T = "str")
  | .int _ => decide (T = "int")
  | .ref i => match S[i]? with
    | some (.lst _) => decide (T = "list")
    | some (.rol _) => decide (T = "list")
    | some (.dic _) => decide (T = "dict")
    | some (.dit _) => decide (T = "dict")
    | _ => false
  | _ => false
theorem hasTy_V {K : PySem.W.Frag} {T : String} {p : Nat → Addr} {S : Hs} {H : Hp} {x : D} {v : V} (R : Real K p S H) (r : Rep K p S.length H x v) (h : hasTy T x S = true) : tyV K T v H := by
  unfold hasTy at h
  cases r with
  | str x => exact of_decide_eq_true (p := T = "str") h
  | int x => exact of_decide_eq_true (p := T = "int") h
  | ref hi =>
    simp only at h
    split at h
    · rename_i q
      obtain ⟨vs, h1, r⟩ := R.lst q
      exact .inl ⟨of_decide_eq_true h, _, SqL.of h1⟩
    · rename_i q
      obtain ⟨o, vs, h1, r⟩ := R.ob _ _ q
      exact .inl ⟨of_decide_eq_true h, _, .inl (.inr ⟨o, h1⟩)⟩
    · rename_i q
      obtain ⟨ks, h1, _⟩ := R.ob _ _ q
      exact .inr (.inr (.inl ⟨of_decide_eq_true h, .inl ⟨_, h1⟩⟩))
    · rename_i q
      obtain ⟨ks, h1, _⟩ := R.ob _ _ q
      exact .inr (.inr (.inl ⟨of_decide_eq_true h, .inr ⟨_, h1⟩⟩))
    · cases h
  | _ => cases h
def mBM (Tn : String) (op : D → List D → Hs → R D) (f : M) (g : ML) : M := fun l S => (f l S).bind fun x S1 => if hasTy Tn x S1 = true then (g l S1).bind fun ds S2 => op x ds S2 else .bad
def MtOk (K : PySem.W.Frag) (E : St → XK) (r : V → List V → Hp → VK → Prop) (op : D → List D → Hs → R D) : Prop :=
  ∀ p S H x v ds vs Q, Real K p S H → Rep K p S.length H x v → Reps K p S.length H ds vs → Post K E S.length p H (op x ds S) (QD K Q) → r v vs H Q
section
variable {X : Cx} {E : St → XK} {o e : Expr} {es : List Expr} {f : M} {g : ML} {name : Str} {apos cpos : Pos} {Tn id : String} {r : V → List V → Hp → VK → Prop} {op : D → List D → Hs → R D}
theorem e_bm (pa : PlainAttrs Tn) (slot : Slot Tn name id) (hty : typeOf (.builtin id) = pure (.type "method_descriptor")) (hm : MtR X id r) (hk : MtOk X.K E r op) (ho : EM X E o f) (ha : LM X E (e :: es) g)
    (hbase : attributeBase o name X.env (eval o X.env) = eval o X.env := by rfl)
    (hfew : ((backTo cpos (starEach (e :: es) X.env)).all (fun x => !x.1) && (backToKw cpos (keywordEach [] X.env)).all (fun x => x.1.isSome)
      && decide ((e :: es).length + ([] : List Keyword).length + (if ([] : List Keyword).isEmpty then 0 else 1) < 30)) = true := by rfl)
    (hline : (apos.endLine == cpos.line) = true := by rfl) (hs : starEach (e :: es) X.env = (false, eval e X.env) :: starEach es X.env := by rfl) (hplain : (backTo cpos (starEach es X.env)).any (·.1) = false := by rfl) :
    EM X E (.Call (.Attribute o name apos) (e :: es) [] cpos) (mBM Tn op f g) :=
  ⟨(pe_bm pa slot hty hm ho.pe ha.pa hbase hfew hline hs hplain).weak fun s H Q ⟨p, l, S, R, L, h⟩ => T.of R L h fun p1 S1 H1 d v R1 x1 L1 r1 h1 => by
    split at h1
    · rename_i ht
      exact ⟨hasTy_V R1 r1 ht, TL.of R1 L1 h1 fun p2 S2 H2 d2 v2 R2 x2 L2 r2 h2 => hk p2 S2 H2 _ _ _ _ Q R2 (r1.ext x2 _ _) r2 h2⟩
    · exact h1.elim⟩
theorem e_bm0 (pa : PlainAttrs Tn) (slot : Slot Tn name id) (hty : typeOf (.builtin id) = pure (.type "method_descriptor")) (hm : MtR X id r) (hk : MtOk X.K E r op) (ho : EM X E o f)
    (hbase : attributeBase o name X.env (eval o X.env) = eval o X.env := by rfl) (hline : (apos.endLine == cpos.line) = true := by rfl) :
    EM X E (.Call (.Attribute o name apos) [] [] cpos) (mBM Tn op f lNil) :=
  ⟨(pe_bm0 pa slot hty hm ho.pe hbase hline).weak fun s H Q ⟨p, l, S, R, L, h⟩ => T.of R L h fun p1 S1 H1 d v R1 x1 L1 r1 h1 => by
    split at h1
    · rename_i ht
      exact ⟨hasTy_V R1 r1 ht, hk p1 S1 H1 _ _ _ _ Q R1 r1 .nil h1⟩
    · exact h1.elim⟩
end
def oAppend (x : D) (ds : List D) (S : Hs) : R D := match x, ds with
  | .ref i, [y] => match S[i]? with
    | some (.lst xs) => if xs.length < sizeLine then .ok .non (S.set i (.lst (xs ++ [y]))) else .bad
    | _ => .bad
  | _, _ => .bad
def oExtend (x : D) (ds : List D) (S : Hs) : R D := match x, ds with
  | .ref i, [.ref j] => match S[i]?, S[j]? with
    | some (.lst xs), some (.lst ys) => if xs.length + ys.length ≤ sizeLine then .ok .non (S.set i (.lst (xs ++ ys))) else .bad
    | _, _ => .bad
  | _, _ => .bad
def oPop (x : D) (ds : List D) (S : Hs) : R D := match x, ds with
  | .ref i, [] => match S[i]? with
    | some (.lst xs) => (match xs[xs.length - 1]? with
      | some y => .ok y (S.set i (.lst xs.dropLast))
      | none => .bad)
    | _ => .bad
  | _, _ => .bad
def oJoin (x : D) (ds : List D) (S : Hs) : R D := match x, ds with
  | .str a, [y] => match (match y with | .tup zs => some zs | .wt zs => some zs | y => seqD y S).bind strsD with
    | some ys => if (ys.map (·.length)).sum + ys.length * a.length ≤ 16777216 then .ok (.str (Txt.join a ys)) S else .bad
    | none => .bad
  | _, _ => .bad
def oFind (x : D) (ds : List D) (S : Hs) : R D := match x, ds with
  | .str a, [.str b] => .ok (.int (Txt.find a b)) S
  | .str a, [.str b, .int i] => .ok (.int (Txt.find3 a b i)) S
  | _, _ => .bad
def oRfind (x : D) (ds : List D) (S : Hs) : R D := match x, ds with
  | .str a, [.str b] => .ok (.int (Txt.rfind a b)) S
  | _, _ => .bad
def oCount (x : D) (ds : List D) (S : Hs) : R D := match x, ds with
  | .str a, [.str b] => .ok (.int (Txt.count a b)) S
  | _, _ => .bad
section
variable {K : PySem.W.Frag} {E : St → XK} {X : Cx}
theorem ok_append : MtOk K E rAppend oAppend := by
  intro p S H x v ds vs Q R rx r h
  unfold oAppend at h
  split at h
  · split at h
    · rename_i y _ xs q
      split at h
      · rename_i hl
        obtain ⟨us, h1, r1⟩ := R.lst q
        cases rx
        cases r with
        | cons r0 rs =>
        cases rs
        have hi := Real.lt q
        refine ⟨_, us, _, rfl, rfl, h1, by rw [← r1.len]; exact hl, h.put R hi ⟨_, upd_same, ?_⟩ .non⟩
        exact (r1.ext (ext_upd (R.notup hi)) _ _).append (.cons (r0.ext (ext_upd (R.notup hi)) _ _) .nil)
      · exact h.elim
    · exact h.elim
  · exact h.elim
theorem ok_extend : MtOk K E rExtend oExtend := by
  intro p S H x v ds vs Q R rx r h
  unfold oExtend at h
  split at h
  · split at h
    · rename_i xs ys q q'
      split at h
      · rename_i hl
        obtain ⟨us, h1, r1⟩ := R.lst q
        obtain ⟨ws, h2, r2⟩ := R.lst q'
        cases rx
        cases r with
        | cons r0 rs =>
        cases rs; cases r0
        have hi := Real.lt q
        refine ⟨_, _, us, ws, rfl, rfl, h1, h2, by rw [← r1.len, ← r2.len]; exact hl, h.put R hi ?_ .non⟩
        have x1 : Ext S.length S.length p p H (upd H _ (HO.lst (us ++ ws))) := ext_upd (R.notup hi)
        exact ⟨_, upd_same, (r1.ext x1 _ _).append (r2.ext x1 _ _)⟩
      · exact h.elim
    · exact h.elim
  · exact h.elim
theorem Reps.dropLast {pi : Nat → Addr} {n : Nat} {H : Hp} {ds : List D} {vs : List V} (r : Reps K pi n H ds vs) : Reps K pi n H ds.dropLast vs.dropLast := by
  rw [List.dropLast_eq_take, List.dropLast_eq_take, ← r.len]; exact r.take _
theorem ok_pop : MtOk K E rPop oPop := by
  intro p S H x v ds vs Q R rx r h
  unfold oPop at h
  split at h
  · split at h
    · rename_i xs q
      split at h
      · rename_i y e
        obtain ⟨us, h1, r1⟩ := R.lst q
        cases rx; cases r
        have hi := Real.lt q
        obtain ⟨w, e2, r2⟩ := r1.get e
        have x1 : Ext S.length S.length p p H (upd H _ (HO.lst us.dropLast)) := ext_upd (R.notup hi)
        refine ⟨_, us, w, rfl, rfl, h1, by rw [← r1.len]; exact e2, h.put R hi ⟨_, upd_same, (r1.dropLast).ext x1 _ _⟩ (r2.ext x1 _ _)⟩
      · exact h.elim
    · exact h.elim
  · exact h.elim
abbrev rJoinA (K : PySem.W.Frag) : V → List V → Hp → VK → Prop := fun x xs H Q => ∃ a p ys, x = V.str a ∧ xs = [V.ref p] ∧ (SqL K H p (List.map V.str ys) ∨ SqT K H p (List.map V.str ys)) ∧ (List.map (fun x => x.length) ys).sum + ys.length * a.length ≤ 16777216 ∧ Q (V.str (Txt.join a ys)) H
theorem ok_join : MtOk K E (rJoinA K) oJoin := by
  intro p S H x v ds vs Q R rx r h
  unfold oJoin at h
  split at h
  · split at h
    · rename_i y ys e
      split at h
      · rename_i hl
        rw [Option.bind_eq_some_iff] at e
        obtain ⟨zs, e1, e2⟩ := e
        cases rx
        cases r with
        | cons r0 rs =>
        cases rs
        have hq := h.val R (.str _)
        split at e1
        · cases e1
          cases r0 with
          | tup t r => exact ⟨_, _, ys, rfl, rfl, .inr (SqT.of (by rw [← strs_V r e2]; exact t)), hl, hq⟩
        · cases e1
          cases r0 with
          | wt t r => exact ⟨_, _, ys, rfl, rfl, .inr (by rw [← strs_V r e2]; exact t.sq), hl, hq⟩
        · obtain ⟨a, vs, rfl, hs, r⟩ := seq_V R r0 e1
          exact ⟨_, _, ys, rfl, rfl, .inl (by rw [← strs_V r e2]; exact hs), hl, hq⟩
      · exact h.elim
    · exact h.elim
  · exact h.elim
abbrev orM (r r' : V → List V → Hp → VK → Prop) : V → List V → Hp → VK → Prop := fun x xs H Q => r x xs H Q ∨ r' x xs H Q
abbrev rFindA : V → List V → Hp → VK → Prop := orM (fun x xs H Q => ∃ a b, x = V.str a ∧ xs = [V.str b] ∧ Q (V.int (Txt.find a b)) H) (fun x xs H Q => ∃ a b i, x = V.str a ∧ xs = [V.str b, V.int i] ∧ Q (V.int (Txt.find3 a b i)) H)
theorem mt_findA : MtR X "str.find" rFindA := MtR.or mt_find mt_find3
theorem ok_find : MtOk K E rFindA oFind := by
  intro p S H x v ds vs Q R rx r h
  unfold oFind at h
  split at h
  · cases rx
    cases r with
    | cons r0 rs => cases rs; cases r0; exact .inl ⟨_, _, rfl, rfl, h.val R (.int _)⟩
  · cases rx
    cases r with
    | cons r0 rs => cases rs with | cons r1 rs => cases rs; cases r0; cases r1; exact .inr ⟨_, _, _, rfl, rfl, h.val R (.int _)⟩
  · exact h.elim
theorem ok_rfind : MtOk K E (fun x xs H Q => ∃ a b, x = V.str a ∧ xs = [V.str b] ∧ Q (V.int (Txt.rfind a b)) H) oRfind := by
  intro p S H x v ds vs Q R rx r h
  unfold oRfind at h
  split at h
  · cases rx
    cases r with
    | cons r0 rs => cases rs; cases r0; exact ⟨_, _, rfl, rfl, h.val R (.int _)⟩
  · exact h.elim
theorem ok_count : MtOk K E (fun x xs H Q => ∃ a b, x = V.str a ∧ xs = [V.str b] ∧ Q (V.int (Txt.count a b)) H) oCount := by
  intro p S H x v ds vs Q R rx r h
  unfold oCount at h
  split at h
  · cases rx
    cases r with
    | cons r0 rs => cases rs; cases r0; exact ⟨_, _, rfl, rfl, h.val R (.int _)⟩
  · exact h.elim
end
/-! ### statements -/
def mSet (i : Nat) (f : M) : MS := fun l S => (f l S).bind fun d S1 => .ok (.nx (l.set i (some d))) S1
def mExpr (f : M) : MS := fun l S => (f l S).bind fun _ S1 => .ok (.nx l) S1
def mRet (f : M) : MS := fun l S => (f l S).bind fun d S1 => .ok (.rt d) S1
def mRetN : MS := fun _ S => .ok (.rt .non) S
def mPass : MS := fun l S => .ok (.nx l) S
def mBrk : MS := fun l S => .ok (.bk l) S
def mCnt : MS := fun l S => .ok (.ct l) S
def mBad : MS := fun _ _ => .bad
def mSeq (f g : MS) : MS := fun l S => (f l S).bind fun r S1 => match r with
  | .nx l1 => g l1 S1
  | r => .ok r S1
def mIfS (c : MB) (f g : MS) : MS := fun l S => (c l S).bind fun b S1 => if b = true then f l S1 else g l S1
section
variable {X : Cx} {E : St → XK} {st : Stmt} {sts : List Stmt} {f g : MS} {e : Expr} {m : M} {pos : Pos}
theorem Post.nx {K : PySem.W.Frag} {D0 : Ends} {p : Nat → Addr} {S : Hs} {H : Hp} {l : Ls} {s : St} (h : Post K E S.length p H (.ok (.nx l) S) (QF K D0)) (R : Real K p S H) (L : Sl K p S.length H l s) : D0.nx s H := Post.ok (Q := QF K D0) h Ext.refl R s L
theorem SMs.nil : SMs X E [] mPass := ⟨pss_nil.weak fun s H D0 ⟨p, l, S, R, L, h⟩ => Post.nx h R L⟩
theorem SMs.cons (h1 : SM X E st f) (h2 : SMs X E sts g) : SMs X E (st :: sts) (mSeq f g) := ⟨(pss_cons h1.ps h2.ps).weak fun s H D0 ⟨p, l, S, R, L, h⟩ => by
  refine ⟨p, l, S, R, L, (Post.bind (r := f l S) h).mono fun a S1 p1 H1 _ x R1 q => ?_⟩
  cases a with
  | nx l1 => exact fun s1 L1 => ⟨p1, l1, S1, R1, L1, q⟩
  | rt d => exact fun v r => Post.ok (Q := QF _ D0) q Ext.refl R1 v r
  | bk l1 => exact fun v r => Post.ok (Q := QF _ D0) q Ext.refl R1 v r
  | ct l1 => exact fun v r => Post.ok (Q := QF _ D0) q Ext.refl R1 v r⟩
theorem SMs.one (h1 : SM X E st f) : SMs X E [st] f := ⟨pss_one h1.ps⟩
theorem s_pass : SM X E (.Pass pos) mPass := ⟨ps_pass.weak fun s H D0 ⟨p, l, S, R, L, h⟩ => Post.nx h R L⟩
theorem s_brk : SM X E (.Break pos) mBrk := ⟨ps_break.weak fun s H D0 ⟨p, l, S, R, L, h⟩ => Post.ok (Q := QF _ D0) h Ext.refl R s L⟩
theorem s_cnt : SM X E (.Continue pos) mCnt := ⟨ps_continue.weak fun s H D0 ⟨p, l, S, R, L, h⟩ => Post.ok (Q := QF _ D0) h Ext.refl R s L⟩
theorem s_never : SM X E st mBad := ⟨(ps_never (X := X)).weak fun s H D0 ⟨p, l, S, R, L, h⟩ => h.elim⟩
theorem s_doc {x j pos'} : SM X E (.Expr (.Constant (.str x) j pos) pos') mPass := ⟨ps_doc.weak fun s H D0 ⟨p, l, S, R, L, h⟩ => Post.nx h R L⟩
theorem s_set {i : Nat} {x : Str} {pos' : Pos} (hN : X.N.Nodup) (he : EM X E e m) (hi : X.N[i]? = some x := by rfl) (hx : L2.Loc X.env.scope x := by first | exact Or.inl rfl | exact Or.inr rfl)
    (hs : swapsWith e (some (.Name x pos')) pos.line X.env = pure false := by rfl) (hf : X.fn x = true ∨ X.env.scope.names.lookup x = some .local := by first | exact .inl rfl | exact .inr rfl | assumption) :
    SM X E (.Assign [.Name x pos'] e pos) (mSet i m) :=
  ⟨(ps_set hN hi hx he.pe hs hf).weak fun s H D0 ⟨p, l, S, R, L, h⟩ => T.of R L h fun p1 S1 H1 d v R1 x1 L1 r1 h1 => Post.nx h1 R1 (L1.set i r1)⟩
theorem s_expr (he : EM X E e m) (hs : swapsWith e none pos.line X.env = pure false := by rfl) : SM X E (.Expr e pos) (mExpr m) :=
  ⟨(ps_expr he.pe hs).weak fun s H D0 ⟨p, l, S, R, L, h⟩ => T.of R L h fun p1 S1 H1 d v R1 x1 L1 r1 h1 => Post.nx h1 R1 L1⟩
theorem s_ret (he : EM X E e m) : SM X E (.Return (some e) pos) (mRet m) :=
  ⟨(ps_ret he.pe).weak fun s H D0 ⟨p, l, S, R, L, h⟩ => T.of R L h fun p1 S1 H1 d v R1 x1 L1 r1 h1 => Post.ok (Q := QF _ D0) h1 Ext.refl R1 v r1⟩
theorem s_retN : SM X E (.Return none pos) mRetN := ⟨ps_retN.weak fun s H D0 ⟨p, l, S, R, L, h⟩ => Post.ok (Q := QF _ D0) h Ext.refl R .non .non⟩
theorem TSt.last {K : PySem.W.Frag} {s : St} {H : Hp} {D0 : Ends} {p : Nat → Addr} {l : Ls} {S : Hs} (R : Real K p S H) (L : Sl K p S.length H l s) (h : Post K E S.length p H (f l S) (QF K D0)) : TSt K E f D0 s H := ⟨p, l, S, R, L, h⟩
theorem s_if {c : Expr} {a b : List Stmt} {cm : MB} (hc : BM X E c cm) (ha : SMs X E a f) (hb : SMs X E b g) : SM X E (.If c a b pos) (mIfS cm f g) :=
  ⟨(ps_if hc.pt ha.ps hb.ps).weak fun s H D0 ⟨p, l, S, R, L, h⟩ => TB.of R L h fun p1 S1 H1 b R1 x1 L1 h1 => by
    cases b with
    | true => exact TSt.last R1 L1 h1
    | false => exact TSt.last R1 L1 h1⟩
end
/-! ### loops: a tail recursion -/
def iter {A β : Type} (step : A → Sum A (R β)) : Nat → A → R β
  | 0, _ => .bad
  | n + 1, a => Sum.elim (iter step n) id (step a)
theorem iter_succ {A β : Type} (step : A → Sum A (R β)) : ∀ n a, iter step n a ≠ .bad → iter step (n + 1) a = iter step n a
  | 0, a, h => absurd rfl h
  | n + 1, a, h => by
    simp only [iter] at h ⊢
    cases e : step a with
    | inl a' => rw [e] at h; exact iter_succ step n a' h
    | inr r => rfl
theorem iter_le {A β : Type} (step : A → Sum A (R β)) {n m : Nat} (hnm : n ≤ m) {a : A} (h : iter step n a ≠ .bad) : iter step m a = iter step n a := by
  induction hnm with
  | refl => rfl
  | step _ ih => rw [iter_succ step _ a (by rw [ih]; exact h), ih]
open Classical in
noncomputable def runI {A β : Type} (step : A → Sum A (R β)) (a : A) : R β := if h : ∃ n, iter step n a ≠ .bad then iter step h.choose a else .bad
theorem runI_of {A β : Type} {step : A → Sum A (R β)} {n : Nat} {a : A} (h : iter step n a ≠ .bad) : runI step a = iter step n a := by
  have hx : ∃ n, iter step n a ≠ .bad := ⟨n, h⟩
  unfold runI
  rw [dif_pos hx]
  rcases Nat.le_total n hx.choose with q | q
  · exact iter_le step q h
  · exact (iter_le step q hx.choose_spec).symm
theorem runI_ex {A β : Type} {step : A → Sum A (R β)} {a : A} (h : runI step a ≠ .bad) : ∃ n, iter step n a = runI step a ∧ iter step n a ≠ .bad := by
  apply Classical.byContradiction
  intro hx
  refine h ?_
  have : ¬ ∃ n, iter step n a ≠ .bad := fun ⟨n, hn⟩ => hx ⟨n, (runI_of hn).symm, hn⟩
  unfold runI; rw [dif_neg this]
theorem runI_eq {A β : Type} (step : A → Sum A (R β)) (a : A) : runI step a = match step a with
    | .inl a' => runI step a'
    | .inr r => r := by
  cases e : step a with
  | inr r =>
    show runI step a = r
    by_cases hr : r = .bad
    · subst hr
      apply Classical.byContradiction
      intro h
      obtain ⟨n, _, hn⟩ := runI_ex h
      cases n with
      | zero => exact hn rfl
      | succ n => simp only [iter, e] at hn; exact hn rfl
    · have : iter step 1 a = r := by simp only [iter, e]; rfl
      rw [runI_of (n := 1) (by rw [this]; exact hr), this]
  | inl a' =>
    show runI step a = runI step a'
    by_cases h : runI step a' = .bad
    · rw [h]
      apply Classical.byContradiction
      intro h2
      obtain ⟨n, _, hn⟩ := runI_ex h2
      cases n with
      | zero => exact hn rfl
      | succ n =>
        simp only [iter, e] at hn
        exact hn (by rw [Sum.elim_inl, ← runI_of hn]; exact h)
    · obtain ⟨n, e1, hn⟩ := runI_ex h
      have : iter step (n + 1) a = iter step n a' := by simp only [iter, e]; rfl
      rw [runI_of (n := n + 1) (by rw [this]; exact hn), this, e1]
/-- what a turn's body leads to -/
def turnOf {A : Type} (r : R F) (next : Ls → Hs → A) : Sum A (R F) := match r with
  | .ok (.nx l) S => .inl (next l S)
  | .ok (.ct l) S => .inl (next l S)
  | .ok (.bk l) S => .inr (.ok (.nx l) S)
  | .ok (.rt d) S => .inr (.ok (.rt d) S)
  | .exc c fs l S => .inr (.exc c fs l S)
  | .bad => .inr .bad
def wStep (c : MB) (b : MS) (a : Ls × Hs) : Sum (Ls × Hs) (R F) := match c a.1 a.2 with
  | .ok t S1 => if t = true then turnOf (b a.1 S1) Prod.mk else .inr (.ok (.nx a.1) S1)
  | .exc c fs l S => .inr (.exc c fs l S)
  | .bad => .inr .bad
noncomputable def mWhile (c : MB) (b : MS) : MS := fun l S => runI (wStep c b) (l, S)
theorem mWhile_eq (c : MB) (b : MS) (l : Ls) (S : Hs) : mWhile c b l S = (c l S).bind fun t S1 => if t = true then (b l S1).bind fun r S2 => match r with
    | .nx l2 => mWhile c b l2 S2
    | .ct l2 => mWhile c b l2 S2
    | .bk l2 => .ok (.nx l2) S2
    | .rt d => .ok (.rt d) S2
    else .ok (.nx l) S1 := by
  unfold mWhile
  rw [runI_eq]
  unfold wStep turnOf
  simp only []
  cases c l S with
  | ok t S1 =>
    cases t with
    | false => rfl
    | true =>
      simp only [if_true, R.bind_ok]
      cases b l S1 with
      | ok r S2 => cases r <;> rfl
      | exc _ _ _ _ => rfl
      | bad => rfl
  | exc _ _ _ _ => rfl
  | bad => rfl
theorem Post.ne {α : Type} {K : PySem.W.Frag} {E : St → XK} {n : Nat} {p : Nat → Addr} {H : Hp} {r : R α} {Q : α → Hs → (Nat → Addr) → Hp → Prop} (h : Post K E n p H r Q) : r ≠ .bad := fun e => by subst e; exact h
section
variable {X : Cx} {E : St → XK} {g : MS} {pos : Pos}
/-- a turn whose end is wished for -/
theorem turn_post {K : PySem.W.Frag} {A : Type} {step : A → Sum A (R F)} {m : Nat} {p : Nat → Addr} {S : Hs} {H : Hp} {D0 : Ends} {r : R F} {next : Ls → Hs → A} {N : St → Hp → Prop}
    (h : Post K E S.length p H (Sum.elim (iter step m) id (turnOf r next)) (QF K D0))
    (hN : ∀ l S2 p2 H2 s, Ext S.length S2.length p p2 H H2 → Real K p2 S2 H2 → Sl K p2 S2.length H2 l s → Post K E S2.length p2 H2 (iter step m (next l S2)) (QF K D0) → N s H2) :
    Post K E S.length p H r (QF K { D0 with nx := N, ct := N, bk := D0.nx }) := by
  unfold turnOf at h
  cases r with
  | ok f S2 =>
    intro p2 H2 x R2
    cases f with
    | nx l => exact fun s L => hN l S2 p2 H2 s x R2 L (Post.ext h x)
    | ct l => exact fun s L => hN l S2 p2 H2 s x R2 L (Post.ext h x)
    | bk l => exact fun s L => Post.nx (Post.ext h x) R2 L
    | rt d => exact fun v r => Post.ok (Q := QF _ D0) (Post.ext h x) Ext.refl R2 v r
  | exc c fs l S2 => exact h
  | bad => exact h
theorem s_while {c : Expr} {body : List Stmt} {cm : MB} (hp : PassesOwn (model X.prog X.w) X.A X.env X.xe) (hc : BM X E c cm) (hb : SMs X E body g) : SM X E (.While c body [] pos) (mWhile cm g) :=
  ⟨(ps_while hp hc.pt hb.ps).weak fun s H D0 ⟨p, l, S, R, L, h⟩ => by
    obtain ⟨n, hn, _⟩ := runI_ex (Post.ne h)
    rw [show mWhile cm g l S = _ from hn.symm] at h
    refine ⟨fun m s H => ∃ p l S, Real X.K p S H ∧ Sl X.K p S.length H l s ∧ Post X.K E S.length p H (iter (wStep cm g) m (l, S)) (QF X.K D0), ⟨n, p, l, S, R, L, h⟩, ?_⟩
    rintro m s H ⟨p, l, S, R, L, h⟩
    cases m with
    | zero => exact h.elim
    | succ m =>
      simp only [iter, wStep] at h
      refine ⟨p, l, S, R, L, ?_⟩
      cases e : cm l S with
      | bad => rw [e] at h; exact h
      | exc c fs l2 S2 => rw [e] at h; exact h
      | ok t S1 =>
        rw [e] at h
        simp only [] at h
        intro p1 H1 x R1
        cases t with
        | false => exact Post.nx (Post.ext h x) R1 (L.ext x)
        | true =>
          simp only [if_true] at h ⊢
          exact ⟨fun s H => ∃ p l S, Real X.K p S H ∧ Sl X.K p S.length H l s ∧ Post X.K E S.length p H (iter (wStep cm g) m (l, S)) (QF X.K D0), fun s' H' w => ⟨m, Nat.lt_succ_self m, w⟩, p1, l, S1, R1, L.ext x,
            turn_post (Post.ext h x) fun l2 S2 p2 H2 s2 _ R2 L2 h2 => ⟨p2, l2, S2, R2, L2, h2⟩⟩⟩
end
end Ly
set_option Elab.async false
set_option linter.all false
set_option maxRecDepth 100000
namespace Ly
open PySem PySem.Spec L2
open PyProof.Rows hiding St
/-! ### defs -/
/-- an exception is told at the caller's slots -/
def R.at {α : Type} (r : R α) (l : Ls) : R α := match r with
  | .exc c fs _ S => .exc c fs l S
  | r => r
@[simp] theorem R.at_ok {α : Type} (a : α) (S : Hs) (l : Ls) : (R.ok a S).at l = .ok a S := (show (R.ok a S).at l = .ok a S from rfl).trans (Eq.refl _)
@[simp] theorem R.at_exc {α : Type} (c fs l2) (S : Hs) (l : Ls) : (R.exc c fs l2 S : R α).at l = .exc c fs l S := (show (R.exc c fs l2 S : R α).at l = .exc c fs l S from rfl).trans (Eq.refl _)
@[simp] theorem R.at_bad {α : Type} (l : Ls) : (R.bad : R α).at l = .bad := rfl
abbrev MD := List D → Hs → R D
def endOf (r : R F) : R D := match r with
  | .ok (.nx _) S => .ok .non S
  | .ok (.rt d) S => .ok d S
  | .ok _ _ => .bad
  | .exc c fs _ S => .exc c fs [] S
  | .bad => .bad
def mDef (np nl : Nat) (body : MS) : MD := fun ds S => if ds.length = np then endOf (body (ds.map some ++ List.replicate nl none) S) else .bad
def spM (K : PySem.W.Frag) (np : Nat) (m : MD) : Sp := fun vs H Q E => ∃ p S ds, Real K p S H ∧ Reps K p S.length H ds vs ∧ ds.length = np ∧ Post K (fun _ => E) S.length p H (m ds S) (QD K Q)
theorem spM_len {K : PySem.W.Frag} {np : Nat} {m : MD} {vs : List V} {H : Hp} {Q : VK} {E : XK} (h : spM K np m vs H Q E) : vs.length = np := by
  obtain ⟨p, S, ds, R, r, hl, _⟩ := h
  rw [← r.len]; exact hl
theorem Reps.sl {K : PySem.W.Frag} {p : Nat → Addr} {n : Nat} {H : Hp} {ds : List D} {vs : List V} (r : Reps K p n H ds vs) (m : Nat) : Sl K p n H (ds.map some ++ List.replicate m none) (vs.map some ++ List.replicate m none) := by
  induction ds generalizing vs with
  | nil =>
    cases r
    simp only [List.map_nil, List.nil_append]
    induction m with
    | zero => exact .nil
    | succ m ih => exact .no _ ih
  | cons d ds ih => cases r with | cons r s => exact .yes r (ih s)
section
variable {P : Program} {w : World} {K : PySem.W.Frag} {mg : Str → Option Value} {base : Heap}
/-- where nothing is said -/
theorem fn_bad {k np : Nat} {f : Addr} {fd : FuncData} {ps : List Str} : FnOk P w K mg base (L2.CX P w) k f fd ps (spM K np fun _ _ => .bad) :=
  ⟨fun _ _ _ _ ⟨_, _, _, _, _, _, h⟩ => h.elim, fun _ _ _ _ _ _ _ _ _ _ _ _ _ ⟨_, _, _, _, _, _, h⟩ => h.elim⟩
/-- a def of the text does what its mirror says -/
theorem fn_def {x qual : Str} {st : Stmt} {f : Addr} {fd : FuncData} {N ps : List Str} {k : Nat} {np nl : Nat} {m : MS} (F : Fun K x qual st f fd) (S : FnScope N ps (defScope st)) (hp : ps.length = np) (hn : N.length = np + nl)
    (hb : ∀ (cdv : Value) (A : Around) (outer : List Env) (s : Shared) (H : Hp) (E : XK), Room k (A.deeper (PyProof.Rows.envOfC qual (defScope st) s.heap.objs.size f cdv)) →
      SMs (cxOf (L2.CX P w) P w K mg base N qual (defScope st) f cdv A outer s H E) (fun _ => E) (defBody st) m) : FnOk P w K mg base (L2.CX P w) (k + 1) f fd ps (spM K np (mDef np nl m)) := by
  refine F.okX S (fun vs H Q E h => (spM_len h).trans hp.symm) fun cdv A outer s H vs Q E hr h => ⟨_, (hb cdv A outer s H E hr).ps, ?_⟩
  obtain ⟨p, S0, ds, R, r, hl, h⟩ := h
  have e : L2.start N vs = vs.map some ++ List.replicate nl none := by
    unfold L2.start
    rw [hn, ← r.len, hl, Nat.add_sub_cancel_left]
  refine ⟨p, ds.map some ++ List.replicate nl none, S0, R, by rw [e]; exact r.sl nl, ?_⟩
  unfold mDef at h
  rw [if_pos hl] at h
  revert h
  generalize m _ S0 = res
  intro h
  cases res with
  | ok a S1 =>
    intro p1 H1 x1 R1
    cases a with
    | nx l1 => exact fun s1 L1 => Post.ok (Q := QD K Q) h x1 R1 _ .non
    | rt d => exact fun v r => Post.ok (Q := QD K Q) h x1 R1 v r
    | bk l1 => exact h.elim
    | ct l1 => exact h.elim
  | exc c fs l S1 => exact fun p1 H1 u d s1 x1 R1 rc rf L1 => h p1 H1 u d [] x1 R1 rc rf .nil
  | bad => exact h
/-- the raising wish of a def's body -/
theorem pass_def {N : List Str} {qual : Str} {scope : Scope} {f : Addr} {cdv : Value} {A : Around} {outer : List Env} {s : Shared} {H : Hp} {E : XK} :
    Passes (L2.CX P w) (cxOf (L2.CX P w) P w K mg base N qual scope f cdv A outer s H E) E :=
  passes_call (takes_of rfl rfl rfl rfl) fun _ _ _ _ h => h
end
section
variable {X : Cx} {E : St → XK} {CX : CXT} {k : Nat} {f C : Addr} {fd : FuncData} {ps : List Str} {np : Nat} {md : MD} {x m : Str} {p pos apos : Pos} {e o : Expr} {es : List Expr} {g : ML} {E0 : XK}
def mFn (md : MD) (g : ML) : M := fun l S => (g l S).bind fun ds S1 => (md ds S1).at l
theorem fn_post {α : Type} {K : PySem.W.Frag} {n : Nat} {q : Nat → Addr} {H : Hp} {r : R α} {l : Ls} {s : St} {Q : α → Hs → (Nat → Addr) → Hp → Prop} (L : Sl K q n H l s) (h : Post K E n q H (r.at l) Q) : Post K (fun _ => E s) n q H r Q := by
  cases r with
  | ok a S => exact h
  | exc c fs l2 S => exact fun p1 H1 u d s1 x1 R1 rc rf L1 => h p1 H1 u d s x1 R1 rc rf (L.ext x1)
  | bad => exact h
theorem e_fn (F : FnOk X.prog X.w X.K X.mg X.base CX k f fd ps (spM X.K np md)) (hp : ∀ ds S, ds.length ≠ np → md ds S = .bad) (hr : Room k X.A) (hg : Gl X x) (hm : X.mg x = some (.ref f)) (hk : PySem.W.keepIn X.K (.ref f) = true) (hb : Binds X.K fd ps [])
    (hx : ∀ σ, PassesAt CX X σ (E σ)) (ha : LM X E (e :: es) g) (hdb : (x == ("__debug__" : Str)) = false := by decide) (he : starEach (e :: es) X.env = (false, eval e X.env) :: starEach es X.env := by rfl)
    (hpl : (backTo pos (starEach es X.env)).any (·.1) = false := by rfl) : EM X E (.Call (.Name x p) (e :: es) [] pos) (mFn md g) :=
  ⟨(pe_callSD F hr hg hm hk hb .nil hx ha.pa hdb he hpl).weak fun s H Q ⟨q, l, S, R, L, h⟩ => TL.of R L h fun p1 S1 H1 d v R1 x1 L1 r1 h1 => by
    refine ⟨p1, S1, d, R1, by rw [List.append_nil]; exact r1, ?_, fn_post L1 h1⟩
    apply Classical.byContradiction
    intro hne
    rw [hp d S1 hne] at h1
    exact h1⟩
theorem e_fn0 (F : FnOk X.prog X.w X.K X.mg X.base CX k f fd ps (spM X.K 0 md)) (hr : Room k X.A) (hg : Gl X x) (hm : X.mg x = some (.ref f)) (hk : PySem.W.keepIn X.K (.ref f) = true) (hb : Binds X.K fd ps [])
    (hx : Passes CX X E0) (hdb : (x == ("__debug__" : Str)) = false := by decide) : EM X (fun _ => E0) (.Call (.Name x p) [] [] pos) (mFn md lNil) :=
  ⟨(pe_call0 F hr hg hm hk hb .nil hx hdb).weak fun s H Q ⟨q, l, S, R, L, h⟩ => ⟨q, S, [], R, .nil, rfl, fn_post (E := fun _ => E0) L h⟩⟩
theorem Passes.at (h : Passes CX X E0) (σ : St) : PassesAt CX X σ E0 := fun pins H s e s' => h pins σ H s e s'
end
theorem mDef_len {np nl : Nat} {b : MS} (ds : List D) (S : Hs) (h : ds.length ≠ np) : mDef np nl b ds S = .bad := if_neg h
/-! ### another mirror in the place of the first one -/
mutual
def D.low (n : Nat) : D → Prop
  | .ref i => i < n
  | .tup ds => D.lows n ds
  | .wt ds => D.lows n ds
  | .wl ds => D.lows n ds
  | _ => True
def D.lows (n : Nat) : List D → Prop
  | [] => True
  | d :: ds => D.low n d ∧ D.lows n ds
end
def O.low (n : Nat) : O → Prop
  | .lst ds => D.lows n ds
  | .rol ds => D.lows n ds
  | .dic kvs => D.lows n (kvs.map (·.2))
  | .dit kvs => D.lows n (kvs.map (·.2))
  | .ins _ fs => D.lows n (fs.map (·.2))
/-- nothing leads out of the store -/
def Wf (S : Hs) : Prop := ∀ (i : Nat) (o : O), S[i]? = some o → o.low S.length
section
variable {K : PySem.W.Frag} {pi : Nat → Addr} {n m : Nat} {H : Hp}
mutual
theorem Rep.low : ∀ (d : D) (v : V), Rep K pi n H d v → d.low n
  | .non, _, _ => by simp [D.low]
  | .bl _, _, _ => by simp [D.low]
  | .int _, _, _ => by simp [D.low]
  | .str _, _, _ => by simp [D.low]
  | .tup ds, _, .tup t r => by simp only [D.low]; exact Reps.low ds _ r
  | .wt ds, _, .wt t r => by simp only [D.low]; exact Reps.low ds _ r
  | .wl ds, _, .wl t r => by simp only [D.low]; exact Reps.low ds _ r
  | .ref i, _, .ref h => by simpa [D.low] using h
  | .cst _, _, _ => by simp [D.low]
theorem Reps.low : ∀ (d : List D) (v : List V), Reps K pi n H d v → D.lows n d
  | [], _, _ => by simp [D.lows]
  | d :: ds, _, .cons r s => by simp only [D.lows]; exact ⟨Rep.low d _ r, Reps.low ds _ s⟩
end
mutual
theorem Rep.cut : ∀ (d : D) (v : V), Rep K pi n H d v → d.low m → Rep K pi m H d v
  | .non, _, .non, _ => .non
  | .bl _, _, .bl _, _ => .bl _
  | .int _, _, .int _, _ => .int _
  | .str _, _, .str _, _ => .str _
  | .tup ds, _, .tup t r, h => .tup t (Reps.cutN ds _ r (by simpa only [D.low] using h))
  | .wt ds, _, .wt t r, h => .wt t (Reps.cutN ds _ r (by simpa only [D.low] using h))
  | .wl ds, _, .wl t r, h => .wl t (Reps.cutN ds _ r (by simpa only [D.low] using h))
  | .ref i, _, .ref _, h => .ref (by simpa only [D.low] using h)
  | .cst _, _, .cst _, _ => .cst _
theorem Reps.cutN : ∀ (d : List D) (v : List V), Reps K pi n H d v → D.lows m d → Reps K pi m H d v
  | [], _, .nil, _ => .nil
  | d :: ds, _, .cons r s, h => by
    simp only [D.lows] at h
    exact .cons (Rep.cut d _ r h.1) (Reps.cutN ds _ s h.2)
end
theorem RO.low {a : Addr} {o : O} (h : RO K pi n H a o) : o.low n := by
  cases o with
  | lst ds => obtain ⟨xs, _, h2⟩ := h; exact h2.low
  | rol ds => obtain ⟨o, xs, _, h2⟩ := h; exact h2.low
  | dic kvs => obtain ⟨ks, _, _, h3⟩ := h; exact h3.low
  | dit kvs => obtain ⟨ks, _, _, h3⟩ := h; exact h3.low
  | ins C fs => obtain ⟨dx, ks, _, _, h3⟩ := h; exact h3.low
theorem RO.cut {a : Addr} {o : O} (h : RO K pi n H a o) (l : o.low m) : RO K pi m H a o := by
  cases o with
  | lst ds => obtain ⟨xs, h1, h2⟩ := h; exact ⟨xs, h1, h2.cutN _ _ l⟩
  | rol ds => obtain ⟨o, xs, h1, h2⟩ := h; exact ⟨o, xs, h1, h2.cutN _ _ l⟩
  | dic kvs => obtain ⟨ks, h1, h2, h3⟩ := h; exact ⟨ks, h1, h2, h3.cutN _ _ l⟩
  | dit kvs => obtain ⟨ks, h1, h2, h3⟩ := h; exact ⟨ks, h1, h2, h3.cutN _ _ l⟩
  | ins C fs => obtain ⟨dx, ks, h1, h2, h3⟩ := h; exact ⟨dx, ks, h1, h2, h3.cutN _ _ l⟩
theorem Real.wf {S : Hs} (R : Real K pi S H) : Wf S := fun i o e => (R.ob i o e).low
theorem Real.drop {S g : Hs} (R : Real K pi (S ++ g) H) (w : Wf S) : Real K pi S H := by
  refine ⟨fun i o e => ?_, fun i j hi hj => R.inj i j (by simp; omega) (by simp; omega)⟩
  have hi := (List.getElem?_eq_some_iff.mp e).1
  exact (R.ob i o (by rw [List.getElem?_append_left hi]; exact e)).cut (w i o e)
end
/-- m' says less than m: where it says something, m says it, and may have laid more -/
def Fine (np : Nat) (m' m : MD) : Prop := ∀ ds S, Wf S → D.lows S.length ds → ds.length = np → match m' ds S with
  | .ok v S' => S.length ≤ S'.length ∧ Wf S' ∧ v.low S'.length ∧ ∃ g, m ds S = .ok v (S' ++ g)
  | .exc c fs l S' => l = [] ∧ S.length ≤ S'.length ∧ Wf S' ∧ (∀ l, fs = some l → D.lows S'.length (l.map (·.2))) ∧ ∃ g, m ds S = .exc c fs [] (S' ++ g)
  | .bad => True
theorem spM_fine {K : PySem.W.Frag} {np : Nat} {m' m : MD} (hf : Fine np m' m) {vs : List V} {H : Hp} {Q : VK} {E : XK} (h : spM K np m' vs H Q E) : spM K np m vs H Q E := by
  obtain ⟨p, S, ds, R, r, hl, h⟩ := h
  refine ⟨p, S, ds, R, r, hl, ?_⟩
  have f := hf ds S R.wf r.low hl
  revert f h
  cases m' ds S with
  | ok v S' =>
    intro h f
    obtain ⟨h1, h2, h3, g, e⟩ := f
    rw [e]
    intro p1 H1 x1 R1 u r1
    exact Post.ok (Q := QD K Q) h ⟨h1, x1.ag, x1.tp⟩ (R1.drop h2) u (r1.cut _ _ h3)
  | exc c fs l S' =>
    intro h f
    obtain ⟨rfl, h1, h2, h3, g, e⟩ := f
    rw [e]
    intro p1 H1 u d s x1 R1 rc rf L
    refine h p1 H1 u d s ⟨h1, x1.ag, x1.tp⟩ (R1.drop h2) rc ?_ ?_
    · unfold XFs at rf ⊢
      cases d <;> cases fs <;> first | exact rf | skip
      obtain ⟨ks, k1, k2, k3⟩ := rf
      exact ⟨ks, k1, k2, k3.cutN _ _ (h3 _ rfl)⟩
    · cases L; exact .nil
  | bad => intro h f; exact h.elim
end Ly
set_option Elab.async false
set_option linter.all false
set_option maxRecDepth 100000
namespace Ly
open PySem PySem.Spec L2
open PyProof.Rows hiding St
/-! ### targets -/
abbrev MG := D → Ls → Hs → R Ls
def TG' (K : PySem.W.Frag) (E : St → XK) (f : MG) : TG := fun v s H Q => ∃ p l S d, Real K p S H ∧ Sl K p S.length H l s ∧ Rep K p S.length H d v ∧ Post K E S.length p H (f d l S) (fun l1 S1 p1 H1 => ∀ s1, Sl K p1 S1.length H1 l1 s1 → Q s1 H1)
structure GM (X : Cx) (E : St → XK) (t : Expr) (f : MG) : Prop where pg : PG X t (TG' X.K E f)
theorem _root_.L2.PG.weak {X : Cx} {e : Expr} {t t' : TG} (h : PG X e t) (w : ∀ v s H Q, t' v s H Q → t v s H Q) : PG X e t' := ⟨fun pins s σ H v u Q I r q => h.run pins s σ H v u Q I r (w v σ H Q q)⟩
def gN (i : Nat) : MG := fun d l S => .ok (l.set i (some d)) S
abbrev MGs := List D → Ls → Hs → R Ls
def gsN : MGs := fun ds l S => match ds with
  | [] => .ok l S
  | _ => .bad
def gsC (f : MG) (g : MGs) : MGs := fun ds l S => match ds with
  | d :: r => (f d l S).bind fun l1 S1 => g r l1 S1
  | [] => .bad
def gT (n : Nat) (f : MGs) : MG := fun d l S => match d with
  | .tup ds => if ds.length = n then f ds l S else .bad
  | .wt ds => if ds.length = n then f ds l S else .bad
  | _ => .bad
def TGs' (K : PySem.W.Frag) (E : St → XK) (f : MGs) : TGs := fun v s H Q => ∃ p l S d, Real K p S H ∧ Sl K p S.length H l s ∧ Reps K p S.length H d v ∧ Post K E S.length p H (f d l S) (fun l1 S1 p1 H1 => ∀ s1, Sl K p1 S1.length H1 l1 s1 → Q s1 H1)
structure GMs (X : Cx) (E : St → XK) (t : List Expr) (f : MGs) : Prop where pgs : PGs X t (TGs' X.K E f)
section
variable {X : Cx} {E : St → XK} {pos : Pos}
theorem g_n {i : Nat} {x : Str} (hN : X.N.Nodup) (hi : X.N[i]? = some x := by rfl) (hx : L2.Loc X.env.scope x := by first | exact Or.inl rfl | exact Or.inr rfl) (hf : X.fn x = true ∨ X.env.scope.names.lookup x = some .local := by first | exact .inl rfl | exact .inr rfl | assumption) : GM X E (.Name x pos) (gN i) :=
  ⟨(pg_name hN hi hx hf).weak fun v s H Q ⟨p, l, S, d, R, L, r, h⟩ => Post.ok h Ext.refl R _ (L.set i r)⟩
theorem gs_nil : GMs X E [] gsN := ⟨⟨fun pins s σ H vs us Q I rv ⟨p, l, S, d, R, L, r, h⟩ => by
  refine pgs_nil.run pins s σ H vs us Q I rv ?_
  unfold gsN at h
  split at h
  · cases r; exact ⟨rfl, Post.ok h Ext.refl R _ L⟩
  · exact h.elim⟩⟩
theorem gs_cons {e : Expr} {es : List Expr} {f : MG} {g : MGs} (h1 : GM X E e f) (h2 : GMs X E es g) (hs : (assignEach (e :: es) X.env).map (·.2) = assign e X.env :: (assignEach es X.env).map (·.2) := by rfl) : GMs X E (e :: es) (gsC f g) :=
  ⟨⟨fun pins s σ H vs us Q I rv ⟨p, l, S, d, R, L, r, h⟩ => by
    refine (pgs_cons h1.pg h2.pgs hs).run pins s σ H vs us Q I rv ?_
    unfold gsC at h
    split at h
    · cases r with
      | cons r0 rs =>
      exact ⟨_, _, rfl, p, l, S, _, R, L, r0, h.bind.mono fun l1 S1 p1 H1 _ x1 R1 q s1 L1 => ⟨p1, l1, S1, _, R1, L1, rs.ext x1 _ _, q⟩⟩
    · exact h.elim⟩⟩
theorem g_tup {es : List Expr} {k n : Nat} {f : MGs} (hc : X.calm = true) (h : GMs X E es f) (hn : (assignEach es X.env).length = n := by rfl) (hst : (assignEach es X.env).findIdx? (·.1) = none := by rfl) : GM X E (.Tuple es k pos) (gT n f) :=
  ⟨(pg_tup hc h.pgs hn hst).weak fun v s H Q ⟨p, l, S, d, R, L, r, h⟩ => by
    unfold gT at h
    split at h
    · split at h
      · rename_i hl
        cases r with
        | tup t r => exact ⟨_, _, rfl, SqT.of t, by rw [← r.len]; exact hl, p, l, S, _, R, L, r, h⟩
      · exact h.elim
    · split at h
      · rename_i hl
        cases r with
        | wt t r => exact ⟨_, _, rfl, t.sq, by rw [← r.len]; exact hl, p, l, S, _, R, L, r, h⟩
      · exact h.elim
    · exact h.elim⟩
def mAsg (f : M) (g : MG) : MS := fun l S => (f l S).bind fun d S1 => (g d l S1).bind fun l1 S2 => .ok (.nx l1) S2
theorem s_asg {tg e : Expr} {f : M} {g : MG} (he : EM X E e f) (hg : GM X E tg g) (hs : swapsWithSole [tg] e pos.line X.env = pure false := by rfl) (hw : swappedStores [tg] e X.env = pure none := by rfl)
    (h1 : (assignEach [tg] X.env).map (·.2) = [assign tg X.env] := by rfl) : SM X E (.Assign [tg] e pos) (mAsg f g) :=
  ⟨(ps_asg he.pe hg.pg hs hw h1).weak fun s H D0 ⟨p, l, S, R, L, h⟩ => T.of R L h fun p1 S1 H1 d v R1 x1 L1 r1 h1 => ⟨p1, l, S1, d, R1, L1, r1, h1.bind.mono fun l1 S2 p2 H2 _ x2 R2 q s2 L2 => Post.nx q R2 L2⟩⟩
/-! ### o[i] = v -/
def oSet (x y d : D) (S : Hs) : R Unit := match x with
  | .ref i => match S[i]? with
    | some (.lst xs) => (match y with
      | .int k => (match ixN xs.length k with
        | some j => .ok () (S.set i (.lst (xs.set j d)))
        | none => .bad)
      | _ => .bad)
    | some (.dic kvs) => (match y.key with
      | some k => if kvs.length < sizeLine then .ok () (S.set i (.dic (setK kvs k d))) else .bad
      | none => .bad)
    | some (.dit kvs) => (match y.tkey with
      | some k => if kvs.length < sizeLine then .ok () (S.set i (.dit (setK kvs k d))) else .bad
      | none => .bad)
    | _ => .bad
  | _ => .bad
abbrev rSetD : V → V → V → Hp → (Hp → Prop) → Prop := fun o i v H Q => ∃ a H', o = .ref a ∧ DPut H a i v H' ∧ Q H'
theorem set_dic (hu : X.A.units + 1 < cLine) : PSet X rSetD := by
  intro pins s σ H o i v ov iv u Q I ro ri rv h
  obtain ⟨a, H', rfl, g, q⟩ := h
  obtain rfl : ov = Value.ref a := ro
  exact d_setItem hu I g ri rv fun s4 I4 => ⟨H', I4, q⟩
abbrev rSetA : V → V → V → Hp → (Hp → Prop) → Prop := fun o i v H Q => rSetL o i v H Q ∨ rSetD o i v H Q
theorem set_all (hu : X.A.units + 1 < cLine) : PSet X rSetA := fun pins s σ H o i v ov iv u Q I ro ri rv h => h.elim (set_list pins s σ H o i v ov iv u Q I ro ri rv) (set_dic hu pins s σ H o i v ov iv u Q I ro ri rv)
theorem setK_V {κ : Type} [DecidableEq κ] {K : PySem.W.Frag} {pi : Nat → Addr} {n : Nat} {H : Hp} {kvs : List (κ × D)} {ks : List (κ × V)} (h : ks.map (·.1) = kvs.map (·.1)) (r : Reps K pi n H (kvs.map (·.2)) (ks.map (·.2))) (k : κ) {d : D} {v : V} (rv : Rep K pi n H d v) :
    (putK ks k v).map (·.1) = (setK kvs k d).map (·.1) ∧ Reps K pi n H ((setK kvs k d).map (·.2)) ((putK ks k v).map (·.2)) := by
  have hany : (ks.any fun kv => decide (kv.1 = k)) = kvs.any fun kv => decide (kv.1 = k) := by
    have e1 : (ks.any fun kv => decide (kv.1 = k)) = (ks.map (·.1)).any fun z => decide (z = k) := by rw [List.any_map]; rfl
    have e2 : (kvs.any fun kv => decide (kv.1 = k)) = (kvs.map (·.1)).any fun z => decide (z = k) := by rw [List.any_map]; rfl
    rw [e1, e2, h]
  unfold putK setK
  rw [hany]
  split
  · rename_i hx
    clear hx hany
    induction kvs generalizing ks with
    | nil => cases ks with | nil => exact ⟨rfl, .nil⟩ | cons a b => cases h
    | cons a kvs ih =>
      cases ks with
      | nil => cases h
      | cons b ks =>
        simp only [List.map_cons, List.cons.injEq] at h
        cases r with
        | cons r s =>
          obtain ⟨i1, i2⟩ := ih h.2 s
          simp only [List.map_cons, List.cons.injEq]
          rw [h.1]
          by_cases e : a.1 = k
          · simp only [e, if_true]; exact ⟨⟨trivial, i1⟩, .cons rv i2⟩
          · simp only [e, if_false]; exact ⟨⟨h.1, i1⟩, .cons r i2⟩
  · rw [List.map_append, List.map_append, List.map_append, List.map_append, h]
    exact ⟨rfl, r.append (.cons rv .nil)⟩
theorem Post.put1 {K : PySem.W.Frag} {p : Nat → Addr} {S : Hs} {H : Hp} {i : Nat} {o : O} {u : HO} {Q : Unit → Hs → (Nat → Addr) → Hp → Prop} (h : Post K E S.length p H (.ok () (S.set i o)) Q) (R : Real K p S H) (hi : i < S.length)
    (ro : RO K p S.length (upd H (p i) u) (p i) o) : Q () (S.set i o) p (upd H (p i) u) := by
  have e : (S.set i o).length = S.length := by simp
  exact Post.ok h (by rw [e]; exact ext_upd (R.notup hi)) (R.put hi ro)
theorem ok_set {K : PySem.W.Frag} {p : Nat → Addr} {S : Hs} {H : Hp} {x y d : D} {v u w : V} {Q : Hp → Prop} {QQ : Unit → Hs → (Nat → Addr) → Hp → Prop} (R : Real K p S H) (rx : Rep K p S.length H x v) (ry : Rep K p S.length H y u) (rd : Rep K p S.length H d w)
    (h : Post K E S.length p H (oSet x y d S) QQ) (hq : ∀ S1 H1, Ext S.length S1.length p p H H1 → Real K p S1 H1 → QQ () S1 p H1 → Q H1) : rSetA v u w H Q := by
  have fin : ∀ {i : Nat} {o : O} {z : HO}, i < S.length → Post K E S.length p H (.ok () (S.set i o)) QQ → RO K p S.length (upd H (p i) z) (p i) o → Q (upd H (p i) z) := fun {i o z} hi h ro =>
    hq _ _ (by rw [List.length_set]; exact ext_upd (R.notup hi)) (R.put hi ro) (h.put1 R hi ro)
  unfold oSet at h
  split at h
  · split at h
    · rename_i q
      split at h
      · split at h
        · rename_i j e
          obtain ⟨vs, h1, r⟩ := R.lst q
          cases rx; cases ry
          refine .inl ⟨_, vs, _, j, rfl, rfl, h1, by rw [← r.len]; exact e, fin (Real.lt q) h ⟨_, upd_same, ?_⟩⟩
          exact (r.ext (ext_upd (R.notup (Real.lt q))) _ _).set j (rd.ext (ext_upd (R.notup (Real.lt q))) _ _)
        · exact h.elim
      · exact h.elim
    · rename_i kvs q
      split at h
      · rename_i k ek
        split at h
        · rename_i hl
          obtain ⟨ks, h1, h2, h3⟩ := R.ob _ _ q
          have hlen : ks.length = kvs.length := by simpa using congrArg List.length h2
          cases rx
          have sv := setK_V (H := upd H (p _) (.dK (putK ks k w))) h2 (h3.ext (ext_upd (R.notup (Real.lt q))) _ _) k (rd.ext (ext_upd (R.notup (Real.lt q))) _ _)
          exact .inr ⟨_, _, rfl, .inl ⟨ks, k, h1, key_V ry ek, by rw [hlen]; exact hl, rfl⟩, fin (Real.lt q) h ⟨_, upd_same, sv.1, sv.2⟩⟩
        · exact h.elim
      · exact h.elim
    · rename_i kvs q
      split at h
      · rename_i k ek
        split at h
        · rename_i hl
          obtain ⟨ks, h1, h2, h3⟩ := R.ob _ _ q
          have hlen : ks.length = kvs.length := by simpa using congrArg List.length h2
          cases rx
          have sv := setK_V (H := upd H (p _) (.dT (putK ks k w))) h2 (h3.ext (ext_upd (R.notup (Real.lt q))) _ _) k (rd.ext (ext_upd (R.notup (Real.lt q))) _ _)
          unfold D.tkey at ek
          split at ek
          · cases ry with
            | @tup b _ us t r =>
            exact .inr ⟨_, _, rfl, .inr ⟨ks, k, b, h1, rfl, by rw [← keys_V r ek]; exact t, by rw [hlen]; exact hl, rfl⟩, fin (Real.lt q) h ⟨_, upd_same, sv.1, sv.2⟩⟩
          · cases ek
        · exact h.elim
      · exact h.elim
    · exact h.elim
  · exact h.elim
def gSb (f g : M) : MG := fun d l S => (f l S).bind fun x S1 => (g l S1).bind fun y S2 => (oSet x y d S2).bind fun _ S3 => .ok l S3
theorem g_sub {o i : Expr} {f g : M} (hu : X.A.units + 1 < cLine) (ho : EM X E o f) (hi : EM X E i g)
    (ha : ∀ v, assign (.Subscript o i pos) X.env v = (do
      let ov ← holding [v] (eval o X.env)
      let iv ← holding [v, ov] (eval i X.env)
      standAt pos
      holding [v, ov, iv] (setItem ov iv v)
      release [v, ov, iv] []) := by intro _; rfl) : GM X E (.Subscript o i pos) (gSb f g) :=
  ⟨(pg_sub ho.pe hi.pe (set_all hu) ha).weak fun v s H Q ⟨p, l, S, d, R, L, r, h⟩ => T.of R L h fun p1 S1 H1 x vx R1 x1 L1 r1 h1 => T.of R1 L1 h1 fun p2 S2 H2 y vy R2 x2 L2 r2 h2 =>
    ok_set R2 (r1.ext x2 _ _) r2 ((r.ext x1 _ _).ext x2 _ _) h2.bind fun S3 H3 x3 R3 q => Post.ok q Ext.refl R3 _ (L2.ext x3)⟩
/-- o[i] = v as a statement -/
theorem s_sub {o i e : Expr} {f g m : M} {pos' : Pos} (hu : X.A.units + 1 < cLine) (he : EM X E e m) (ho : EM X E o f) (hi : EM X E i g)
    (hs : swapsWithSole [Expr.Subscript o i pos'] e pos.line X.env = pure false := by rfl) (hw : swappedStores [Expr.Subscript o i pos'] e X.env = pure none := by rfl) (h1 : (assignEach [Expr.Subscript o i pos'] X.env).map (·.2) = [assign (Expr.Subscript o i pos') X.env] := by rfl)
    (ha : ∀ v, assign (.Subscript o i pos') X.env v = (do
      let ov ← holding [v] (eval o X.env)
      let iv ← holding [v, ov] (eval i X.env)
      standAt pos'
      holding [v, ov, iv] (setItem ov iv v)
      release [v, ov, iv] []) := by intro _; rfl) : SM X E (.Assign [.Subscript o i pos'] e pos) (mAsg m (gSb f g)) := s_asg he (g_sub hu ho hi ha) hs hw h1
/-! ### x op= e -/
abbrev rIAddA : R2 := orR (rI0 fun i j => .int (i + j)) (orR (fun x y H Q => ∃ i j, x = V.str i ∧ y = V.str j ∧ i.length + j.length ≤ sizeLine ∧ Q (V.str (i ++ j)) H) (rCatA X.K))
def mAug (i : Nat) (op : D → D → Hs → R D) (f : M) : MS := fun l S => match l[i]? with
  | some (some x) => (f l S).bind fun y S1 => (op x y S1).bind fun d S2 => .ok (.nx (l.set i (some d))) S2
  | _ => .bad
theorem s_aug {i : Nat} {x : Str} {e : Expr} {op : Operator} {r : R2} {o : D → D → Hs → R D} {f : M} {pos' : Pos} (ho : OpR X (inplaceOp op) r) (hk : OpOk X.K E r o) (hN : X.N.Nodup) (he : EM X E e f) (hi : X.N[i]? = some x := by rfl) (hx : L2.Loc X.env.scope x := by first | exact Or.inl rfl | exact Or.inr rfl)
    (hf : X.fn x = true ∨ X.env.scope.names.lookup x = some .local := by first | exact .inl rfl | exact .inr rfl | assumption) : SM X E (.AugAssign (.Name x pos') op e pos) (mAug i o f) :=
  ⟨(ps_aug (ti := r) hN hi hx he.pe ho hf).weak fun s H D0 ⟨p, l, S, R, L, h⟩ => by
    unfold mAug at h
    split at h
    · rename_i d e
      obtain ⟨v, h1, r1⟩ := L.get e
      refine ⟨v, h1, T.of R L h fun p1 S1 H1 d1 v1 R1 x1 L1 r2 h2 => hk p1 S1 H1 _ _ _ _ _ R1 (r1.ext x1 _ _) r2 (h2.bind.mono fun d3 S3 p3 H3 _ x3 R3 q v3 r3 => Post.nx q R3 ((L1.ext x3).set i r3))⟩
    · exact h.elim⟩
def oIAdd : D → D → Hs → R D
  | .int i, .int j, S => .ok (.int (i + j)) S
  | .str x, .str y, S => if x.length + y.length ≤ sizeLine then .ok (.str (x ++ y)) S else .bad
  | _, _, _ => .bad
abbrev rIAdd2 : R2 := orR (rI0 fun i j => .int (i + j)) (fun x y H Q => ∃ i j, x = V.str i ∧ y = V.str j ∧ i.length + j.length ≤ sizeLine ∧ Q (V.str (i ++ j)) H)
theorem ok_iadd {K : PySem.W.Frag} : OpOk K E rIAdd2 oIAdd := by
  intro p S H x y v u Q R rx ry h
  unfold oIAdd at h
  split at h
  · cases rx; cases ry; exact .inl ⟨_, _, rfl, rfl, h.val R (.int _)⟩
  · split at h
    · rename_i hl; cases rx; cases ry; exact .inr ⟨_, _, rfl, rfl, hl, h.val R (.str _)⟩
    · exact h.elim
  · exact h.elim
theorem ok_sub2 {K : PySem.W.Frag} : OpOk K E (rI0 fun i j => .int (i - j)) oSub := ok_I0 (fun _ _ _ => rfl) fun x y S h => by unfold oSub; split <;> first | rfl | exact (h _ _ rfl rfl).elim
theorem s_iadd {i : Nat} {x : Str} {e : Expr} {f : M} {pos' : Pos} (hN : X.N.Nodup) (he : EM X E e f) (hi : X.N[i]? = some x := by rfl) (hx : L2.Loc X.env.scope x := by first | exact Or.inl rfl | exact Or.inr rfl)
    (hf : X.fn x = true ∨ X.env.scope.names.lookup x = some .local := by first | exact .inl rfl | exact .inr rfl | assumption) : SM X E (.AugAssign (.Name x pos') .Add e pos) (mAug i oIAdd f) := s_aug (OpR.or iop_add iop_add_str) ok_iadd hN he hi hx hf
theorem s_isub {i : Nat} {x : Str} {e : Expr} {f : M} {pos' : Pos} (hN : X.N.Nodup) (he : EM X E e f) (hi : X.N[i]? = some x := by rfl) (hx : L2.Loc X.env.scope x := by first | exact Or.inl rfl | exact Or.inr rfl)
    (hf : X.fn x = true ∨ X.env.scope.names.lookup x = some .local := by first | exact .inl rfl | exact .inr rfl | assumption) : SM X E (.AugAssign (.Name x pos') .Sub e pos) (mAug i oSub f) := s_aug iop_sub ok_sub2 hN he hi hx hf
/-- d[k] op= e of a dict -/
def mAugD (op : D → D → Hs → R D) (f g h : M) : MS := fun l S => (f l S).bind fun x S1 => (g l S1).bind fun y S2 => match dGet x y S2 with
  | some (some z) => (h l S2).bind fun w S3 => (op z w S3).bind fun d S4 => if (match x with | .ref i => (match S4[i]? with | some (.lst _) => false | _ => true) | _ => true) = true then (oSet x y d S4).bind fun _ S5 => .ok (.nx l) S5 else .bad
  | _ => .bad
end
end Ly
set_option Elab.async false
set_option linter.all false
set_option maxRecDepth 100000
/-! enumerate and zip over lists and tuples -/
namespace LyI
open PySem PySem.Spec L2
open PyProof.Rows hiding St
def SqB (k : Bool) (K : PySem.W.Frag) (H : Hp) (a : Addr) (xs : List V) : Prop := match k with
  | true => SqL K H a xs
  | false => SqT K H a xs
def ItB (k : Bool) (h : Heap) (it a : Addr) (i : Nat) : Prop := match k with
  | true => h.IsListIter it a i
  | false => h.IsTupleIter it a i
def IsB (k : Bool) (h : Heap) (a : Addr) (items : Array Value) : Prop := match k with
  | true => h.IsList a items
  | false => h.IsTuple a items
def itO (k : Bool) (a : Addr) : Obj := match k with
  | true => { cls := .type "list_iterator", data := .fields #[.ref a, .int 0 0] }
  | false => { cls := .type "tuple_iterator", data := .fields #[.ref a, .int 0 0] }
theorem drawsB {prog : Program} {w : World} {A : Around} (k : Bool) (hh : A.handled = none) (it a : Addr) (hne : a ≠ it) (items : Array Value) :
    Draws prog w A it [it, a] items.size (fun i v => items[i]? = some v) (fun i h => ItB k h it a i ∧ IsB k h a items) := by
  cases k
  · exact .tuple hh it a hne items
  · exact .list hh it a hne items
theorem beginsB (k : Bool) (a : Addr) (items : Array Value) : Begins (.ref a) (itO k a) fun h => IsB k h a items := by
  cases k
  · exact begins_tuple a items
  · exact begins_list a items
theorem itB_new (k : Bool) {h : Heap} {it a : Addr} (e : h.get? it = some (itO k a)) : ItB k h it a 0 := by
  cases k
  · exact ⟨_, e, rfl, rfl⟩
  · exact ⟨_, e, rfl, rfl⟩
theorem ItB.at {k : Bool} {h h' : Heap} {it a : Addr} {i : Nat} (x : ItB k h it a i) (e : ∀ o, h.get? it = some o → h'.get? it = some o) : ItB k h' it a i := by
  cases k
  · exact Heap.IsTupleIter.at x e
  · exact Heap.IsListIter.at x e
theorem ItB.obj {k : Bool} {h : Heap} {it a : Addr} {i : Nat} (x : ItB k h it a i) : ∃ o, h.get? it = some o ∧ ∀ v, o.data ≠ .cell v := by
  cases k
  · obtain ⟨o, e, _, d⟩ := x; exact ⟨o, e, fun v q => by rw [d] at q; cases q⟩
  · obtain ⟨o, e, _, d⟩ := x; exact ⟨o, e, fun v q => by rw [d] at q; cases q⟩
section
variable {X : Cx} {pins : List (Addr × Obj)} {σ : St} {H : Hp} {s : Shared} {a : Addr} {xs ys : List V} {k : Bool}
theorem seqB (I : Inv X pins σ H s) (h : SqB k X.K H a xs) : ∃ its : List Value, Vals xs its ∧ IsB k s.heap a its.toArray ∧ a < s.heap.objs.size := by
  cases k
  · obtain ⟨its, r, p, _⟩ := I.tuple h
    obtain ⟨o, e, _⟩ := id p
    exact ⟨its, r, p, Heap.lt_size e⟩
  · obtain ⟨its, r, p, _⟩ := I.list h
    exact ⟨its, r, p.isList, p.lt⟩
theorem seqB_inj (I : Inv X pins σ H s) (h : SqB k X.K H a xs) (h' : SqB k X.K H a ys) : xs = ys := by
  cases k
  · exact I.tuple_inj h h'
  · exact I.list_inj h h'
end
/-! ### enumerate -/
def IteB (k : Bool) (K : PySem.W.Frag) (a : Addr) : It :=
  ⟨fun i H => ∃ (xs : List V) (x : V), SqB k K H a xs ∧ xs[i]? = some x, fun i H v H' => ∃ T x, v = .ref T ∧ H T = none ∧ H' = upd H T (.tup [.int (i : Nat), x]) ∧ ∀ xs, SqB k K H a xs → xs[i]? = some x, fun i H => ∃ xs : List V, SqB k K H a xs ∧ xs.length = i⟩
theorem turn_enumB {P : Program} {w : World} {K : PySem.W.Frag} {elts : List Expr} {kk : Nat} {tpos : Pos} (k : Bool) (a e it : Addr) :
    Turn P w K (.Tuple elts kk tpos) (IteB k K a) [e, it] e (fun i h => (∃ old, IsEnum h e it ((i : Nat) : Int) old) ∧ ItB k h it a i ∧ e ≠ it ∧ a ≠ it ∧ a ≠ e) where
  mem := by simp
  obj := fun i h st b hb => by
    obtain ⟨⟨old, he⟩, hi, _⟩ := st
    have e' : b = e ∨ b = it := by simpa using hb
    rcases e' with z | z
    · rw [z]; exact ⟨_, he, fun v q => nomatch q⟩
    · rw [z]; exact hi.obj
  keep := fun i h h' st k => let ⟨⟨old, he⟩, hi, hne⟩ := st; ⟨⟨old, k e (by simp) _ he⟩, hi.at fun o q => k it (by simp) o q, hne⟩
  item := by
    intro X hP hw hK hc i pins s σ H E I hf st hg
    subst hP hw hK
    obtain ⟨⟨old, he⟩, hit, hne, hai, hae⟩ := st
    obtain ⟨xs, x, hq, hx⟩ := hg
    obtain ⟨its, rv, p, hz⟩ := seqB I hq
    obtain ⟨u, hu, ru⟩ := rv.get hx
    have hel : e < s.heap.objs.size := Heap.lt_size he
    have hil : it < s.heap.objs.size := by obtain ⟨_, q, _⟩ := hit.obj; exact Heap.lt_size q
    have hlt : i < its.toArray.size := by
      obtain ⟨h1, _⟩ := List.getElem?_eq_some_iff.mp hu
      simpa using h1
    refine wpAny_pyNext_enum_itemD (drawsB k (by exact I.ok.hd hc) it a hai its.toArray) he ⟨hit, p⟩ hlt hne (by simp [hne, Ne.symm hae]) fun x' h' tk hx' ho hit' hT hsz hk => ?_
    have hxu : x' = u := by
      have : its[i]? = some x' := by simpa using hx'
      rw [hu] at this; cases this; rfl
    subst hxu
    refine ⟨_, rfl, wpAny_letOwnedTupleGo_enum (s := { s with heap := h', toks := tk + 1 }) ho fun h'' he' sb => ?_⟩
    have hT2 : h''.get? s.heap.objs.size = some { cls := .type "tuple", data := .seq #[.int i tk, x'] } := (sb.2 _ (Nat.ne_of_gt hel)).trans hT
    have new : ObjOk X.prog X.w (upd H s.heap.objs.size (.tup [.int (i : Nat), x])) h'' s.heap.objs.size (.tup [.int (i : Nat), x]) :=
      ⟨by show 2 ≤ sizeLine; decide, [.int i tk, x'], .cons ⟨_, rfl⟩ (.cons ru .nil), ⟨_, hT2, rfl, _, rfl⟩⟩
    have I1 : Inv X pins σ (upd H s.heap.objs.size (.tup [.int (i : Nat), x])) { s with heap := h'', toks := tk + 1 } :=
      I.turnedNew (ch := [e, it]) (fun b ob hb q => (sb.2 b (fun z => hb (by simp [z]))).trans (hk b ob (fun z => hb (by simp [z])) (fun z => hb (by simp [z])) q)) hf (Nat.le_refl _) new
    refine ⟨.ref s.heap.objs.size, _, I1, rfl, ⟨_, x, rfl, I.hok.fresh (Nat.le_refl _), rfl, fun ys hy => by rw [seqB_inj I hy hq]; exact hx⟩, ⟨⟨x', ?_⟩, hit'.1.at fun o q => (sb.2 it (Ne.symm hne)).trans q, hne, hai, hae⟩, fun b hb => ?_⟩
    · have e1 : ((i + 1 : Nat) : Int) = (i : Int) + 1 := by omega
      rw [e1]; exact he'
    · have hb' : b < s.heap.objs.size := by
        have e' : b = e ∨ b = it := by simpa using hb
        rcases e' with z | z
        · rw [z]; exact hel
        · rw [z]; exact hil
      rw [upd_ne (Nat.ne_of_lt hb')]
      exact (hf b hb).1
  done := by
    intro X hP hw hK hc i pins s σ H E I hf st hg
    subst hP hw hK
    obtain ⟨⟨old, he⟩, hit, hne, hai, hae⟩ := st
    obtain ⟨xs, hq, hx⟩ := hg
    obtain ⟨its, rv, p, hz⟩ := seqB I hq
    obtain ⟨f0, f1, f2, f3, f4, f5⟩ := hf it (by simp)
    have hl := rv.length
    have hi : i = its.toArray.size := by simp; omega
    subst hi
    exact wpAny_pyNext_enum_endD (drawsB k (by exact I.ok.hd hc) it a hai its.toArray) he ⟨hit, p⟩ fun h' eb => ⟨rfl, I.turned (t' := s.toks) (fun b o hb q => eb b o hb q) f0 f1 f3 f4 f5⟩
  self := fun A i s Q E st h => let ⟨⟨_, he⟩, _⟩ := st; wpAny_pyIter_enum he h
set_option maxHeartbeats 1000000 in
theorem meets_enumerate_newB0 {v : Value} {o : Obj} {H : Heap → Prop} (B : Begins v o H) :
    Meets (Builtin.«enumerate.__new__» ⟨[.type "enumerate", v], []⟩) (fun _ R s => H s.heap ∧
      R (.ok (.ret (.ref (s.heap.push o).objs.size))) { s with heap := (s.heap.push o).push { cls := .type "enumerate", data := .fields #[.none, .bool false, .ref s.heap.objs.size, rawInt 0, .none, .none] } }) :=
  .of_wp fun prog w A R s h => by
    obtain ⟨hp, g, d, tk, os⟩ := s; obtain ⟨h1, h⟩ := h
    have hsub := sub_enumerate
    have q1 : ∀ {A' : Around} {E : Value → Shared → Prop} {Q : Value → Shared → Prop}, Q (.ref hp.objs.size) ⟨hp.push o, g, d, tk, os⟩ → wpAny (model prog w) A' (pyIter v) Q E ⟨hp, g, d, tk, os⟩ :=
      fun q => B.iter prog w _ _ ⟨hp, g, d, tk, os⟩ _ h1 q
    wp_walk using q1
    refine wpAny_stack_any fun st => wpAny_pure ?_
    split
    · rename_i c _ _ _ _ _
      cases (c == Value.type "enumerate")
      · wp_walk using q1
        exact ⟨_, rfl, h⟩
      · wp_walk using q1
        exact ⟨_, rfl, h⟩
    · wp_walk using q1
      exact ⟨_, rfl, h⟩
theorem enum_begins0 {prog : Program} {w : World} {A : Around} {E : Value → Shared → Prop} {s : Shared} {v : Value} {o : Obj} {H : Heap → Prop} {Q : Value → Shared → Prop} (B : Begins v o H) (h1 : H s.heap)
    (h : ∀ h', IsEnum h' (s.heap.objs.size + 1) s.heap.objs.size 0 .none → h'.get? s.heap.objs.size = some o → h'.objs.size = s.heap.objs.size + 2 →
      (∀ b o, s.heap.get? b = some o → h'.get? b = some o) → Q (.ref (s.heap.objs.size + 1)) { s with heap := h' }) :
    wpAny (model prog w) A (call (.type "enumerate") [v]) Q E s := by
  refine callType_new F.called_enumerate (by decide) (F.typeCall_enumerate_1 _) (F.newCall_enumerate_1 _) (fun obj => F.args_object_init_2 obj _) F.entry_enumerate_new
    (meets_enumerate_newB0 B) ⟨h1, ?_⟩
  have hz : (s.heap.push o).objs.size = s.heap.objs.size + 1 := Heap.size_push ..
  show _ ∧ _
  rw [hz]
  have he : IsEnum ((s.heap.push o).push { cls := .type "enumerate", data := .fields #[.none, .bool false, .ref s.heap.objs.size, rawInt 0, .none, .none] }) (s.heap.objs.size + 1) s.heap.objs.size 0 .none := by
    have := Heap.get?_push_size (s.heap.push o) (o := { cls := .type "enumerate", data := .fields #[.none, .bool false, .ref s.heap.objs.size, rawInt 0, .none, .none] }) rfl
    rw [hz] at this; exact this
  refine ⟨⟨_, he, rfl⟩, h _ he (Heap.get?_push_of_some _ (Heap.get?_push_size _ B.free)) (by rw [Heap.size_push, hz]) fun b o x => Heap.get?_push_of_some _ (Heap.get?_push_of_some _ x)⟩
def iEnumB (K : PySem.W.Frag) (ta : TA) : TI := fun σ H R => ta σ H fun vs H1 => ∃ k a xs, vs = [.ref a] ∧ SqB k K H1 a xs ∧ R (IteB k K a) H1
theorem pi_enumB {X : Cx} {e : Expr} {ta : TA} {p pos tpos : Pos} {elts : List Expr} {kk : Nat} (hg : Gl X "enumerate") (hm : X.mg "enumerate" = none) (ha : PA X [e] ta) (hs : starEach [e] X.env = [(false, eval e X.env)] := by rfl) :
    PI X (.Tuple elts kk tpos) (.Call (.Name "enumerate" p) [e] [] pos) (iEnumB X.K ta) := by
  refine ⟨fun pins s σ H R I h => ?_⟩
  refine Call_ (ld_blt I hg hm boot_enumerate (PyProof.Rows.callWith_type1 (thn (ha.run pos pins s σ H _ I h) fun us s1 ⟨vs, H1, I1, r1, q1⟩ => ?_) hs rfl))
  obtain ⟨k, a, xs, ex, hq, q⟩ := q1
  subst ex
  cases r1 with
  | cons r rr =>
    cases rr
    cases r
    obtain ⟨its, rv, p', hz⟩ := seqB I1 hq
    refine enum_begins0 (beginsB k a its.toArray) p' fun h' he hit hsz hk => wpAny_pyIter_enum he ?_
    have I2 : Inv X pins σ H1 { s1 with heap := h' } := I1.kept (t' := s1.toks) hk
    refine ⟨s1.heap.objs.size + 1, [s1.heap.objs.size + 1, s1.heap.objs.size], _, _, H1, rfl, I2, turn_enumB k a (s1.heap.objs.size + 1) s1.heap.objs.size, ⟨⟨.none, he⟩, itB_new k hit, Nat.succ_ne_self _, Nat.ne_of_lt hz, Nat.ne_of_lt (Nat.lt_succ_of_lt hz)⟩, fun b hb => ?_, q⟩
    have e' : b = s1.heap.objs.size + 1 ∨ b = s1.heap.objs.size := by simpa using hb
    have hle : s1.heap.objs.size ≤ b := by
      rcases e' with z | z
      · rw [z]; exact Nat.le_add_right _ _
      · rw [z]; exact Nat.le_refl _
    exact I1.fpOk hle (I1.hok.fresh hle)
/-! ### zip of two -/
def ItzB (k1 k2 : Bool) (K : PySem.W.Frag) (a b : Addr) : It :=
  ⟨fun i H => ∃ (xs ys : List V) (x y : V), SqB k1 K H a xs ∧ SqB k2 K H b ys ∧ xs[i]? = some x ∧ ys[i]? = some y,
    fun i H v H' => ∃ T x y, v = .ref T ∧ H T = none ∧ H' = upd H T (.tup [x, y]) ∧ (∀ xs, SqB k1 K H a xs → xs[i]? = some x) ∧ ∀ ys, SqB k2 K H b ys → ys[i]? = some y,
    fun i H => ∃ xs ys : List V, SqB k1 K H a xs ∧ SqB k2 K H b ys ∧ i ≤ xs.length ∧ i ≤ ys.length ∧ (xs.length = i ∨ ys.length = i)⟩
theorem turn_zipB {P : Program} {w : World} {K : PySem.W.Frag} {elts : List Expr} {kk : Nat} {tpos : Pos} (k1 k2 : Bool) {a b z TI TO i1 i2 : Addr} (D : ZipApart z TI TO i1 i2 a b) (D2 : ZipApart z TI TO i2 i1 b a) :
    Turn P w K (.Tuple elts kk tpos) (ItzB k1 k2 K a b) [z, TI, TO, i1, i2] z (fun i h => IsZip h z TI TO .none ∧ IsTupOf2 h TI (.ref i1) (.ref i2) ∧ (∃ x y, IsTupOf2 h TO x y) ∧ ItB k1 h i1 a i ∧ ItB k2 h i2 b i) where
  mem := by simp
  obj := fun i h st c hc => by
    obtain ⟨hz, hTI, ⟨x, y, hTO⟩, h1, h2⟩ := st
    have e' : c = z ∨ c = TI ∨ c = TO ∨ c = i1 ∨ c = i2 := by simpa using hc
    rcases e' with q | q | q | q | q
    · rw [q]; exact ⟨_, hz, fun v q => nomatch q⟩
    · rw [q]; exact ⟨_, hTI, fun v q => nomatch q⟩
    · rw [q]; exact ⟨_, hTO, fun v q => nomatch q⟩
    · rw [q]; exact h1.obj
    · rw [q]; exact h2.obj
  keep := fun i h h' st k => by
    obtain ⟨hz, hTI, ⟨x, y, hTO⟩, h1, h2⟩ := st
    exact ⟨k z (by simp) _ hz, k TI (by simp) _ hTI, ⟨x, y, k TO (by simp) _ hTO⟩, h1.at fun o q => k i1 (by simp) o q, h2.at fun o q => k i2 (by simp) o q⟩
  item := by
    intro X hP hw hK hc i pins s σ H E I hf st hg
    subst hP hw hK
    obtain ⟨hz, hTI, ⟨x0, y0, hTO⟩, h1, h2⟩ := st
    obtain ⟨xs, ys, x, y, hqx, hqy, hx, hy⟩ := hg
    obtain ⟨its, rv, p, _⟩ := seqB I hqx
    obtain ⟨its2, rv2, p2, _⟩ := seqB I hqy
    obtain ⟨u, hu, ru⟩ := rv.get hx
    obtain ⟨u2, hu2, ru2⟩ := rv2.get hy
    have hzl : z < s.heap.objs.size := Heap.lt_size hz
    have S : ZipSep2 z TI TO i1 i2 [i1, a] [i2, b] := ⟨D.TIz, D.TOz, D.TITO, D.TIi1, by simp, by simp [Ne.symm D.i1z, Ne.symm D.l1z], by simp [D.TOi1, Ne.symm D.l1TO], D.TIi2, by simp, by simp [Ne.symm D.i2z, Ne.symm D2.l1z], by simp [D.TOi2, Ne.symm D2.l1TO], by simp [D.i12, Ne.symm D2.l1i2], by simp [Ne.symm D.i12, Ne.symm D.l1i2]⟩
    refine wpAny_pyNext_zipD2_item S (drawsB k1 (by exact I.ok.hd hc) i1 a D.l1i1 its.toArray) (drawsB k2 (by exact I.ok.hd hc) i2 b D2.l1i1 its2.toArray) hz hTI hTO ⟨h1, p⟩ ⟨h2, p2⟩
      (by obtain ⟨q, _⟩ := List.getElem?_eq_some_iff.mp hu; simpa using q) (by obtain ⟨q, _⟩ := List.getElem?_eq_some_iff.mp hu2; simpa using q) fun x' y' h' tk hx' hy' z' TO' h1' h2' hT hsz hk => ?_
    have hxu : x' = u := by
      have : its[i]? = some x' := by simpa using hx'
      rw [hu] at this; cases this; rfl
    have hyu : y' = u2 := by
      have : its2[i]? = some y' := by simpa using hy'
      rw [hu2] at this; cases this; rfl
    subst hxu hyu
    refine ⟨_, rfl, wpAny_letOwnedTupleGo_zip (s := { s with heap := h', toks := tk }) z' fun h'' z'' sb => ?_⟩
    have hT2 : h''.get? s.heap.objs.size = some { cls := .type "tuple", data := .seq #[x', y'] } := (sb.2 _ (Nat.ne_of_gt hzl)).trans hT
    have new : ObjOk X.prog X.w (upd H s.heap.objs.size (.tup [x, y])) h'' s.heap.objs.size (.tup [x, y]) :=
      ⟨by show 2 ≤ sizeLine; decide, [x', y'], .cons ru (.cons ru2 .nil), ⟨_, hT2, rfl, _, rfl⟩⟩
    have I1 : Inv X pins σ (upd H s.heap.objs.size (.tup [x, y])) { s with heap := h'', toks := tk } :=
      I.turnedNew (ch := [z, TI, TO, i1, i2]) (fun c o hb q => (sb.2 c (fun q' => hb (by simp [q']))).trans (hk c o (fun q' => hb (by simp [q'])) (fun q' => hb (by simp [q'])) (fun q' => hb (by simp [q'])) (fun q' => hb (by simp [q'])) q)) hf (Nat.le_refl _) new
    refine ⟨.ref s.heap.objs.size, _, I1, rfl, ⟨_, x, y, rfl, I.hok.fresh (Nat.le_refl _), rfl, fun l hl => by rw [seqB_inj I hl hqx]; exact hx, fun l hl => by rw [seqB_inj I hl hqy]; exact hy⟩, ⟨z'', ?_, ⟨x', y', ?_⟩, ?_, ?_⟩, fun c hcm => ?_⟩
    · exact (sb.2 _ D.TIz).trans (hk _ _ D.TIz D.TITO D.TIi1 D.TIi2 hTI)
    · exact (sb.2 _ D.TOz).trans TO'
    · exact h1'.1.at fun o q => (sb.2 _ D.i1z).trans q
    · exact h2'.1.at fun o q => (sb.2 _ D.i2z).trans q
    · have hlt : c < s.heap.objs.size := by
        have e' : c = z ∨ c = TI ∨ c = TO ∨ c = i1 ∨ c = i2 := by simpa using hcm
        rcases e' with q | q | q | q | q
        · rw [q]; exact hzl
        · rw [q]; exact Heap.lt_size hTI
        · rw [q]; exact Heap.lt_size hTO
        · rw [q]; obtain ⟨_, e1, _⟩ := h1.obj; exact Heap.lt_size e1
        · rw [q]; obtain ⟨_, e2, _⟩ := h2.obj; exact Heap.lt_size e2
      rw [upd_ne (Nat.ne_of_lt hlt)]
      exact (hf c hcm).1
  done := by
    intro X hP hw hK hc i pins s σ H E I hf st hg
    subst hP hw hK
    obtain ⟨hz, hTI, ⟨x0, y0, hTO⟩, h1, h2⟩ := st
    obtain ⟨xs, ys, hqx, hqy, hl1, hl2, hend⟩ := hg
    obtain ⟨its, rv, p, _⟩ := seqB I hqx
    obtain ⟨its2, rv2, p2, _⟩ := seqB I hqy
    have l1 := rv.length
    have l2 := rv2.length
    have S : ZipSep2 z TI TO i1 i2 [i1, a] [i2, b] := ⟨D.TIz, D.TOz, D.TITO, D.TIi1, by simp, by simp [Ne.symm D.i1z, Ne.symm D.l1z], by simp [D.TOi1, Ne.symm D.l1TO], D.TIi2, by simp, by simp [Ne.symm D.i2z, Ne.symm D2.l1z], by simp [D.TOi2, Ne.symm D2.l1TO], by simp [D.i12, Ne.symm D2.l1i2], by simp [Ne.symm D.i12, Ne.symm D.l1i2]⟩
    refine wpAny_pyNext_zipD2_end S (drawsB k1 (by exact I.ok.hd hc) i1 a D.l1i1 its.toArray) (drawsB k2 (by exact I.ok.hd hc) i2 b D2.l1i1 its2.toArray) hz hTI hTO ⟨h1, p⟩ ⟨h2, p2⟩
      (by simp; omega) (by simp; omega) (by rcases hend with q | q <;> simp <;> omega) fun h' tk hk => ⟨rfl, I.turnedL (t' := tk) (ch := [z, TI, TO, i1, i2]) (fun c o hb q =>
      hk c o (fun q' => hb (by simp [q'])) (fun q' => hb (by simp [q'])) (fun q' => hb (by simp [q'])) (fun q' => hb (by simp [q'])) q) hf⟩
  self := fun A i s Q E st h => wpAny_pyIter_zip st.1 h
def iZipB (K : PySem.W.Frag) (ta : TA) : TI := fun σ H R => ta σ H fun vs H1 => ∃ k1 k2 a b xs ys, vs = [.ref a, .ref b] ∧ SqB k1 K H1 a xs ∧ SqB k2 K H1 b ys ∧ R (ItzB k1 k2 K a b) H1
theorem pi_zipB {X : Cx} {e e2 : Expr} {ta : TA} {p pos tpos : Pos} {elts : List Expr} {kk : Nat} (hg : Gl X "zip") (hm : X.mg "zip" = none) (ha : PA X [e, e2] ta)
    (hs : starEach [e, e2] X.env = (false, eval e X.env) :: starEach [e2] X.env := by rfl) (hpl : (backTo pos (starEach [e2] X.env)).any (·.1) = false := by rfl) :
    PI X (.Tuple elts kk tpos) (.Call (.Name "zip" p) [e, e2] [] pos) (iZipB X.K ta) := by
  refine ⟨fun pins s σ H R I h => ?_⟩
  refine Call_ (ld_blt I hg hm PyProof.Rows.boot_zip (PyProof.Rows.callWith_type1 (thn (ha.run pos pins s σ H _ I h) fun us s1 ⟨vs, H1, I1, r1, q1⟩ => ?_) hs hpl))
  obtain ⟨k1, k2, a, b, xs, ys, ex, hqx, hqy, q⟩ := q1
  subst ex
  cases r1 with
  | cons r rr =>
    cases rr with
    | cons r' rr =>
      cases rr
      cases r
      cases r'
      have fresh5 : ∀ c, c ∈ [s1.heap.objs.size + 4, s1.heap.objs.size + 2, s1.heap.objs.size + 3, s1.heap.objs.size, s1.heap.objs.size + 1] → FpOk X pins H1 c := fun c hcm => by
        have hle : s1.heap.objs.size ≤ c := by
          simp only [List.mem_cons, List.not_mem_nil, or_false] at hcm
          omega
        exact I1.fpOk hle (I1.hok.fresh hle)
      obtain ⟨its, rv, p1, l1⟩ := seqB I1 hqx
      obtain ⟨its2, rv2, p2, l2⟩ := seqB I1 hqy
      refine zip_begins2 (beginsB k1 a its.toArray) (beginsB k2 b its2.toArray) p1 p2 fun h' hz hTI hTO h1 h2 hsz hk => wpAny_pyIter_zip hz ?_
      have I2 : Inv X pins σ H1 { s1 with heap := h' } := I1.kept (t' := s1.toks) hk
      have D : ZipApart (s1.heap.objs.size + 4) (s1.heap.objs.size + 2) (s1.heap.objs.size + 3) s1.heap.objs.size (s1.heap.objs.size + 1) a b := PySem.W.ktu_apart s1.heap.objs.size a b l1 l2
      have D2 : ZipApart (s1.heap.objs.size + 4) (s1.heap.objs.size + 2) (s1.heap.objs.size + 3) (s1.heap.objs.size + 1) s1.heap.objs.size b a := ⟨D.TIz, D.TOz, D.i2z, D.i1z, D.TITO, D.TIi2, D.TIi1, D.TOi2, D.TOi1, D.i12.symm, D.l2z, D.l2TO, D.l2i2, D.l2i1, D.l1z, D.l1TO, D.l1i2, D.l1i1⟩
      exact ⟨s1.heap.objs.size + 4, [s1.heap.objs.size + 4, s1.heap.objs.size + 2, s1.heap.objs.size + 3, s1.heap.objs.size, s1.heap.objs.size + 1], _, _, H1, rfl, I2, turn_zipB k1 k2 D D2, ⟨hz, hTI, ⟨_, _, hTO⟩, itB_new k1 h1, itB_new k2 h2⟩, fresh5, q⟩
end LyI
set_option Elab.async false
set_option linter.all false
set_option maxRecDepth 100000
namespace Ly
open PySem PySem.Spec L2
open PyProof.Rows hiding St
/-! ### what a loop goes over -/
/-- a list of the store, or a tuple -/
inductive Sq where
  | l (i : Nat) | t (ds : List D)
inductive J where
  | tup (ds : List D) | lst (i : Nat) | rng (lo : Int) (n : Nat) | str (x : Str) | enum (s : Sq) | zip (s t : Sq) | cnt (lo c : Int) (n : Nat) | rev (s : Sq) (n : Nat)
def seqAt (S : Hs) (i : Nat) : Option (List D) := seqD (.ref i) S
def Sq.at (S : Hs) : Sq → Option (List D)
  | .l i => seqAt S i
  | .t ds => some ds
def sqOf (x : D) (S : Hs) : Option Sq := match x with
  | .ref i => (seqAt S i).map fun _ => .l i
  | .tup ds => some (.t ds)
  | .wt ds => some (.t ds)
  | _ => none
def SqR (K : PySem.W.Frag) (p : Nat → Addr) (n : Nat) (H : Hp) : Sq → Bool → Addr → Prop
  | .l i, k, a => i < n ∧ k = true ∧ a = p i
  | .t ds, k, a => k = false ∧ ∃ vs, (H a = some (.tup vs) ∨ Wt K a vs) ∧ Reps K p n H ds vs
/-- at the turn k: nothing is said; the end; an item -/
def itGo (j : J) (k : Nat) (S : Hs) : Option (Option D) := match j with
  | .tup ds => some ds[k]?
  | .lst i => (seqAt S i).map (·[k]?)
  | .rng lo n => some (if k < n then some (.int (lo + k)) else none)
  | .str x => some (x.cps[k]?.map fun c => .str ⟨#[c]⟩)
  | .cnt lo c n => some (if k < n then some (.int (lo + k * c)) else none)
  | .enum s => (s.at S).bind fun ds => if k ≤ ds.length then some (ds[k]?.map fun d => .tup [.int k, d]) else none
  | .zip a b => match a.at S, b.at S with
    | some xs, some ys => if k ≤ xs.length ∧ k ≤ ys.length then some (match xs[k]?, ys[k]? with
      | some x, some y => some (.tup [x, y])
      | _, _ => none) else none
    | _, _ => none
  | .rev s n => (s.at S).bind fun ds => if ds.length = n then some (if k < n then ds[n - 1 - k]? else none) else none
/-- what it stands for -/
def JRel (K : PySem.W.Frag) (p : Nat → Addr) (n : Nat) (H : Hp) : J → It → Prop
  | .tup ds, I => ∃ a vs, Rep K p n H (.tup ds) (.ref a) ∧ (H a = some (.tup vs) ∧ Reps K p n H ds vs) ∧ I = Itt K a ∨ Rep K p n H (.wt ds) (.ref a) ∧ (Wt K a vs ∧ Reps K p n H ds vs) ∧ I = Itt K a
  | .lst i, I => i < n ∧ I = Itl K (p i)
  | .rng lo m, I => I = Itr lo m
  | .str x, I => I = Its x
  | .cnt lo c m, I => I = Itc lo c m
  | .enum s, I => ∃ k a, SqR K p n H s k a ∧ I = LyI.IteB k K a
  | .zip s t, I => ∃ k1 a k2 b, SqR K p n H s k1 a ∧ SqR K p n H t k2 b ∧ I = LyI.ItzB k1 k2 K a b
  | .rev s m, I => ∃ b a, SqR K p n H s b a ∧ I = (if b = true then Itv K a m else RT.ItvT K a m)
section
variable {K : PySem.W.Frag} {E : St → XK} {p q : Nat → Addr} {n m : Nat} {H H' : Hp} {S : Hs} {j : J} {I : It} {k : Nat}
theorem SqR.ext {s : Sq} {k : Bool} {a : Addr} (h : SqR K p n H s k a) (x : Ext n m p q H H') : SqR K q m H' s k a := by
  cases s with
  | l i => obtain ⟨h1, h2, h3⟩ := h; exact ⟨Nat.lt_of_lt_of_le h1 x.le, h2, by rw [x.ag i h1]; exact h3⟩
  | t ds =>
    obtain ⟨h1, vs, h2, h3⟩ := h
    refine ⟨h1, vs, ?_, h3.ext x _ _⟩
    rcases h2 with h2 | h2
    · exact .inl (x.tp _ _ h2)
    · exact .inr h2
theorem JRel.ext (h : JRel K p n H j I) (x : Ext n m p q H H') : JRel K q m H' j I := by
  cases j with
  | tup ds =>
    obtain ⟨a, vs, h⟩ := h
    rcases h with ⟨h1, ⟨h2, h3⟩, h4⟩ | ⟨h1, ⟨h2, h3⟩, h4⟩
    · exact ⟨a, vs, .inl ⟨h1.ext x _ _, ⟨x.tp _ _ h2, h3.ext x _ _⟩, h4⟩⟩
    · exact ⟨a, vs, .inr ⟨h1.ext x _ _, ⟨h2, h3.ext x _ _⟩, h4⟩⟩
  | lst i => obtain ⟨h1, h2⟩ := h; exact ⟨Nat.lt_of_lt_of_le h1 x.le, by rw [x.ag i h1]; exact h2⟩
  | rng lo m => exact h
  | str z => exact h
  | cnt lo c m => exact h
  | enum s => obtain ⟨k, a, h1, h2⟩ := h; exact ⟨k, a, h1.ext x, h2⟩
  | zip s t => obtain ⟨k1, a, k2, b, h1, h2, h3⟩ := h; exact ⟨k1, a, k2, b, h1.ext x, h2.ext x, h3⟩
  | rev s n => obtain ⟨b, a, h1, h2⟩ := h; exact ⟨b, a, h1.ext x, h2⟩
theorem seqAt_V {i : Nat} {ds : List D} (R : Real K p S H) (h : seqAt S i = some ds) : ∃ vs, SqL K H (p i) vs ∧ Reps K p S.length H ds vs := by
  have hi : i < S.length := by
    unfold seqAt seqD at h
    simp only at h
    split at h
    · rename_i q; exact Real.lt q
    · rename_i q; exact Real.lt q
    · cases h
  obtain ⟨a, vs, e, h1, r⟩ := seq_V R (.ref hi) h
  cases e
  exact ⟨vs, h1, r⟩
theorem SqR.seq {s : Sq} {b : Bool} {a : Addr} {ds : List D} (R : Real K p S H) (h : SqR K p S.length H s b a) (e : s.at S = some ds) : ∃ vs, LyI.SqB b K H a vs ∧ Reps K p S.length H ds vs := by
  cases s with
  | l i =>
    obtain ⟨h1, rfl, rfl⟩ := h
    obtain ⟨vs, hs, r⟩ := seqAt_V R e
    exact ⟨vs, hs, r⟩
  | t es =>
    obtain ⟨rfl, vs, h2, h3⟩ := h
    cases e
    refine ⟨vs, ?_, h3⟩
    rcases h2 with h2 | h2
    · exact SqT.of h2
    · exact h2.sq
theorem sqOf_R {x : D} {v : V} {s : Sq} (R : Real K p S H) (r : Rep K p S.length H x v) (h : sqOf x S = some s) : ∃ b a ds, v = .ref a ∧ SqR K p S.length H s b a ∧ s.at S = some ds := by
  cases x with
  | ref i =>
    simp only [sqOf, Option.map_eq_some_iff] at h
    obtain ⟨ds, e, rfl⟩ := h
    cases r with
    | ref hi => exact ⟨true, _, ds, rfl, ⟨hi, rfl, rfl⟩, e⟩
  | tup ds =>
    cases h
    cases r with
    | tup t r => exact ⟨false, _, ds, rfl, ⟨rfl, _, .inl t, r⟩, rfl⟩
  | wt ds =>
    cases h
    cases r with
    | wt t r => exact ⟨false, _, ds, rfl, ⟨rfl, _, .inr t, r⟩, rfl⟩
  | _ => cases h
theorem Reps.none {ds : List D} {vs : List V} (r : Reps K p n H ds vs) (e : ds[k]? = none) : vs.length ≤ k := by
  rw [← r.len]; exact List.getElem?_eq_none_iff.mp e
theorem it_stop (R : Real K p S H) (h : JRel K p S.length H j I) (e : itGo j k S = some none) : I.stop k H := by
  cases j with
  | tup ds =>
    obtain ⟨a, vs, h⟩ := h
    simp only [itGo, Option.some.injEq] at e
    rcases h with ⟨h1, ⟨h2, h3⟩, rfl⟩ | ⟨h1, ⟨h2, h3⟩, rfl⟩
    · exact ⟨vs, SqT.of h2, h3.none e⟩
    · exact ⟨vs, h2.sq, h3.none e⟩
  | lst i =>
    obtain ⟨h1, rfl⟩ := h
    simp only [itGo, Option.map_eq_some_iff] at e
    obtain ⟨ds, e, e2⟩ := e
    obtain ⟨vs, hs, r⟩ := seqAt_V R e
    exact ⟨vs, hs, r.none e2⟩
  | rng lo m =>
    cases h
    simp only [itGo, Option.some.injEq] at e
    split at e
    · cases e
    · rename_i hk; exact Nat.le_of_not_lt hk
  | str x =>
    cases h
    simp only [itGo, Option.some.injEq, Option.map_eq_none_iff] at e
    exact Array.getElem?_eq_none_iff.mp e
  | cnt lo c m =>
    cases h
    simp only [itGo, Option.some.injEq] at e
    split at e
    · cases e
    · rename_i hk; exact Nat.le_of_not_lt hk
  | enum s =>
    obtain ⟨b, a, h1, rfl⟩ := h
    simp only [itGo, Option.bind_eq_some_iff] at e
    obtain ⟨ds, e, e2⟩ := e
    obtain ⟨vs, hs, r⟩ := h1.seq R e
    split at e2
    · rename_i hk
      simp only [Option.some.injEq, Option.map_eq_none_iff, List.getElem?_eq_none_iff] at e2
      exact ⟨vs, hs, by rw [← r.len]; omega⟩
    · cases e2
  | zip s t =>
    obtain ⟨b1, a, b2, b, h1, h2, rfl⟩ := h
    simp only [itGo] at e
    split at e
    · rename_i xs ys e1 e2
      obtain ⟨vs, hs, r⟩ := h1.seq R e1
      obtain ⟨us, hs', r'⟩ := h2.seq R e2
      split at e
      · rename_i hk
        simp only [Option.some.injEq] at e
        have l1 := r.len
        have l2 := r'.len
        refine ⟨vs, us, hs, hs', by omega, by omega, ?_⟩
        split at e
        · cases e
        · rename_i hno
          cases q1 : xs[k]? with
          | none => have := List.getElem?_eq_none_iff.mp q1; exact .inl (by omega)
          | some x =>
            cases q2 : ys[k]? with
            | none => have := List.getElem?_eq_none_iff.mp q2; exact .inr (by omega)
            | some y => exact (hno x y q1 q2).elim
      · cases e
    · cases e
  | rev s n =>
    obtain ⟨b, a, h1, rfl⟩ := h
    simp only [itGo, Option.bind_eq_some_iff] at e
    obtain ⟨ds, e, e2⟩ := e
    have hn : n ≤ k := by
      split at e2
      · rename_i hl
        simp only [Option.some.injEq] at e2
        split at e2
        · rename_i hk
          have := List.getElem?_eq_none_iff.mp e2
          omega
        · omega
      · cases e2
    cases b
    · exact hn
    · exact hn
theorem it_go (R : Real K p S H) (h : JRel K p S.length H j I) {d : D} (e : itGo j k S = some (some d)) :
    I.go k H ∧ ∀ x H', I.yld k H x H' → Ext S.length S.length p p H H' ∧ Real K p S H' ∧ Rep K p S.length H' d x := by
  cases j with
  | tup ds =>
    obtain ⟨a, vs, h⟩ := h
    simp only [itGo, Option.some.injEq] at e
    rcases h with ⟨h1, ⟨h2, h3⟩, rfl⟩ | ⟨h1, ⟨h2, h3⟩, rfl⟩
    · obtain ⟨v, e2, r⟩ := h3.get e
      refine ⟨⟨vs, v, SqT.of h2, e2⟩, fun x H' y => ?_⟩
      obtain ⟨rfl, y⟩ := y
      have := (y vs (SqT.of h2)).symm.trans e2
      cases this
      exact ⟨Ext.refl, R, r⟩
    · obtain ⟨v, e2, r⟩ := h3.get e
      refine ⟨⟨vs, v, h2.sq, e2⟩, fun x H' y => ?_⟩
      obtain ⟨rfl, y⟩ := y
      have := (y vs h2.sq).symm.trans e2
      cases this
      exact ⟨Ext.refl, R, r⟩
  | lst i =>
    obtain ⟨h1, rfl⟩ := h
    simp only [itGo, Option.map_eq_some_iff] at e
    obtain ⟨ds, e, e2⟩ := e
    obtain ⟨vs, hs, r⟩ := seqAt_V R e
    obtain ⟨v, e3, r3⟩ := r.get e2
    refine ⟨⟨vs, v, hs, e3⟩, fun x H' y => ?_⟩
    obtain ⟨rfl, y⟩ := y
    have := (y vs hs).symm.trans e3
    cases this
    exact ⟨Ext.refl, R, r3⟩
  | rng lo m =>
    cases h
    simp only [itGo, Option.some.injEq] at e
    split at e
    · rename_i hk
      cases e
      refine ⟨hk, fun x H' y => ?_⟩
      obtain ⟨rfl, rfl⟩ := y
      exact ⟨Ext.refl, R, .int _⟩
    · cases e
  | str z =>
    cases h
    simp only [itGo, Option.some.injEq, Option.map_eq_some_iff] at e
    obtain ⟨c, e, rfl⟩ := e
    refine ⟨(Array.getElem?_eq_some_iff.mp e).1, fun x H' y => ?_⟩
    obtain ⟨rfl, c', e', rfl⟩ := y
    rw [e] at e'; cases e'
    exact ⟨Ext.refl, R, .str _⟩
  | cnt lo c m =>
    cases h
    simp only [itGo, Option.some.injEq] at e
    split at e
    · rename_i hk
      cases e
      refine ⟨hk, fun x H' y => ?_⟩
      obtain ⟨rfl, rfl⟩ := y
      exact ⟨Ext.refl, R, .int _⟩
    · cases e
  | enum s =>
    obtain ⟨b, a, h1, rfl⟩ := h
    simp only [itGo, Option.bind_eq_some_iff] at e
    obtain ⟨ds, e, e2⟩ := e
    obtain ⟨vs, hs, r⟩ := h1.seq R e
    split at e2
    · rename_i hk
      simp only [Option.some.injEq, Option.map_eq_some_iff] at e2
      obtain ⟨c, e2, rfl⟩ := e2
      obtain ⟨v, e3, r3⟩ := r.get e2
      refine ⟨⟨vs, v, hs, e3⟩, fun x H' y => ?_⟩
      obtain ⟨T, z, rfl, hT, rfl, y⟩ := y
      have := (y vs hs).symm.trans e3
      cases this
      exact ⟨ext_junk hT, R.junk hT, .tup upd_same (.cons (.int _) (.cons (r3.ext (ext_junk hT) _ _) .nil))⟩
    · cases e2
  | zip s t =>
    obtain ⟨b1, a, b2, b, h1, h2, rfl⟩ := h
    simp only [itGo] at e
    split at e
    · rename_i xs ys e1 e2
      obtain ⟨vs, hs, r⟩ := h1.seq R e1
      obtain ⟨us, hs', r'⟩ := h2.seq R e2
      split at e
      · simp only [Option.some.injEq] at e
        split at e
        · rename_i x y q1 q2
          cases e
          obtain ⟨v, e3, r3⟩ := r.get q1
          obtain ⟨u, e4, r4⟩ := r'.get q2
          refine ⟨⟨vs, us, v, u, hs, hs', e3, e4⟩, fun z H' w => ?_⟩
          obtain ⟨T, z1, z2, rfl, hT, rfl, y1, y2⟩ := w
          have := (y1 vs hs).symm.trans e3
          cases this
          have := (y2 us hs').symm.trans e4
          cases this
          exact ⟨ext_junk hT, R.junk hT, .tup upd_same (.cons (r3.ext (ext_junk hT) _ _) (.cons (r4.ext (ext_junk hT) _ _) .nil))⟩
        · cases e
      · cases e
    · cases e
  | rev s n =>
    obtain ⟨b, a, h1, rfl⟩ := h
    simp only [itGo, Option.bind_eq_some_iff] at e
    obtain ⟨ds, e, e2⟩ := e
    obtain ⟨vs, hs, r⟩ := h1.seq R e
    split at e2
    · simp only [Option.some.injEq] at e2
      split at e2
      · rename_i hk
        obtain ⟨v, e3, r3⟩ := r.get e2
        cases b with
        | true =>
          refine ⟨⟨hk, vs, v, hs, e3⟩, fun x H' y => ?_⟩
          obtain ⟨rfl, y⟩ := y
          have := (y vs hs).symm.trans e3
          cases this
          exact ⟨Ext.refl, R, r3⟩
        | false =>
          refine ⟨⟨hk, vs, v, hs, e3⟩, fun x H' y => ?_⟩
          obtain ⟨rfl, y⟩ := y
          have := (y vs hs).symm.trans e3
          cases this
          exact ⟨Ext.refl, R, r3⟩
      · cases e2
    · cases e2
end
abbrev MI := Ls → Hs → R J
def TI' (K : PySem.W.Frag) (E : St → XK) (f : MI) : TI := fun s H Q => ∃ p l S, Real K p S H ∧ Sl K p S.length H l s ∧ Post K E S.length p H (f l S) (fun j S1 p1 H1 => ∀ I, JRel K p1 S1.length H1 j I → Q I H1)
structure IM (X : Cx) (E : St → XK) (tg e : Expr) (f : MI) : Prop where pi : PI X tg e (TI' X.K E f)
theorem _root_.L2.PI.weak {X : Cx} {tg e : Expr} {t t' : TI} (h : PI X tg e t) (w : ∀ s H Q, t' s H Q → t s H Q) : PI X tg e t' := ⟨fun pins s σ H Q I q => h.run pins s σ H Q I (w σ H Q q)⟩
theorem _root_.L2.PI.or {X : Cx} {tg e : Expr} {t t' : TI} (h : PI X tg e t) (h' : PI X tg e t') : PI X tg e (fun s H Q => t s H Q ∨ t' s H Q) := ⟨fun pins s σ H Q I q => q.elim (h.run pins s σ H Q I) (h'.run pins s σ H Q I)⟩
def oIt (x : D) (S : Hs) : R J := match x with
  | .tup ds => .ok (.tup ds) S
  | .wt ds => .ok (.tup ds) S
  | .str x => .ok (.str x) S
  | .ref i => match seqAt S i with
    | some _ => .ok (.lst i) S
    | none => .bad
  | _ => .bad
def mIt (f : M) : MI := fun l S => (f l S).bind oIt
def oRng1 (ds : List D) (S : Hs) : R J := match ds with
  | [.int n] => if -(2 ^ 62) ≤ n ∧ n < 2 ^ 62 then .ok (.rng 0 n.toNat) S else .bad
  | _ => .bad
def oRng2 (ds : List D) (S : Hs) : R J := match ds with
  | [.int a, .int b] => if -(2 ^ 62) ≤ a ∧ a < 2 ^ 62 ∧ -(2 ^ 62) ≤ b ∧ b < 2 ^ 62 then .ok (.rng a (b - a).toNat) S else .bad
  | _ => .bad
def mRng1 (f : ML) : MI := fun l S => (f l S).bind oRng1
def mRng2 (f : ML) : MI := fun l S => (f l S).bind oRng2
def oEnum (ds : List D) (S : Hs) : R J := match ds with
  | [x] => match sqOf x S with
    | some s => .ok (.enum s) S
    | none => .bad
  | _ => .bad
def mEnum (f : ML) : MI := fun l S => (f l S).bind oEnum
def oZip (ds : List D) (S : Hs) : R J := match ds with
  | [x, y] => match sqOf x S, sqOf y S with
    | some s, some t => .ok (.zip s t) S
    | _, _ => .bad
  | _ => .bad
def mZip (f : ML) : MI := fun l S => (f l S).bind oZip
def oRev (x : D) (S : Hs) : R J := match sqOf x S with
  | some s => match s.at S with
    | some ds => .ok (.rev s ds.length) S
    | none => .bad
  | none => .bad
def mRev (f : M) : MI := fun l S => (f l S).bind oRev
section
variable {X : Cx} {E : St → XK} {tg e e2 : Expr} {f : M} {g : ML} {p0 pos : Pos}
abbrev QJ (K : PySem.W.Frag) (Q : It → Hp → Prop) : J → Hs → (Nat → Addr) → Hp → Prop := fun j S1 p1 H1 => ∀ I, JRel K p1 S1.length H1 j I → Q I H1
theorem seqAt_lt {S : Hs} {i : Nat} {ds : List D} (h : seqAt S i = some ds) : i < S.length := by
  unfold seqAt seqD at h
  simp only at h
  split at h
  · rename_i q; exact Real.lt q
  · rename_i q; exact Real.lt q
  · cases h
theorem i_it (he : EM X E e f) : IM X E tg e (mIt f) :=
  ⟨(PI.or (pi_list he.pe) (PI.or (pi_tup he.pe) (pi_str he.pe))).weak fun s H Q ⟨p, l, S, R, L, h⟩ => by
    unfold mIt at h
    have hc : ∃ d S1, f l S = .ok d S1 ∨ ∃ c fs l1, f l S = .exc c fs l1 S1 := by
      cases q : f l S with
      | ok d S1 => exact ⟨d, S1, .inl rfl⟩
      | exc c fs l1 S1 => exact ⟨.non, S1, .inr ⟨c, fs, l1, rfl⟩⟩
      | bad => rw [q] at h; exact h.elim
    obtain ⟨d, S1, hc | ⟨c, fs, l1, hc⟩⟩ := hc
    · rw [hc] at h
      simp only [Ly.R.bind_ok] at h
      unfold oIt at h
      split at h
      · refine .inr (.inl ⟨p, l, S, R, L, ?_⟩)
        rw [hc]
        intro p1 H1 x1 R1 v r
        cases r with
        | tup t r => exact ⟨_, rfl, ⟨_, SqT.of t⟩, Post.ok (Q := QJ _ Q) h x1 R1 _ ⟨_, _, .inl ⟨.tup t r, ⟨t, r⟩, rfl⟩⟩⟩
      · refine .inr (.inl ⟨p, l, S, R, L, ?_⟩)
        rw [hc]
        intro p1 H1 x1 R1 v r
        cases r with
        | wt t r => exact ⟨_, rfl, ⟨_, t.sq⟩, Post.ok (Q := QJ _ Q) h x1 R1 _ ⟨_, _, .inr ⟨.wt t r, ⟨t, r⟩, rfl⟩⟩⟩
      · refine .inr (.inr ⟨p, l, S, R, L, ?_⟩)
        rw [hc]
        intro p1 H1 x1 R1 v r
        cases r
        exact ⟨_, rfl, Post.ok (Q := QJ _ Q) h x1 R1 _ rfl⟩
      · refine .inl ⟨p, l, S, R, L, ?_⟩
        rw [hc]
        split at h
        · rename_i ds q
          intro p1 H1 x1 R1 v r
          obtain ⟨vs, hs, _⟩ := seqAt_V R1 q
          cases r
          exact ⟨_, rfl, ⟨_, hs⟩, Post.ok (Q := QJ _ Q) h x1 R1 _ ⟨seqAt_lt q, rfl⟩⟩
        · exact h.elim
      · exact h.elim
    · rw [hc] at h
      refine .inl ⟨p, l, S, R, L, ?_⟩
      rw [hc]
      exact h⟩
theorem i_rng1 {a : Expr} (hm : X.mg "range" = none) (ha : LM X E [a] g) (hg : Gl X "range" := by rfl) (hs : starEach [a] X.env = [(false, eval a X.env)] := by rfl) : IM X E tg (.Call (.Name "range" p0) [a] [] pos) (mRng1 g) :=
  ⟨(pi_range1 hg hm ha.pa hs).weak fun s H Q ⟨p, l, S, R, L, h⟩ => TL.of R L h fun p1 S1 H1 d v R1 x1 L1 r1 h1 => by
    unfold oRng1 at h1
    split at h1
    · split at h1
      · rename_i hb
        cases r1 with
        | cons r0 rs => cases rs; cases r0; exact ⟨_, rfl, hb.1, hb.2, Post.ok (Q := QJ _ Q) h1 Ext.refl R1 _ rfl⟩
      · exact h1.elim
    · exact h1.elim⟩
theorem i_rng2 {a b : Expr} (hm : X.mg "range" = none) (ha : LM X E [a, b] g) (hg : Gl X "range" := by rfl) (hs : starEach [a, b] X.env = [(false, eval a X.env), (false, eval b X.env)] := by rfl) (hs2 : starEach [b] X.env = [(false, eval b X.env)] := by rfl) : IM X E tg (.Call (.Name "range" p0) [a, b] [] pos) (mRng2 g) :=
  ⟨(pi_range2 hg hm ha.pa hs hs2).weak fun s H Q ⟨p, l, S, R, L, h⟩ => TL.of R L h fun p1 S1 H1 d v R1 x1 L1 r1 h1 => by
    unfold oRng2 at h1
    split at h1
    · split at h1
      · rename_i hb
        cases r1 with
        | cons r0 rs => cases rs with | cons r2 rs => cases rs; cases r0; cases r2; exact ⟨_, _, rfl, hb, Post.ok (Q := QJ _ Q) h1 Ext.refl R1 _ rfl⟩
      · exact h1.elim
    · exact h1.elim⟩
theorem i_enum {elts : List Expr} {kk : Nat} {tpos : Pos} (hm : X.mg "enumerate" = none) (ha : LM X E [e] g) (hg : Gl X "enumerate" := by rfl) (hs : starEach [e] X.env = [(false, eval e X.env)] := by rfl) : IM X E (.Tuple elts kk tpos) (.Call (.Name "enumerate" p0) [e] [] pos) (mEnum g) :=
  ⟨(LyI.pi_enumB hg hm ha.pa hs).weak fun s H Q ⟨p, l, S, R, L, h⟩ => TL.of R L h fun p1 S1 H1 d v R1 x1 L1 r1 h1 => by
    unfold oEnum at h1
    split at h1
    · split at h1
      · rename_i q
        cases r1 with
        | cons r0 rs =>
          cases rs
          obtain ⟨b, a, ds, rfl, h2, e⟩ := sqOf_R R1 r0 q
          obtain ⟨vs, hs, _⟩ := h2.seq R1 e
          exact ⟨b, a, vs, rfl, hs, Post.ok (Q := QJ _ Q) h1 Ext.refl R1 _ ⟨b, a, h2, rfl⟩⟩
      · exact h1.elim
    · exact h1.elim⟩
theorem i_rev (hm : X.mg "reversed" = none) (ha : EM X E e f) (hg : Gl X "reversed" := by rfl) (he : starEach [e] X.env = (false, eval e X.env) :: starEach [] X.env := by rfl) : IM X E tg (.Call (.Name "reversed" p0) [e] [] pos) (mRev f) :=
  ⟨(RT.pi_revA hg hm ha.pe he).weak fun s H Q ⟨p, l, S, R, L, h⟩ => T.of (k := oRev) R L h fun p1 S1 H1 d v R1 x1 L1 r1 h1 => by
    unfold oRev at h1
    split at h1
    · rename_i q
      split at h1
      · rename_i ds e
        obtain ⟨b, a, ds', rfl, h2, e'⟩ := sqOf_R R1 r1 q
        rw [e] at e'
        cases e'
        obtain ⟨vs, hs, r⟩ := h2.seq R1 e
        refine ⟨a, vs, rfl, ?_⟩
        have fin := Post.ok (Q := QJ _ Q) h1 Ext.refl R1
        rw [r.len] at fin
        cases b with
        | true => exact .inl ⟨hs, fin _ ⟨true, a, h2, rfl⟩⟩
        | false => exact .inr ⟨hs, fin _ ⟨false, a, h2, rfl⟩⟩
      · exact h1.elim
    · exact h1.elim⟩
theorem i_zip {elts : List Expr} {kk : Nat} {tpos : Pos} (hm : X.mg "zip" = none) (ha : LM X E [e, e2] g) (hg : Gl X "zip" := by rfl) (hs : starEach [e, e2] X.env = (false, eval e X.env) :: starEach [e2] X.env := by rfl) (hpl : (backTo pos (starEach [e2] X.env)).any (·.1) = false := by rfl) :
    IM X E (.Tuple elts kk tpos) (.Call (.Name "zip" p0) [e, e2] [] pos) (mZip g) :=
  ⟨(LyI.pi_zipB hg hm ha.pa hs hpl).weak fun s H Q ⟨p, l, S, R, L, h⟩ => TL.of R L h fun p1 S1 H1 d v R1 x1 L1 r1 h1 => by
    unfold oZip at h1
    split at h1
    · split at h1
      · rename_i q q'
        cases r1 with
        | cons r0 rs =>
          cases rs with
          | cons r2 rs =>
            cases rs
            obtain ⟨b, a, ds, rfl, h2, e⟩ := sqOf_R R1 r0 q
            obtain ⟨b', a', ds', rfl, h2', e'⟩ := sqOf_R R1 r2 q'
            obtain ⟨vs, hs, _⟩ := h2.seq R1 e
            obtain ⟨us, hs', _⟩ := h2'.seq R1 e'
            exact ⟨b, b', a, a', vs, us, rfl, hs, hs', Post.ok (Q := QJ _ Q) h1 Ext.refl R1 _ ⟨b, a, b', a', h2, h2', rfl⟩⟩
      · exact h1.elim
    · exact h1.elim⟩
end
/-! ### for -/
def fStep (j : J) (g : MG) (b : MS) (a : Nat × Ls × Hs) : Sum (Nat × Ls × Hs) (R F) := match itGo j a.1 a.2.2 with
  | none => .inr .bad
  | some none => .inr (.ok (.nx a.2.1) a.2.2)
  | some (some d) => match g d a.2.1 a.2.2 with
    | .ok l1 S1 => turnOf (b l1 S1) fun l2 S2 => (a.1 + 1, l2, S2)
    | .exc c fs l1 S1 => .inr (.exc c fs l1 S1)
    | .bad => .inr .bad
noncomputable def fLoop (j : J) (g : MG) (b : MS) (k : Nat) : MS := fun l S => runI (fStep j g b) (k, l, S)
noncomputable def mFor (it : MI) (g : MG) (b : MS) : MS := fun l S => (it l S).bind fun j S1 => fLoop j g b 0 l S1
theorem fLoop_eq (j : J) (g : MG) (b : MS) (k : Nat) (l : Ls) (S : Hs) : fLoop j g b k l S = match itGo j k S with
    | none => .bad
    | some none => .ok (.nx l) S
    | some (some d) => (g d l S).bind fun l1 S1 => (b l1 S1).bind fun r S2 => match r with
      | .nx l2 => fLoop j g b (k + 1) l2 S2
      | .ct l2 => fLoop j g b (k + 1) l2 S2
      | .bk l2 => .ok (.nx l2) S2
      | .rt d => .ok (.rt d) S2 := by
  unfold fLoop
  rw [runI_eq]
  unfold fStep turnOf
  simp only []
  cases itGo j k S with
  | none => rfl
  | some o =>
    cases o with
    | none => rfl
    | some d =>
      simp only []
      cases g d l S with
      | ok l1 S1 =>
        simp only [R.bind_ok]
        cases b l1 S1 with
        | ok r S2 => cases r <;> rfl
        | exc _ _ _ _ => rfl
        | bad => rfl
      | exc _ _ _ _ => rfl
      | bad => rfl
section
variable {X : Cx} {E : St → XK} {tg e : Expr} {it : MI} {g : MG} {b : MS} {pos : Pos} {body : List Stmt}
theorem s_for (hp : PassesOwn (model X.prog X.w) X.A X.env X.xe) (hc : X.calm = true) (hi : IM X E tg e it) (hg : GM X E tg g) (hb : SMs X E body b) (hs : ∀ x, foldedSetIterable e X.env x = pure x := by intro _; rfl) : SM X E (.For tg e body [] pos) (mFor it g b) :=
  ⟨(ps_for hp hc hi.pi hg.pg hb.ps hs).weak fun s H D0 ⟨p, l, S, R, L, h⟩ => by
    refine ⟨p, l, S, R, L, (Post.bind (r := it l S) h).mono fun j S1 p1 H1 _ x1 R1 q I hI => ?_⟩
    obtain ⟨n, hn, _⟩ := runI_ex (Post.ne q)
    rw [show fLoop j g b 0 l S1 = _ from hn.symm] at q
    refine ⟨fun k m s H => ∃ p l S, Real X.K p S H ∧ Sl X.K p S.length H l s ∧ JRel X.K p S.length H j I ∧ Post X.K E S.length p H (iter (fStep j g b) m (k, l, S)) (QF X.K D0), ⟨n, p1, l, S1, R1, L.ext x1, hI, q⟩, ?_⟩
    rintro k m s H ⟨p, l, S, R, L, hI, h⟩
    cases m with
    | zero => exact h.elim
    | succ m =>
      simp only [iter, fStep] at h
      cases e1 : itGo j k S with
      | none => rw [e1] at h; exact h.elim
      | some o =>
        cases o with
        | none => rw [e1] at h; exact .inl ⟨it_stop R hI e1, Post.nx h R L⟩
        | some d =>
          obtain ⟨g1, g2⟩ := it_go R hI e1
          rw [e1] at h
          simp only [] at h
          refine .inr ⟨g1, fun s H => ∃ p l S, Real X.K p S H ∧ Sl X.K p S.length H l s ∧ JRel X.K p S.length H j I ∧ Post X.K E S.length p H (iter (fStep j g b) m (k + 1, l, S)) (QF X.K D0), fun s' H' w => ⟨m, Nat.lt_succ_self m, w⟩, fun x H' y => ?_⟩
          obtain ⟨x2, R2, r2⟩ := g2 x H' y
          refine ⟨p, l, S, d, R2, L.ext x2, r2, ?_⟩
          have h2 := Post.ext h x2
          cases e2 : g d l S with
          | bad => rw [e2] at h2; exact h2
          | exc c fs l1 S1 => rw [e2] at h2; exact h2
          | ok l1 S3 =>
            rw [e2] at h2
            simp only [] at h2
            intro p3 H3 x3 R3 s3 L3
            refine ⟨p3, l1, S3, R3, L3, turn_post (Post.ext h2 x3) fun l2 S4 p4 H4 s4 x4 R4 L4 h4 => ⟨p4, l2, S4, R4, L4, hI.ext (x2.trans (x3.trans x4)), h4⟩⟩⟩
end
end Ly
set_option Elab.async false
set_option linter.all false
set_option maxRecDepth 100000
namespace Ly
open PySem PySem.Spec L2
open PyProof.Rows hiding St
/-! ### list comprehensions -/
def wipeL (l : Ls) : List Nat → Ls
  | [] => l
  | v :: vs => (wipeL l vs).set v none
theorem Sl.wipe {K : PySem.W.Frag} {p : Nat → Addr} {n : Nat} {H : Hp} {l : Ls} {s : St} (h : Sl K p n H l s) : ∀ vs, Sl K p n H (wipeL l vs) (L2.wipe s vs)
  | [] => h
  | v :: vs => (Sl.wipe h vs).skip v none
abbrev CG := D → Ls → Option Ls
def GOk (K : PySem.W.Frag) (vs : List Nat) (g : TG) (gl : CG) : Prop := ∀ (p : Nat → Addr) (n : Nat) (H : Hp) (d : D) (x : V) (l l1 : Ls) (s : St) (Q : St → Hp → Prop), Sl K p n H l (L2.wipe s vs) → Rep K p n H d x → gl d l = some l1 →
  (∀ s2, L2.wipe s2 vs = L2.wipe s vs → Sl K p n H l1 s2 → Q s2 H) → g x (L2.wipe s vs) H Q
def cN (i : Nat) : CG := fun d l => some (l.set i (some d))
def cT : List Nat → CG := fun is d l => match d with
  | .tup ds => if ds.length = is.length then some ((is.zip ds).foldl (fun l x => l.set x.1 (some x.2)) l) else none
  | .wt ds => if ds.length = is.length then some ((is.zip ds).foldl (fun l x => l.set x.1 (some x.2)) l) else none
  | _ => none
theorem gok_n {K : PySem.W.Frag} {i : Nat} {vs : List Nat} (hv : vs = [i]) : GOk K vs (gName i) (cN i) := by
  subst hv
  intro p n H d x l l1 s Q L r e hq
  cases e
  refine hq _ ?_ (L.set i r)
  simp only [L2.wipe, List.set_set]
def gNames : List Nat → TGs
  | [] => gNil
  | i :: is => gCons (gName i) (gNames is)
theorem wipe_set {s : St} {vs : List Nat} {i : Nat} {o : Option V} (h : i ∈ vs) : L2.wipe (s.set i o) vs = L2.wipe s vs := by
  induction vs with
  | nil => cases h
  | cons v vs ih =>
    simp only [L2.wipe]
    by_cases e : i ∈ vs
    · rw [ih e]
    · have : i = v := by
        rcases List.mem_cons.mp h with h | h
        · exact h
        · exact absurd h e
      subst this
      clear ih h
      have key : ∀ ws : List Nat, i ∉ ws → L2.wipe (s.set i o) ws = (L2.wipe s ws).set i o := by
        intro ws
        induction ws with
        | nil => intro _; rfl
        | cons w ws ih =>
          intro hw
          simp only [L2.wipe]
          rw [ih fun z => hw (List.mem_cons_of_mem _ z), List.set_comm _ _ (fun z => hw (by rw [← z]; exact List.mem_cons_self ..))]
      rw [key vs e, List.set_set]
theorem wipe_wipe {s : St} (vs : List Nat) : L2.wipe (L2.wipe s vs) vs = L2.wipe s vs := by
  have key : ∀ ws : List Nat, (∀ i ∈ ws, i ∈ vs) → L2.wipe (L2.wipe s ws) vs = L2.wipe s vs := by
    intro ws
    induction ws with
    | nil => intro _; rfl
    | cons w ws ih =>
      intro h
      simp only [L2.wipe]
      rw [wipe_set (h w (List.mem_cons_self ..)), ih fun i hi => h i (List.mem_cons_of_mem _ hi)]
  exact key vs fun _ h => h
theorem gnames_ok {K : PySem.W.Frag} {p : Nat → Addr} {n : Nat} {H : Hp} : ∀ (is : List Nat) (ds : List D) (xs : List V) (l : Ls) (s : St) (Q : St → Hp → Prop), Sl K p n H l s → Reps K p n H ds xs → ds.length = is.length →
    (∀ s2, (∀ vs, (∀ i ∈ is, i ∈ vs) → L2.wipe s2 vs = L2.wipe s vs) → Sl K p n H ((is.zip ds).foldl (fun l x => l.set x.1 (some x.2)) l) s2 → Q s2 H) → gNames is xs s H Q
  | [], ds, xs, l, s, Q, L, r, e, hq => by
    cases ds with
    | nil => cases r; exact ⟨rfl, hq s (fun _ _ => rfl) L⟩
    | cons a b => simp at e
  | i :: is, ds, xs, l, s, Q, L, r, e, hq => by
    cases ds with
    | nil => simp at e
    | cons d ds =>
      cases r with
      | cons r0 rs =>
        refine ⟨_, _, rfl, gnames_ok is ds _ (l.set i (some d)) _ Q (L.set i r0) rs (by simpa using e) fun s2 h2 L2' => hq s2 (fun vs hv => ?_) L2'⟩
        rw [h2 vs fun j hj => hv j (List.mem_cons_of_mem _ hj), wipe_set (hv i (List.mem_cons_self ..))]
theorem gok_t {K : PySem.W.Frag} {is vs : List Nat} (hv : ∀ i ∈ is, i ∈ vs) : GOk K vs (gTup K is.length (gNames is)) (cT is) := by
  intro p n H d x l l1 s Q L r e hq
  unfold cT at e
  split at e
  · split at e
    · rename_i hl
      cases e
      cases r with
      | tup t r => exact ⟨_, _, rfl, SqT.of t, by rw [← r.len]; exact hl, gnames_ok is _ _ l _ Q L r hl fun s2 h2 L2' => hq s2 (by rw [h2 vs hv, wipe_wipe]) L2'⟩
    · cases e
  · split at e
    · rename_i hl
      cases e
      cases r with
      | wt t r => exact ⟨_, _, rfl, t.sq, by rw [← r.len]; exact hl, gnames_ok is _ _ l _ Q L r hl fun s2 h2 L2' => hq s2 (by rw [h2 vs hv, wipe_wipe]) L2'⟩
    · cases e
  · cases e
def mYes : MB := fun _ S => .ok true S
def cStep (j : J) (gl : CG) (tt : MB) (te : M) (l : Ls) (n : Nat) (a : Nat × Hs) : Sum (Nat × Hs) (R D) := match itGo j a.1 a.2 with
  | none => .inr .bad
  | some none => .inr (.ok (.ref n) a.2)
  | some (some d) => match gl d l with
    | none => .inr .bad
    | some l1 => match tt l1 a.2 with
      | .ok false S2 => .inl (a.1 + 1, S2)
      | .ok true S2 => (match te l1 S2 with
        | .ok y S3 => (match S3[n]? with
          | some (.lst acc) => if acc.length < sizeLine then .inl (a.1 + 1, S3.set n (.lst (acc ++ [y]))) else .inr .bad
          | _ => .inr .bad)
        | _ => .inr .bad)
      | _ => .inr .bad
noncomputable def cLoop (j : J) (gl : CG) (tt : MB) (te : M) (l : Ls) (n k : Nat) (S : Hs) : R D := runI (cStep j gl tt te l n) (k, S)
noncomputable def mLc (it : MI) (gl : CG) (tt : MB) (te : M) (vs : List Nat) : M := fun l S => (it l S).bind fun j S1 => cLoop j gl tt te (wipeL l vs) S1.length 0 (S1 ++ [.lst []])
theorem cLoop_eq (j : J) (gl : CG) (tt : MB) (te : M) (l : Ls) (n k : Nat) (S : Hs) : cLoop j gl tt te l n k S = match cStep j gl tt te l n (k, S) with
    | .inl a => cLoop j gl tt te l n a.1 a.2
    | .inr r => r := by
  unfold cLoop
  rw [runI_eq]
  cases cStep j gl tt te l n (k, S) <;> rfl
abbrev E00 : St → XK := fun _ => L2.E0
section
variable {X : Cx} {E : St → XK} {elt tg iter : Expr} {ifs : List Expr} {scope : Scope} {own : List (Str × Nat)} {pos : Pos} {it : MI} {g : TG} {gl : CG} {tm : MB} {te : M} {tt : TT}
/-- the test of a comprehension -/
structure CT (X : Cx) (ifs : List Expr) (tm : MB) : Prop where pts : PTs X ifs (TB X.K E00 tm)
theorem ct_nil : CT X [] mYes := ⟨⟨fun pins s σ H Q I ⟨p, l, S, R, L, h⟩ => pts_nil.run pins s σ H Q I (Post.ok (Q := QB Q) h Ext.refl R)⟩⟩
theorem ct_one {c : Expr} (h : BM X E00 c tm) : CT X [c] tm := ⟨pts_one h.pt⟩
theorem lc_reading {K : PySem.W.Frag} {vs : List Nat} (hgk : GOk K vs g gl) {s : St} {H : Hp} {Q : VK} {p : Nat → Addr} {l : Ls} {S : Hs} {j : J} {I : It} (R : Real K p S H) (L : Sl K p S.length H l s) (hI : JRel K p S.length H j I)
    (h : Post K E S.length p H (cLoop j gl tm te (wipeL l vs) S.length 0 (S ++ [.lst []])) (QD K Q)) : ∀ D0, H D0 = none → ∃ W : Nat → Nat → Hp → Prop, (∃ m, W 0 m (upd H D0 (.lst []))) ∧ ∀ i m H, W i m H →
      (I.stop i H ∧ Q (.ref D0) H) ∨ (I.go i H ∧ ∃ Nx : Hp → Prop, (∀ H', Nx H' → ∃ m', m' < m ∧ W (i + 1) m' H') ∧ ∀ x H', I.yld i H x H' → g x (L2.wipe s vs) H' fun s2 H2 => L2.wipe s2 vs = L2.wipe s vs ∧
        TB K E00 tm s2 H2 fun b H3 => if b = true then T K E00 te s2 H3 fun y H4 => ∃ acc, H4 D0 = some (.lst acc) ∧ acc.length < sizeLine ∧ Nx (upd H4 D0 (.lst (acc ++ [y]))) else Nx H3) := by
  intro D0 hD
  obtain ⟨m0, hm, _⟩ := runI_ex (Post.ne h)
  rw [show cLoop j gl tm te (wipeL l vs) S.length 0 (S ++ [.lst []]) = _ from hm.symm] at h
  have x0 := ext_new (S := S) (pi := p) (u := .lst []) hD
  have R0 := R.new (u := .lst []) (o := .lst []) hD ⟨[], upd_same, .nil⟩
  have e0 : (S ++ [O.lst []]).length = S.length + 1 := by simp
  refine ⟨fun k m H => ∃ q S1, S.length < S1.length ∧ q S.length = D0 ∧ Real K q S1 H ∧ Sl K q S1.length H (wipeL l vs) (L2.wipe s vs) ∧ JRel K q S1.length H j I ∧ Post K E S1.length q H (iter (cStep j gl tm te (wipeL l vs) S.length) m (k, S1)) (QD K Q),
    ⟨m0, piN p S.length D0, S ++ [.lst []], by omega, piN_same, R0, by rw [e0]; exact (L.wipe vs).ext x0, by rw [e0]; exact hI.ext x0, Post.ext h (by rw [e0]; exact x0)⟩, ?_⟩
  rintro k m H1 ⟨q, S1, hn, hq, R1, L1, hI1, h1⟩
  cases m with
  | zero => exact h1.elim
  | succ m =>
    simp only [iter, cStep] at h1
    cases e1 : itGo j k S1 with
    | none => rw [e1] at h1; exact h1.elim
    | some o =>
      cases o with
      | none =>
        rw [e1] at h1
        refine .inl ⟨it_stop R1 hI1 e1, ?_⟩
        have := Post.ok (Q := QD K Q) h1 Ext.refl R1 (.ref (q S.length)) (.ref hn)
        rwa [hq] at this
      | some d =>
        obtain ⟨g1, g2⟩ := it_go R1 hI1 e1
        rw [e1] at h1
        simp only [] at h1
        refine .inr ⟨g1, fun H => ∃ q S1, S.length < S1.length ∧ q S.length = D0 ∧ Real K q S1 H ∧ Sl K q S1.length H (wipeL l vs) (L2.wipe s vs) ∧ JRel K q S1.length H j I ∧ Post K E S1.length q H (iter (cStep j gl tm te (wipeL l vs) S.length) m (k + 1, S1)) (QD K Q),
          fun H' w => ⟨m, Nat.lt_succ_self m, w⟩, fun x H' y => ?_⟩
        obtain ⟨x2, R2, r2⟩ := g2 x H' y
        have h2 := Post.ext h1 x2
        cases e2 : gl d (wipeL l vs) with
        | none => rw [e2] at h2; exact h2.elim
        | some l1 =>
          rw [e2] at h2
          simp only [] at h2
          refine hgk q S1.length H' d x _ l1 s _ (L1.ext x2) r2 e2 fun s2 w2 L2' => ⟨w2, ?_⟩
          refine ⟨q, l1, S1, R2, L2', ?_⟩
          cases e3 : tm l1 S1 with
          | bad => rw [e3] at h2; exact h2.elim
          | exc _ _ _ _ => rw [e3] at h2; exact h2.elim
          | ok b S2 =>
            rw [e3] at h2
            intro q3 H3 x3 R3
            have h3 := Post.ext h2 x3
            cases b with
            | false => exact ⟨q3, S2, Nat.lt_of_lt_of_le hn x3.le, (x3.ag _ hn).trans hq, R3, (L1.ext x2).ext x3, (hI1.ext x2).ext x3, h3⟩
            | true =>
              show T K E00 te s2 H3 _
              refine ⟨q3, l1, S2, R3, L2'.ext x3, ?_⟩
              simp only [] at h3
              cases e4 : te l1 S2 with
              | bad => rw [e4] at h3; exact h3.elim
              | exc _ _ _ _ => rw [e4] at h3; exact h3.elim
              | ok y S3 =>
                rw [e4] at h3
                simp only [] at h3
                intro q4 H4 x4 R4 v r4
                have h4 := Post.ext h3 x4
                have hn4 : S.length < S3.length := Nat.lt_of_lt_of_le hn (Nat.le_trans x3.le x4.le)
                have hq4 : q4 S.length = D0 := (x4.ag _ (Nat.lt_of_lt_of_le hn x3.le)).trans ((x3.ag _ hn).trans hq)
                cases e5 : S3[S.length]? with
                | none => rw [e5] at h4; exact h4.elim
                | some ob =>
                  cases ob with
                  | lst acc =>
                    rw [e5] at h4
                    simp only [] at h4
                    split at h4
                    · rename_i hl
                      obtain ⟨us, h5, r5⟩ := R4.lst e5
                      have xu : ∀ u, Ext S3.length S3.length q4 q4 H4 (upd H4 (q4 S.length) u) := fun u => ext_upd (R4.notup hn4)
                      rw [hq4] at h5
                      refine ⟨us, h5, by rw [← r5.len]; exact hl, q4, S3.set S.length (.lst (acc ++ [y])), by rw [List.length_set]; exact hn4, hq4, ?_, ?_, ?_, ?_⟩
                      · rw [← hq4]
                        exact R4.put hn4 ⟨_, upd_same, (r5.ext (xu _) _ _).append (.cons (r4.ext (xu _) _ _) .nil)⟩
                      · rw [← hq4, List.length_set]; exact (((L1.ext x2).ext x3).ext x4).ext (xu _)
                      · rw [← hq4, List.length_set]; exact (((hI1.ext x2).ext x3).ext x4).ext (xu _)
                      · rw [← hq4, List.length_set]; exact Post.ext h4 (xu _)
                    · exact h4.elim
                  | _ => rw [e5] at h4; exact h4.elim
theorem e_lc (hc : X.calm = true) (hN : X.N.Nodup) (hi : IM X E tg iter it) (ok : BlkOk X.N X.env.scope scope own) (hgk : GOk X.K (own.map (·.2)) g gl)
    (hg : ∀ (s : Shared) (H : Hp) (C : Addr) (cl : List (Str × Addr)) (fp : List Addr), PG (X.blk s H scope (compEnvC scope cl C X.env) fp) tg g)
    (ht : ∀ (s : Shared) (H : Hp) (C : Addr) (cl : List (Str × Addr)) (fp : List Addr), CT (X.blk s H scope (compEnvC scope cl C X.env) fp) ifs tm)
    (he : ∀ (s : Shared) (H : Hp) (C : Addr) (cl : List (Str × Addr)) (fp : List Addr), EM (X.blk s H scope (compEnvC scope cl C X.env) fp) E00 elt te) (hs : ∀ x, foldedSetIterable iter X.env x = pure x := by intro _; rfl) :
    EM X E (.ListComp elt [⟨tg, iter, ifs, 0⟩] scope pos) (mLc it gl tm te (own.map (·.2))) :=
  ⟨(pe_lc hc hN hi.pi ok hg (fun s H C cl fp => (ht s H C cl fp).pts) (fun s H C cl fp => (he s H C cl fp).pe) hs).weak fun s H Q ⟨p, l, S, R, L, h⟩ =>
    ⟨p, l, S, R, L, (Post.bind (r := it l S) h).mono fun j S1 p1 H1 _ x1 R1 q I hI => lc_reading hgk R1 (L.ext x1) hI q⟩⟩
theorem s_setLc {i : Nat} {y : Str} {py spos : Pos} (hc : X.calm = true) (hN : X.N.Nodup) (hsw : swapsWith (.ListComp elt [⟨tg, iter, ifs, 0⟩] scope pos) (some (.Name y py)) spos.line X.env = pure true) (hi : IM X E tg iter it) (ok : BlkOk X.N X.env.scope scope own) (hgk : GOk X.K (own.map (·.2)) g gl)
    (hg : ∀ (s : Shared) (H : Hp) (C : Addr) (cl : List (Str × Addr)) (fp : List Addr), PG (X.blk s H scope (compEnvC scope cl C X.env) fp) tg g)
    (ht : ∀ (s : Shared) (H : Hp) (C : Addr) (cl : List (Str × Addr)) (fp : List Addr), CT (X.blk s H scope (compEnvC scope cl C X.env) fp) ifs tm)
    (he : ∀ (s : Shared) (H : Hp) (C : Addr) (cl : List (Str × Addr)) (fp : List Addr), EM (X.blk s H scope (compEnvC scope cl C X.env) fp) E00 elt te) (hy : X.N[i]? = some y := by rfl) (hl : X.env.scope.names.lookup y = some .local := by rfl) (hs : ∀ x, foldedSetIterable iter X.env x = pure x := by intro _; rfl) :
    SM X E (.Assign [.Name y py] (.ListComp elt [⟨tg, iter, ifs, 0⟩] scope pos) spos) (mSet i (mLc it gl tm te (own.map (·.2)))) :=
  ⟨(ps_setLc hc hN hy hl hsw hi.pi ok hg (fun s H C cl fp => (ht s H C cl fp).pts) (fun s H C cl fp => (he s H C cl fp).pe) hs).weak fun s H D0 ⟨p, l, S, R, L, h⟩ => by
    have h' : Post X.K E S.length p H ((mLc it gl tm te (own.map (·.2)) l S).bind fun d S1 => .ok (.nx (l.set i (some d))) S1) (QF X.K D0) := h
    have h2 : Post X.K E S.length p H (mLc it gl tm te (own.map (·.2)) l S) (QD X.K fun v H' => D0.nx (s.set i (some v)) H') := h'.bind.mono fun d S1 p1 H1 _ x1 R1 q v r => Post.nx q R1 ((L.ext x1).set i r)
    exact ⟨p, l, S, R, L, (Post.bind (r := it l S) h2).mono fun j S1 p1 H1 _ x1 R1 q I hI => lc_reading hgk R1 (L.ext x1) hI q⟩⟩
end
end Ly
set_option Elab.async false
set_option linter.all false
set_option maxRecDepth 100000
namespace Ly
open PySem PySem.Spec L2
open PyProof.Rows hiding St
/-! ### isinstance -/
def tyName (x : D) (S : Hs) : Option String := match x with
  | .non => some "NoneType"
  | .bl _ => some "bool"
  | .int _ => some "int"
  | .str _ => some "str"
  | .tup _ => some "tuple"
  | .wt _ => some "tuple"
  | .wl _ => some "list"
  | .ref i => match S[i]? with
    | some (.lst _) => some "list"
    | some (.rol _) => some "list"
    | some (.dic _) => some "dict"
    | some (.dit _) => some "dict"
    | _ => none
  | .cst _ => none
def oIsi (c : String) (x : D) (S : Hs) : R D := match (tyName x S).bind fun t => kitB t c with
  | some b => .ok (.bl b) S
  | none => .bad
section
variable {K : PySem.W.Frag} {E : St → XK} {X : Cx} {p : Nat → Addr} {S : Hs} {H : Hp}
theorem tyName_V {x : D} {v : V} {t : String} (R : Real K p S H) (r : Rep K p S.length H x v) (h : tyName x S = some t) : TyX K H v (.type t) := by
  unfold tyName at h
  cases r with
  | non => cases h; exact .base .non
  | bl b => cases h; exact .base (.bl _)
  | int b => cases h; exact .base (.int _)
  | str b => cases h; exact .base (.str _)
  | tup t r => cases h; exact .base (.tup t)
  | wt t r => cases h; obtain ⟨o, its, n, h1, h2, _⟩ := t; exact .kTuple h1 h2
  | wl t r => cases h; obtain ⟨o, its, n, h1, h2, _⟩ := t; exact .kList h1 h2
  | ref hi =>
    simp only at h
    split at h
    · rename_i q; cases h; obtain ⟨vs, h1, r⟩ := R.lst q; exact .base (.lst h1)
    · rename_i q; cases h; obtain ⟨o, vs, h1, r⟩ := R.ob _ _ q; exact .base (.frz h1)
    · rename_i q; cases h; obtain ⟨ks, h1, _⟩ := R.ob _ _ q; exact .base (.dK h1)
    · rename_i q; cases h; obtain ⟨ks, h1, _⟩ := R.ob _ _ q; exact .base (.dT h1)
    · cases h
  | cst a => cases h
theorem c_isi {e : Expr} {f : M} {c : Str} {cn : String} {p0 p1 pos : Pos} (hm : X.mg "isinstance" = none) (hmc : X.mg c = none) (ha : EM X E e f) (hbt : bootBuiltins c = some (.type cn) := by decide +kernel) (hg : Gl X "isinstance" := by rfl) (hgc : Gl X c := by rfl)
    (hn : c ≠ "__name__" := by decide) (hd : (c == ("__debug__" : Str)) = false := by decide)
    (he : starEach [e, Expr.Name c p1] X.env = (false, eval e X.env) :: starEach [Expr.Name c p1] X.env := by rfl) (he2 : starEach [Expr.Name c p1] X.env = (false, eval (Expr.Name c p1) X.env) :: starEach [] X.env := by rfl)
    (hpl : (backTo pos (starEach [Expr.Name c p1] X.env)).any (·.1) = false := by rfl) : EM X E (.Call (.Name "isinstance" p0) [e, .Name c p1] [] pos) (mUn (oIsi cn) f) :=
  ⟨(pe_callB call_isi hg hm (by decide +kernel) (pa_cons ha.pe (pa_cons (pe_bltn hgc hmc hbt (v := .ty cn) rfl hn hd) pa_nil he2) he) (by decide) (by decide) he hpl).weak fun s H Q ⟨p, l, S, R, L, h⟩ => T.of R L h fun p1 S1 H1 d v R1 x1 L1 r1 h1 => by
    unfold oIsi at h1
    split at h1
    · rename_i b e
      rw [Option.bind_eq_some_iff] at e
      obtain ⟨t, e1, e2⟩ := e
      exact ⟨_, _, _, _, b, rfl, .ty cn, tyName_V R1 r1 e1, kit_ty e2, h1.val R1 (.bl _)⟩
    · exact h1.elim⟩
end
/-! ### a dict written out -/
abbrev MP := Ls → Hs → R (List (D × D))
def dpNil : MP := fun _ S => .ok [] S
def dpCons (f g : M) (h : MP) : MP := fun l S => (f l S).bind fun x S1 => (g l S1).bind fun y S2 => (h l S2).bind fun r S3 => .ok ((x, y) :: r) S3
def keysP : List (D × D) → Option (List (Key × D))
  | [] => some []
  | (x, y) :: r => match x.key, keysP r with
    | some k, some l => some ((k, y) :: l)
    | _, _ => none
def mergeD (kvs : List (Key × D)) (more : List (Key × D)) : List (Key × D) := more.foldl (fun acc kv => setK acc kv.1 kv.2) kvs
def mDisp (h : MP) : M := fun l S => (h l (S ++ [.dic []])).bind fun ps S1 => match keysP ps, S1[S.length]? with
  | some kvs, some (.dic []) => if kvs.length ≤ 15 then .ok (.ref S.length) (S1.set S.length (.dic (mergeD [] kvs))) else .bad
  | _, _ => .bad
structure DP (X : Cx) (E : St → XK) (pos : Pos) (keys : List (Option Expr)) (values : List Expr) (trs : List (TE × TE)) (f : MP) : Prop where
  pps : PPs X pos keys values trs
  rd : ∀ (s : St) (H : Hp) (p : Nat → Addr) (l : Ls) (S : Hs) (Q : List (V × V) → Hp → Prop), Real X.K p S H → Sl X.K p S.length H l s →
    Post X.K E S.length p H (f l S) (fun ps S1 p1 H1 => ∀ ks vs, Reps X.K p1 S1.length H1 (ps.map (·.1)) ks → Reps X.K p1 S1.length H1 (ps.map (·.2)) vs → Q (ks.zip vs) H1) → tPairs trs s H Q
section
variable {X : Cx} {E : St → XK} {pos : Pos} {keys : List (Option Expr)} {values : List Expr} {trs : List (TE × TE)} {f g : M} {h : MP} {k v : Expr}
theorem dp_nil : DP X E pos [] [] [] dpNil := ⟨pps_nil, fun s H p l S Q R L h => Post.ok h Ext.refl R [] [] .nil .nil⟩
theorem dp_cons (hk : EM X E k f) (hv : EM X E v g) (hr : DP X E pos keys values trs h) : DP X E pos (some k :: keys) (v :: values) ((T X.K E f, T X.K E g) :: trs) (dpCons f g h) :=
  ⟨pps_cons hk.pe hv.pe hr.pps, fun s H p l S Q R L q => T.of R L q fun p1 S1 H1 d1 v1 R1 x1 L1 r1 q1 => T.of R1 L1 q1 fun p2 S2 H2 d2 v2 R2 x2 L2 r2 q2 => hr.rd s H2 p2 l S2 _ R2 L2 (q2.bind.mono fun ps S3 p3 H3 _ x3 R3 q3 ks vs rk rv => by
    have := Post.ok q3 Ext.refl R3 (v1 :: ks) (v2 :: vs) (.cons ((r1.ext x2 _ _).ext x3 _ _) rk) (.cons (r2.ext x3 _ _) rv)
    exact this)⟩
theorem keysP_V {K : PySem.W.Frag} {p : Nat → Addr} {n : Nat} {H : Hp} {ps : List (D × D)} {kvs : List (Key × D)} {ks vs : List V} (h : keysP ps = some kvs) (rk : Reps K p n H (ps.map (·.1)) ks) (rv : Reps K p n H (ps.map (·.2)) vs) :
    ∃ ls : List (Key × V), ks.zip vs = ls.map (fun kv => (kV kv.1, kv.2)) ∧ ls.map (·.1) = kvs.map (·.1) ∧ Reps K p n H (kvs.map (·.2)) (ls.map (·.2)) := by
  induction ps generalizing kvs ks vs with
  | nil =>
    cases h; cases rk; cases rv
    exact ⟨[], rfl, rfl, .nil⟩
  | cons a ps ih =>
    obtain ⟨x, y⟩ := a
    simp only [List.map_cons] at rk rv
    cases rk with
    | cons r0 rs =>
    cases rv with
    | @cons _ _ v0 us s0 ss =>
    simp only [keysP] at h
    split at h
    · rename_i k l e1 e2
      cases h
      obtain ⟨ls, h1, h2, h3⟩ := ih e2 rs ss
      exact ⟨(k, v0) :: ls, by simp only [List.zip_cons_cons, List.map_cons, h1, key_V r0 e1], by simp only [List.map_cons, h2], .cons s0 h3⟩
    · cases h
theorem merge_V {K : PySem.W.Frag} {p : Nat → Addr} {n : Nat} {H : Hp} : ∀ (more : List (Key × D)) (ms : List (Key × V)) (kvs : List (Key × D)) (ks : List (Key × V)), ms.map (·.1) = more.map (·.1) → Reps K p n H (more.map (·.2)) (ms.map (·.2)) →
    ks.map (·.1) = kvs.map (·.1) → Reps K p n H (kvs.map (·.2)) (ks.map (·.2)) → (mergeK ks ms).map (·.1) = (mergeD kvs more).map (·.1) ∧ Reps K p n H ((mergeD kvs more).map (·.2)) ((mergeK ks ms).map (·.2))
  | [], ms, kvs, ks, e, _, e2, r2 => by
    cases ms with
    | nil => exact ⟨e2, r2⟩
    | cons a b => cases e
  | a :: more, ms, kvs, ks, e, r, e2, r2 => by
    cases ms with
    | nil => cases e
    | cons b ms =>
      simp only [List.map_cons, List.cons.injEq] at e
      cases r with
      | cons r0 rs =>
        have s := setK_V e2 r2 a.1 r0
        have := merge_V more ms (setK kvs a.1 a.2) (putK ks a.1 b.2) e.2 rs s.1 s.2
        show (mergeK (putK ks b.1 b.2) ms).map _ = _ ∧ Reps K p n H _ ((mergeK (putK ks b.1 b.2) ms).map _)
        rw [e.1]
        exact this
theorem e_disp (hd : DP X E pos keys values trs h) (hall : keys.all (·.isSome) = true := by rfl) (hl : keys.length = values.length := by rfl) (h0 : keys ≠ [] := by simp) (h15 : keys.length ≤ 15 := by decide) : EM X E (.Dict keys values pos) (mDisp h) :=
  ⟨(pe_disp hd.pps hall hl h0 h15).weak fun s H Q ⟨p, l, S, R, L, q⟩ => by
    intro a ha
    have x0 := ext_new (S := S) (pi := p) (u := .dK []) ha
    have R0 := R.new (u := .dK []) (o := .dic []) ha ⟨[], upd_same, rfl, .nil⟩
    have e0 : (S ++ [O.dic []]).length = S.length + 1 := by simp
    refine hd.rd s _ (piN p S.length a) l (S ++ [.dic []]) _ R0 (by rw [e0]; exact L.ext x0) ?_
    have q' := Post.ext q (show Ext S.length (S ++ [O.dic []]).length _ _ _ _ by rw [e0]; exact x0)
    refine Post.mono (Q' := fun (ps : List (D × D)) S1 p1 H1 => ∀ ks vs, Reps X.K p1 S1.length H1 (ps.map (·.1)) ks → Reps X.K p1 S1.length H1 (ps.map (·.2)) vs → _) (Post.bind (r := h l (S ++ [.dic []])) q') fun ps S1 p1 H1 _ x1 R1 q1 ks vs rk rv => ?_
    have hn : S.length < S1.length := Nat.lt_of_lt_of_le (by rw [e0]; exact Nat.lt_succ_self _) x1.le
    have hp : p1 S.length = a := (x1.ag _ (by rw [e0]; exact Nat.lt_succ_self _)).trans piN_same
    split at q1
    · rename_i kvs e1 e2
      split at q1
      · rename_i hlen
        obtain ⟨ls, h1, h2, h3⟩ := keysP_V e1 rk rv
        obtain ⟨zs, z1, z2, z3⟩ := R1.ob _ _ e2
        have : zs = [] := by cases zs with | nil => rfl | cons _ _ => cases z2
        subst this
        rw [hp] at z1
        have hll : ls.length = kvs.length := by simpa using congrArg List.length h2
        refine ⟨z1, ls, h1, by rw [hll]; exact hlen, ?_⟩
        have xu : Ext S1.length S1.length p1 p1 H1 (upd H1 (p1 S.length) (.dK (mergeK [] ls))) := ext_upd (R1.notup hn)
        have m := merge_V (K := X.K) (p := p1) (n := S1.length) (H := upd H1 (p1 S.length) (.dK (mergeK [] ls))) kvs ls [] [] h2 (h3.ext xu _ _) rfl .nil
        have := Post.put q1 R1 hn ⟨_, upd_same, m.1, m.2⟩ (.ref hn)
        rw [hp] at this
        exact this
      · exact q1.elim
    · exact q1.elim⟩
/-! ### d.get(k, x) -/
def mGet2 (f g h : M) : M := fun l S => (f l S).bind fun x S1 => if hasTy "dict" x S1 = true then (g l S1).bind fun y S2 => (h l S2).bind fun z S3 => match dGet x y S3 with
  | some (some d) => .ok d S3
  | some none => .ok z S3
  | none => .bad else .bad
theorem isD_V {K : PySem.W.Frag} {p : Nat → Addr} {S : Hs} {H : Hp} {x : D} {v : V} (R : Real K p S H) (r : Rep K p S.length H x v) (h : hasTy "dict" x S = true) : ∃ a, v = .ref a ∧ IsD H a := by
  unfold hasTy at h
  cases r with
  | str x => exact absurd (of_decide_eq_true h) (by decide)
  | int x => exact absurd (of_decide_eq_true h) (by decide)
  | ref hi =>
    simp only at h
    split at h
    · exact absurd (of_decide_eq_true h) (by decide)
    · exact absurd (of_decide_eq_true h) (by decide)
    · rename_i q
      obtain ⟨ks, h1, _⟩ := R.ob _ _ q
      exact ⟨_, rfl, .inl ⟨_, .inl h1⟩⟩
    · rename_i q
      obtain ⟨ks, h1, _⟩ := R.ob _ _ q
      exact ⟨_, rfl, .inr ⟨_, .inl h1⟩⟩
    · cases h
  | _ => cases h
theorem e_get2 {o e e2 : Expr} {apos cpos : Pos} {hh : M} (hu : X.A.units + 1 < cLine) (ho : EM X E o f) (he : EM X E e g) (hf : EM X E e2 hh) (m : M2 X o "get" apos e e2 cpos := by exact ⟨rfl, rfl, rfl, rfl⟩) : EM X E (.Call (.Attribute o "get" apos) [e, e2] [] cpos) (mGet2 f g hh) :=
  ⟨(pe_dget2 hu ho.pe he.pe hf.pe m).weak fun s H Q ⟨p, l, S, R, L, h⟩ => T.of R L h fun p1 S1 H1 d v R1 x1 L1 r1 h1 => by
    split at h1
    · rename_i ht
      obtain ⟨a, rfl, ia⟩ := isD_V R1 r1 ht
      refine ⟨a, rfl, ia, T.of R1 L1 h1 fun p2 S2 H2 d2 v2 R2 x2 L2 r2 h2 => T.of R2 L2 h2 fun p3 S3 H3 d3 v3 R3 x3 L3 r3 h3 => ?_⟩
      split at h3
      · rename_i dd e
        obtain ⟨a', w, e1, gg, m⟩ := dGet_V R3 ((r1.ext x2 _ _).ext x3 _ _) (r2.ext x3 _ _) e
        cases e1
        obtain ⟨z, rfl, rz⟩ := m
        exact ⟨_, gg, h3.val R3 rz⟩
      · rename_i e
        obtain ⟨a', w, e1, gg, m⟩ := dGet_V R3 ((r1.ext x2 _ _).ext x3 _ _) (r2.ext x3 _ _) e
        cases e1
        cases (show w = none from m)
        exact ⟨_, gg, h3.val R3 r3⟩
      · exact h3.elim
    · exact h1.elim⟩
/-! ### d[k] += e -/
def isDic (x : D) (S : Hs) : Bool := match x with
  | .ref i => match S[i]? with
    | some (.dic _) => true
    | some (.dit _) => true
    | _ => false
  | _ => false
def mAugI (op : D → D → Hs → R D) (f g h : M) : MS := fun l S => (f l S).bind fun x S1 => (g l S1).bind fun y S2 => match dGet x y S2 with
  | some (some z) => (h l S2).bind fun w S3 => (op z w S3).bind fun d S4 => if isDic x S4 = true then (oSet x y d S4).bind fun _ S5 => .ok (.nx l) S5 else .bad
  | _ => .bad
theorem s_augI {o i value : Expr} {tpos : Pos} {hh : M} {opr : Operator} {rd : V → V → Hp → VK → Prop} {op : D → D → Hs → R D} (hu : X.A.units + 1 < cLine) (ho : EM X E o f) (hi : EM X E i g) (hv : EM X E value hh) (hop : InOp X opr rd) (hk : OpOk X.K E rd op)
    (ha : ∀ ov iv new, augStore i ov iv new = (do holding [new, ov, iv] (setItem ov iv new); release [new, ov, iv] []; pure .next) := by intro _ _ _; rfl) : SM X E (.AugAssign (.Subscript o i tpos) opr value pos) (mAugI op f g hh) :=
  ⟨(ps_daug hu ho.pe hi.pe hv.pe hop ha).weak fun s H D0 ⟨p, l, S, R, L, h⟩ => T.of R L h fun p1 S1 H1 d v R1 x1 L1 r1 h1 => T.of R1 L1 h1 fun p2 S2 H2 d2 v2 R2 x2 L2 r2 h2 => by
    split at h2
    · rename_i z e
      obtain ⟨a, w, e1, gg, m⟩ := dGet_V R2 (r1.ext x2 _ _) r2 e
      obtain ⟨w0, rfl, rw0⟩ := m
      refine ⟨a, w0, e1, gg, T.of R2 L2 h2 fun p3 S3 H3 d3 v3 R3 x3 L3 r3 h3 => hk p3 S3 H3 _ _ _ _ _ R3 (rw0.ext x3 _ _) r3 (h3.bind.mono fun d4 S4 p4 H4 _ x4 R4 q4 v4 r4 => ?_)⟩
      split at q4
      · rename_i hd
        have rx := ((r1.ext x2 _ _).ext x3 _ _).ext x4 _ _
        have ry := (r2.ext x3 _ _).ext x4 _ _
        have key := ok_set (Q := fun H => D0.nx s H) R4 rx ry r4 q4.bind fun S5 H5 x5 R5 q5 => Post.nx q5 R5 (((L2.ext x3).ext x4).ext x5)
        rcases key with ⟨b, xs, kk, jj, eb, ek, hb, _⟩ | ⟨b, H', eb, put, q⟩
        · exfalso
          subst e1
          cases eb
          unfold isDic at hd
          cases rx with
          | ref hlt =>
            simp only at hd
            split at hd
            · rename_i q
              obtain ⟨ks, k1, _⟩ := R4.ob _ _ q
              rw [hb] at k1; cases k1
            · rename_i q
              obtain ⟨ks, k1, _⟩ := R4.ob _ _ q
              rw [hb] at k1; cases k1
            · cases hd
          | _ => cases hd
        · subst e1
          cases eb
          exact ⟨H', put, q⟩
      · exact q4.elim
    · exact h2.elim⟩
def oAddI : D → D → Hs → R D := fun x y S => match x, y with | .int i, .int j => .ok (.int (i + j)) S | _, _ => .bad
def oSubI : D → D → Hs → R D := fun x y S => match x, y with | .int i, .int j => .ok (.int (i - j)) S | _, _ => .bad
theorem ok_rAdd {K : PySem.W.Frag} {E : St → XK} : OpOk K E rAdd oAddI := by
  intro p S H x y v u Q R rx ry h
  unfold oAddI at h
  split at h
  · cases rx; cases ry; exact ⟨_, _, rfl, rfl, h.val R (.int _)⟩
  · exact h.elim
theorem ok_rSub {K : PySem.W.Frag} {E : St → XK} : OpOk K E rSub oSubI := by
  intro p S H x y v u Q R rx ry h
  unfold oSubI at h
  split at h
  · cases rx; cases ry; exact ⟨_, _, rfl, rfl, h.val R (.int _)⟩
  · exact h.elim
theorem s_addI {o i value : Expr} {tpos : Pos} {hh : M} (hu : X.A.units + 1 < cLine) (ho : EM X E o f) (hi : EM X E i g) (hv : EM X E value hh) (ha : ∀ ov iv new, augStore i ov iv new = (do holding [new, ov, iv] (setItem ov iv new); release [new, ov, iv] []; pure .next) := by intro _ _ _; rfl) :
    SM X E (.AugAssign (.Subscript o i tpos) .Add value pos) (mAugI oAddI f g hh) := s_augI hu ho hi hv in_add ok_rAdd ha
theorem s_subI {o i value : Expr} {tpos : Pos} {hh : M} (hu : X.A.units + 1 < cLine) (ho : EM X E o f) (hi : EM X E i g) (hv : EM X E value hh) (ha : ∀ ov iv new, augStore i ov iv new = (do holding [new, ov, iv] (setItem ov iv new); release [new, ov, iv] []; pure .next) := by intro _ _ _; rfl) :
    SM X E (.AugAssign (.Subscript o i tpos) .Sub value pos) (mAugI oSubI f g hh) := s_augI hu ho hi hv in_sub ok_rSub ha
end
end Ly
set_option Elab.async false
set_option linter.all false
set_option maxRecDepth 100000
namespace Ly
open PySem PySem.Spec L2
open PyProof.Rows hiding St
/-! ### the text's own names -/
/-- a module's constant -/
def GV (K : PySem.W.Frag) (mg : Str → Option Value) (x : Str) (d : D) : Prop := ∃ u v, mg x = some u ∧ RelV v u ∧ ∀ p n H, Rep K p n H d v
/-- a def of the top -/
structure DefAt (K : PySem.W.Frag) (mg : Str → Option Value) (x : Str) (st : Stmt) (ps : List Str) (f : Addr) (fd : FuncData) : Prop where
  F : Fun K x x st f fd
  g : mg x = some (.ref f)
  b : Binds K fd ps []
section
variable {X : Cx} {E : St → XK}
theorem e_g {x : Str} {d : D} {pos : Pos} (g : GV X.K X.mg x d) (hg : Gl X x := by rfl) (hd : (x == ("__debug__" : Str)) = false := by decide) : EM X E (.Name x pos) (mC d) := by
  obtain ⟨u, v, h1, h2, h3⟩ := g
  exact e_of_c (pe_glob hg h1 h2 hd) h3
variable {k : Nat}
theorem or_inAll (hr : Room k X.A) : OpR X (compareOp .In) (rInAll X.K) :=
  OpR.or op_in_sign (OpR.or op_in_str (OpR.or op_in_seq (OpR.or (op_inD (by have := hr.un; omega)) (or_din (hu_of hr)))))
theorem or_notinAll (hr : Room k X.A) : OpR X (compareOp .NotIn) (rNotInAll X.K) :=
  OpR.or op_notIn_sign (OpR.or op_notin_str (OpR.or op_notIn_seq (OpR.or (op_notInD (by have := hr.un; omega)) (or_dnotin (hu_of hr)))))
end
theorem or_eqA {X : Cx} {k : Nat} (hr : Room k X.A) : OpR X (compareOp .Eq) (orR rEq (rEqD X.K)) := OpR.or op_eq (op_eqD hr.units)
theorem or_neA {X : Cx} {k : Nat} (hr : Room k X.A) : OpR X (compareOp .NotEq) (orR rNe (rNeD X.K)) := OpR.or op_ne (op_neD hr.units)
theorem or_isA {X : Cx} : OpR X (compareOp .Is) (orR rIsNA rIsB) := OpR.or op_isN op_isBl
theorem or_isnotA {X : Cx} : OpR X (compareOp .IsNot) (orR rNotNA rNotB) := OpR.or op_notN op_notBl
theorem gv_int {K : PySem.W.Frag} {mg : Str → Option Value} {x : Str} {u : Value} {i : Int} (h : mg x = some u) (e : absV u = some (.int i)) : GV K mg x (.int i) := by
  refine ⟨u, .int i, h, ?_, fun _ _ _ => .int _⟩
  cases u <;> first | (simp only [absV] at e; cases e; exact ⟨_, rfl⟩) | cases e
theorem gv_str {K : PySem.W.Frag} {mg : Str → Option Value} {x : Str} {u : Value} {i : Str} (h : mg x = some u) (e : absV u = some (.str i)) : GV K mg x (.str i) := by
  refine ⟨u, .str i, h, ?_, fun _ _ _ => .str _⟩
  cases u <;> first | (simp only [absV] at e; cases e; exact ⟨_, rfl⟩) | cases e
def strsOf : List Value → Option (List Str)
  | [] => some []
  | .str x _ :: r => (strsOf r).map (x :: ·)
  | _ => none
theorem strsOf_V : ∀ {us : List Value} {xs : List Str}, strsOf us = some xs → Vals (xs.map V.str) us
  | [], _, h => by simp only [strsOf] at h; cases h; exact .nil
  | u :: us, xs, h => by
    cases u <;> simp only [strsOf, Option.map_eq_some_iff] at h <;> first | cases h | skip
    obtain ⟨h1, rfl⟩ := by assumption
    exact .cons ⟨_, rfl⟩ (strsOf_V h1)
theorem reps_strs {K : PySem.W.Frag} {p : Nat → Addr} {n : Nat} {H : Hp} : ∀ xs : List Str, Reps K p n H (xs.map D.str) (xs.map V.str)
  | [] => .nil
  | x :: xs => .cons (.str x) (reps_strs xs)
theorem reps_ints {K : PySem.W.Frag} {p : Nat → Addr} {n : Nat} {H : Hp} : ∀ xs : List Int, Reps K p n H (xs.map D.int) (xs.map V.int)
  | [] => .nil
  | x :: xs => .cons (.int x) (reps_ints xs)
theorem gv_strs {K : PySem.W.Frag} {mg : Str → Option Value} {x : Str} {a : Addr} {od : Option Addr} {its : Array Value} {n : Nat} {sl : Array (Option Value)} {xs : List Str} {ds : List D} (h : mg x = some (.ref a)) (l : K.lookup a = some ⟨.type "tuple", od, .seq its n, sl⟩)
    (e : strsOf its.toList = some xs) (hd : ds = xs.map D.str) (hz : xs.length ≤ sizeLine := by decide) : GV K mg x (.wt ds) := by
  have v := strsOf_V e
  refine ⟨.ref a, .ref a, h, rfl, fun p m H => .wt (xs := xs.map V.str) ⟨_, its, n, l, rfl, rfl, ?_, v⟩ (by rw [hd]; exact reps_strs xs)⟩
  have := v.length
  simp only [List.length_map, Array.length_toList] at this
  omega
/-! ### the law's end -/
/-- the law's mirror says True, however the script stands -/
def LawTrue (m : MD) : Prop := ∀ (ns : List Int) (x : D) (S : Hs), ns.length ≤ 63 → (∀ z ∈ ns, Builtin.Int.intBits z ≤ 1048576) → S.length ≤ 1 → Wf S → x.low S.length → seqD x S = some (ns.map D.int) → (∀ o ∈ S, o = .rol (ns.map D.int)) → ∃ S', m [x] S = .ok (.bl true) S'
theorem law_end {K : PySem.W.Frag} {m : MD} (hm : LawTrue m) {H : Hp} {a : Addr} {ns : List Int} (hl : ns.length ≤ 63) (hb : ∀ z ∈ ns, Builtin.Int.intBits z ≤ 1048576) (hO : Only H) (hS : SqL K H a (ns.map V.int)) : spM K 1 m [.ref a] H (fun v _ => v = .bl true) fun _ _ _ => False := by
  have fin : ∀ {p : Nat → Addr} {S : Hs} {S' : Hs} {H : Hp} {r : R D}, r = .ok (.bl true) S' → Post K (fun _ _ _ _ => False) S.length p H r (QD K fun v _ => v = .bl true) := fun {p S S' H r} e => by
    subst e
    intro p' H' x R v r
    cases r; rfl
  have h0 : (∃ o, H a = some (.frz o (.lst (ns.map V.int)))) ∨ Wl K a (ns.map V.int) := by
    rcases hS with hS | hS
    · rcases hS with hS | ⟨o, hS⟩
      · rcases hO a with q | ⟨o, xs, q⟩
        · rw [q] at hS; cases hS
        · rw [q] at hS; cases hS
      · exact .inl ⟨o, hS⟩
    · exact .inr hS
  rcases h0 with ⟨o, h0⟩ | h0
  · have R0 : Real K (fun _ => a) [.rol (ns.map D.int)] H := by
      refine ⟨fun i o' e => ?_, fun i j hi hj _ => by simp at hi hj; omega⟩
      cases i with
      | zero => simp at e; subst e; exact ⟨o, _, h0, reps_ints ns⟩
      | succ i => simp at e
    obtain ⟨S', e⟩ := hm ns (.ref 0) [.rol (ns.map D.int)] hl hb (by simp) R0.wf (by simp [D.low]) rfl (by simp)
    exact ⟨fun _ => a, [.rol (ns.map D.int)], [.ref 0], R0, .cons (.ref (by simp)) .nil, rfl, fin e⟩
  · have R0 : Real K (fun _ => a) [] H := ⟨fun i o' e => by simp at e, fun i j hi hj _ => by simp at hi⟩
    have r0 : Rep K (fun _ => a) 0 H (.wl (ns.map D.int)) (.ref a) := .wl h0 (reps_ints ns)
    obtain ⟨S', e⟩ := hm ns (.wl (ns.map D.int)) [] hl hb (by simp) R0.wf (r0.low) rfl (by simp)
    exact ⟨fun _ => a, [], [.wl (ns.map D.int)], R0, .cons r0 .nil, rfl, fin e⟩
theorem law_noexc {P : Program} {w : World} {l : List Env} {H : Hp} {s : Shared} {e : Value} {s' : Shared} (h : L2.CX P w l H s (fun _ _ _ => False) e s') : False := by
  obtain ⟨_, _, _, _, _, _, _, _, _, _, _, _, z⟩ := h
  exact z
end Ly
set_option Elab.async false
set_option linter.all false
set_option maxRecDepth 100000
namespace Ly
open PySem PySem.Spec L2
open PyProof.Rows hiding St
/-! ### a op b op' c -/
def mChn (op op' : D → D → Hs → R D) (f g h : M) : M := fun l S => (f l S).bind fun x S1 => (g l S1).bind fun y S2 => (op x y S2).bind fun d S3 => match d with
  | .bl true => (h l S3).bind fun z S4 => op' y z S4
  | .bl false => .ok (.bl false) S3
  | _ => .bad
def mChnB (op op' : D → D → Hs → R D) (f g h : M) : MB := fun l S => (f l S).bind fun x S1 => (g l S1).bind fun y S2 => (op x y S2).bind fun d S3 => match d with
  | .bl true => (h l S3).bind fun z S4 => (op' y z S4).bind fun d S5 => match d with
    | .bl b => .ok b S5
    | _ => .bad
  | .bl false => .ok false S3
  | _ => .bad
section
variable {X : Cx} {E : St → XK} {a b c : Expr} {f g h : M} {pos : Pos} {r r' : R2} {op op' : D → D → Hs → R D} {o o' : CmpOp}
theorem e_chain (ho : OpR X (compareOp o) r) (ho' : OpR X (compareOp o') r') (hk : OpOk X.K E r op) (hk' : OpOk X.K E r' op') (ha : EM X E a f) (hb : EM X E b g) (hc : EM X E c h)
    (hm : lastMarks [o, o'] [b, c] = false := by with_unfolding_all rfl) : EM X E (.Compare a [o, o'] [b, c] pos) (mChn op op' f g h) :=
  ⟨(pe_chain ho ho' ha.pe hb.pe hc.pe hm).weak fun s H Q ⟨p, l, S, R, L, h⟩ => T.of R L h fun p1 S1 H1 d v R1 x1 L1 r1 h1 => T.of R1 L1 h1 fun p2 S2 H2 d2 v2 R2 x2 L2 r2 h2 =>
    hk p2 S2 H2 _ _ _ _ _ R2 (r1.ext x2 _ _) r2 (h2.bind.mono fun d3 S3 p3 H3 _ x3 R3 q w rw' => by
      cases rw' with
      | bl k =>
        cases k with
        | false => exact ⟨false, rfl, by rw [if_neg (by decide)]; exact q.val R3 (.bl _)⟩
        | true => exact ⟨true, rfl, by
            rw [if_pos rfl]
            exact T.of R3 (L2.ext x3) q fun p4 S4 H4 d4 v4 R4 x4 L4 r4 h4 => hk' p4 S4 H4 _ _ _ _ Q R4 ((r2.ext x3 _ _).ext x4 _ _) r4 h4⟩
      | _ => exact q.elim)⟩
theorem b_chain (ho : OpR X (compareOp o) r) (ho' : OpR X (compareOp o') r') (hk : OpOk X.K E r op) (hk' : OpOk X.K E r' op') (ha : EM X E a f) (hb : EM X E b g) (hc : EM X E c h)
    (hm : lastMarks [o, o'] [b, c] = false := by with_unfolding_all rfl) : BM X E (.Compare a [o, o'] [b, c] pos) (mChnB op op' f g h) :=
  ⟨(pt_chain ho ho' ha.pe hb.pe hc.pe hm).weak fun s H Q ⟨p, l, S, R, L, h⟩ => T.of R L h fun p1 S1 H1 d v R1 x1 L1 r1 h1 => T.of R1 L1 h1 fun p2 S2 H2 d2 v2 R2 x2 L2 r2 h2 =>
    hk p2 S2 H2 _ _ _ _ _ R2 (r1.ext x2 _ _) r2 (h2.bind.mono fun d3 S3 p3 H3 _ x3 R3 q w rw' => by
      cases rw' with
      | bl k =>
        cases k with
        | false => exact ⟨false, rfl, by rw [if_neg (by decide)]; exact ⟨false, rfl, Post.ok (Q := QB Q) q Ext.refl R3⟩⟩
        | true => exact ⟨true, rfl, by
            rw [if_pos rfl]
            exact T.of R3 (L2.ext x3) q fun p4 S4 H4 d4 v4 R4 x4 L4 r4 h4 => hk'.test R4 ((r2.ext x3 _ _).ext x4 _ _) r4 h4⟩
      | _ => exact q.elim)⟩
end
/-! ### f-strings -/
def mFmt (f : M) : M := fun l S => (f l S).bind fun x S1 => match x with
  | .str y => if y.length ≤ sizeLine then .ok (.str y) S1 else .bad
  | .int i => if i.natAbs.log2 < 1920 then .ok (.str (Str.ofString (toString i))) S1 else .bad
  | _ => .bad
def mJs : List M → Str → M
  | [], acc => fun _ S => .ok (.str acc) S
  | f :: fs, acc => fun l S => (f l S).bind fun x S1 => match x with
    | .str y => if (acc ++ y).length ≤ sizeLine then mJs fs (acc ++ y) l S1 else .bad
    | _ => .bad
section
variable {X : Cx} {E : St → XK} {e v1 v2 : Expr} {es rest : List Expr} {f f1 f2 : M} {fs : List M} {pos : Pos}
theorem e_fmt (h : EM X E e f) : EM X E (.FormattedValue e (-1) none pos) (mFmt f) :=
  ⟨(pe_fmt h.pe).weak fun s H Q ⟨p, l, S, R, L, h⟩ => T.of R L h fun p1 S1 H1 d v R1 x1 L1 r1 h1 => by
    cases r1 with
    | str y =>
      dsimp only at h1
      split at h1
      · exact .inl ⟨y, rfl, by assumption, h1.val R1 (.str _)⟩
      · exact h1.elim
    | int i =>
      dsimp only at h1
      split at h1
      · exact .inr ⟨i, rfl, by assumption, h1.val R1 (.str _)⟩
      · exact h1.elim
    | _ => exact h1.elim⟩
inductive JM (X : Cx) (E : St → XK) : List Expr → List M → Prop
  | nil : JM X E [] []
  | cons {e : Expr} {f : M} {es : List Expr} {fs : List M} (h : EM X E e f) (r : JM X E es fs) : JM X E (e :: es) (f :: fs)
theorem JM.pj (h : JM X E es fs) : PJ X es (fs.map (T X.K E)) := by
  induction h with
  | nil => exact .nil
  | cons h _ ih => exact .cons h.pe ih
theorem js_post {K : PySem.W.Frag} {s : St} {Q : VK} : ∀ (fs : List M) (acc : Str) (H : Hp) (p : Nat → Addr) (l : Ls) (S : Hs), Real K p S H → Sl K p S.length H l s → Post K E S.length p H (mJs fs acc l S) (QD K Q) → tJs (fs.map (T K E)) acc s H fun out H1 => Q (.str out) H1
  | [], acc, H, p, l, S, R, L, h => h.val R (.str _)
  | f :: fs, acc, H, p, l, S, R, L, h => T.of R L h fun p1 S1 H1 d v R1 x1 L1 r1 h1 => by
    cases r1 with
    | str y =>
      dsimp only at h1
      split at h1
      · exact ⟨y, rfl, by assumption, js_post fs _ H1 p1 l S1 R1 L1 h1⟩
      · exact h1.elim
    | _ => exact h1.elim
theorem e_joined (h : JM X E (v1 :: v2 :: rest) fs) : EM X E (.JoinedStr (v1 :: v2 :: rest) pos) (mJs fs Str.empty) :=
  ⟨(pe_joined h.pj).weak fun s H Q ⟨p, l, S, R, L, h⟩ => js_post fs Str.empty H p l S R L h⟩
theorem e_joined1 (h : EM X E e f) : EM X E (.JoinedStr [e] pos) f := ⟨pe_joined1 h.pe⟩
end
/-! ### written dicts with text keys -/
/-- the value u of the written part is d, in each store -/
def KV (K : PySem.W.Frag) (u : Value) (d : D) : Prop := ∃ v, RelV v u ∧ ∀ p n H, Rep K p n H d v
def KD (K : PySem.W.Frag) (w : World) (mg : Str → Option Value) (x : Str) (tbl : List (Str × D)) : Prop :=
  ∃ a es n, mg x = some (.ref a) ∧ KDict K w a es n ∧ ∀ z, match tbl.lookup z with
    | some d => ∃ u, PySem.W.nsIn K a z = some (some u) ∧ KV K u d
    | none => PySem.W.nsIn K a z = some none
inductive KVs (K : PySem.W.Frag) : List Value → List (Str × D) → Prop
  | nil : KVs K [] []
  | cons {u : Value} {x : Str} {d : D} {us : List Value} {r : List (Str × D)} (h : KV K u d) (t : KVs K us r) : KVs K (u :: us) ((x, d) :: r)
theorem kd_find {K : PySem.W.Frag} {P : Params} (z : Str) : ∀ {es : List DictEntry} {tbl : List (Str × D)}, es.map He.keyOf = He.keysIn P (tbl.map (·.1)) → KVs K (es.map (·.val)) tbl →
    (es.any (·.refKey)) = false ∧ match tbl.lookup z with
      | some d => ∃ e, es.find? (·.key.isStr z) = some e ∧ KV K e.val d
      | none => es.find? (·.key.isStr z) = none
  | [], [], _, _ => ⟨rfl, rfl⟩
  | [], _ :: _, h, _ => by cases h
  | _ :: _, [], h, _ => by cases h
  | e :: es, (x, d) :: tbl, h, k => by
    cases k with
    | cons hv ks =>
      have h1 : He.keyOf e :: es.map He.keyOf = some (x, PyData.keyHash P x) :: He.keysIn P (tbl.map (·.1)) := h
      injection h1 with h2 h3
      obtain ⟨q1, q2⟩ := kd_find (P := P) z h3 ks
      unfold He.keyOf at h2
      split at h2
      · rename_i y t hy
        have h4 := Option.some.inj h2
        obtain ⟨rfl, h6⟩ := Prod.mk.inj h4
        refine ⟨by rw [List.any_cons, q1, show e.refKey = false by simp [DictEntry.refKey, hy]]; rfl, ?_⟩
        · by_cases hz : z = y
          · subst hz
            have e1 : (e.key.isStr z) = true := by rw [hy]; simp [Value.isStr]
            simp only [List.lookup, beq_self_eq_true, List.find?_cons, e1]
            exact ⟨e, rfl, hv⟩
          · have e1 : (e.key.isStr z) = false := by rw [hy]; simp [Value.isStr]; exact fun hh => hz hh.symm
            have e2 : (z == y) = false := by simpa using hz
            simp only [List.lookup, e2, List.find?_cons, e1]
            exact q2
      · cases h2
theorem kd_mk {K : PySem.W.Frag} {w : World} {mg : Str → Option Value} {x : Str} {a : Addr} {es : Array DictEntry} {n : Nat} {tbl : List (Str × D)} (g : mg x = some (.ref a)) (l : K.lookup a = some ⟨.type "dict", none, .dict es n, #[]⟩) (low : (a == sysModules) = false)
    (t : es.toList.map He.keyOf = He.keysIn w.params (tbl.map (·.1))) (vs : KVs K (es.toList.map (·.val)) tbl) : KD K w mg x tbl := by
  refine ⟨a, es, n, g, ⟨l, He.keysLit_of t, low⟩, fun z => ?_⟩
  obtain ⟨q1, q2⟩ := kd_find (P := w.params) z t vs
  cases e : tbl.lookup z with
  | some d =>
    rw [e] at q2
    obtain ⟨en, h1, h2⟩ := q2
    refine ⟨en.val, ?_, h2⟩
    unfold PySem.W.nsIn
    rw [l]
    simp only [h1]
  | none =>
    rw [e] at q2
    show PySem.W.nsIn K a z = some none
    unfold PySem.W.nsIn
    rw [l]
    simp only [show es.toList.find? (·.key.isStr z) = none from q2, q1]
    rfl
def flatC : D → Option V
  | .int i => some (.int i)
  | .str x => some (.str x)
  | _ => none
theorem kv_flat {K : PySem.W.Frag} {u : Value} {d : D} {v : V} (h : flatC d = some v) (e : absV u = some v) : KV K u d := by
  cases d <;> simp only [flatC] at h <;> try cases h
  · cases u <;> first | (simp only [absV] at e; cases e; exact ⟨.int _, ⟨_, rfl⟩, fun _ _ _ => .int _⟩) | cases e
  · cases u <;> first | (simp only [absV] at e; cases e; exact ⟨.str _, ⟨_, rfl⟩, fun _ _ _ => .str _⟩) | cases e
theorem kvs_flat {K : PySem.W.Frag} : ∀ {es : List DictEntry} {tbl : List (Str × D)}, es.map (fun e => absV e.val) = tbl.map (fun q => flatC q.2) → (tbl.all fun q => (flatC q.2).isSome) = true → KVs K (es.map (·.val)) tbl
  | [], [], _, _ => .nil
  | [], _ :: _, h, _ => by cases h
  | _ :: _, [], h, _ => by cases h
  | e :: es, (x, d) :: tbl, h, k => by
    simp only [List.map_cons, List.cons.injEq] at h
    simp only [List.all_cons, Bool.and_eq_true] at k
    cases q : flatC d with
    | none => rw [q] at k; simp at k
    | some v => exact .cons (kv_flat q (h.1.trans q)) (kvs_flat h.2 k.2)
theorem kv_strs {K : PySem.W.Frag} {a : Addr} {od : Option Addr} {its : Array Value} {n : Nat} {sl : Array (Option Value)} {xs : List Str} {ds : List D} (l : K.lookup a = some ⟨.type "tuple", od, .seq its n, sl⟩)
    (e : strsOf its.toList = some xs) (hd : ds = xs.map D.str) (hz : xs.length ≤ sizeLine := by decide) : KV K (.ref a) (.wt ds) := by
  obtain ⟨u, v, h1, h2, h3⟩ := gv_strs (K := K) (mg := fun _ => some (.ref a)) (x := "x") rfl l e hd hz
  cases h1
  exact ⟨v, h2, h3⟩
def mIxK (tbl : List (Str × D)) (f : M) : M := fun l S => (f l S).bind fun x S1 => match x with
  | .str z => match tbl.lookup z with
    | some d => .ok d S1
    | none => .bad
  | _ => .bad
def mInK (tbl : List (Str × D)) (f : M) : M := fun l S => (f l S).bind fun x S1 => match x with
  | .str z => .ok (.bl (tbl.lookup z).isSome) S1
  | _ => .bad
def mNotInK (tbl : List (Str × D)) (f : M) : M := fun l S => (f l S).bind fun x S1 => match x with
  | .str z => .ok (.bl (!(tbl.lookup z).isSome)) S1
  | _ => .bad
def mInKB (tbl : List (Str × D)) (f : M) : MB := fun l S => (f l S).bind fun x S1 => match x with
  | .str z => .ok (tbl.lookup z).isSome S1
  | _ => .bad
def mNotInKB (tbl : List (Str × D)) (f : M) : MB := fun l S => (f l S).bind fun x S1 => match x with
  | .str z => .ok (!(tbl.lookup z).isSome) S1
  | _ => .bad
section
variable {X : Cx} {E : St → XK} {a : Expr} {f : M} {pos p2 : Pos} {x : Str} {tbl : List (Str × D)}
theorem kd_is {K : PySem.W.Frag} {w : World} {mg : Str → Option Value} (h : KD K w mg x tbl) (z : Str) : ∃ a es n r, mg x = some (.ref a) ∧ KDict K w a es n ∧ PySem.W.nsIn K a z = some r ∧ r.isSome = (tbl.lookup z).isSome := by
  obtain ⟨a, es, n, g, k, h⟩ := h
  have := h z
  cases e : tbl.lookup z with
  | some d =>
    rw [e] at this
    obtain ⟨u, h1, _⟩ := this
    exact ⟨a, es, n, some u, g, k, h1, rfl⟩
  | none =>
    rw [e] at this
    exact ⟨a, es, n, none, g, k, this, rfl⟩
theorem e_ixK (g : KD X.K X.w X.mg x tbl) (ha : EM X E a f) (hg : Gl X x := by rfl) (hd : (x == ("__debug__" : Str)) = false := by decide) (hs : PlainIx a := by intro _ _; rfl) : EM X E (.Subscript (.Name x p2) a pos) (mIxK tbl f) := by
  obtain ⟨d, es, n, hm, k, h⟩ := g
  exact ⟨(pe_ix (ix_kdict) (pe_glob hg hm (v := .ref d) rfl hd) ha.pe hs).weak fun s H Q ⟨p, l, S, R, L, h0⟩ => T.of R L h0 fun p1 S1 H1 d1 v R1 x1 L1 r1 h1 => by
    cases r1 with
    | str z =>
      dsimp only at h1
      have hz := h z
      cases e : tbl.lookup z with
      | none => rw [e] at h1; exact h1.elim
      | some dv =>
        rw [e] at h1 hz
        obtain ⟨u, hu, v, ru, rp⟩ := hz
        exact ⟨d, z, v, rfl, rfl, ⟨es, n, u, k.at_, k.lit, hu, ru⟩, h1.val R1 (rp _ _ _)⟩
    | _ => exact h1.elim⟩
theorem e_inK (g : KD X.K X.w X.mg x tbl) (ha : EM X E a f) (hg : Gl X x := by rfl) (hd : (x == ("__debug__" : Str)) = false := by decide) : EM X E (.Compare a [.In] [.Name x p2] pos) (mInK tbl f) := by
  obtain ⟨d, es, n, hm, k, h⟩ := id g
  exact ⟨(pe_cmpR (op_in_kd k) ha.pe (pe_glob hg hm (v := .ref d) rfl hd) (by rfl)).weak fun s H Q ⟨p, l, S, R, L, h0⟩ => T.of R L h0 fun p1 S1 H1 d1 v R1 x1 L1 r1 h1 => by
    cases r1 with
    | str z =>
      dsimp only at h1
      obtain ⟨a2, es2, n2, r, hm2, k2, hr, hb⟩ := kd_is g z
      rw [hm] at hm2; cases hm2
      rw [← hb] at h1
      exact ⟨z, r, rfl, rfl, hr, h1.val R1 (.bl _)⟩
    | _ => exact h1.elim⟩
theorem e_notinK (g : KD X.K X.w X.mg x tbl) (ha : EM X E a f) (hg : Gl X x := by rfl) (hd : (x == ("__debug__" : Str)) = false := by decide) : EM X E (.Compare a [.NotIn] [.Name x p2] pos) (mNotInK tbl f) := by
  obtain ⟨d, es, n, hm, k, h⟩ := id g
  exact ⟨(pe_cmpR (op_notIn_kd k) ha.pe (pe_glob hg hm (v := .ref d) rfl hd) (by rfl)).weak fun s H Q ⟨p, l, S, R, L, h0⟩ => T.of R L h0 fun p1 S1 H1 d1 v R1 x1 L1 r1 h1 => by
    cases r1 with
    | str z =>
      dsimp only at h1
      obtain ⟨a2, es2, n2, r, hm2, k2, hr, hb⟩ := kd_is g z
      rw [hm] at hm2; cases hm2
      rw [← hb] at h1
      exact ⟨z, r, rfl, rfl, hr, h1.val R1 (.bl _)⟩
    | _ => exact h1.elim⟩
theorem b_inK (g : KD X.K X.w X.mg x tbl) (ha : EM X E a f) (hg : Gl X x := by rfl) (hd : (x == ("__debug__" : Str)) = false := by decide) : BM X E (.Compare a [.In] [.Name x p2] pos) (mInKB tbl f) := by
  obtain ⟨d, es, n, hm, k, h⟩ := id g
  exact ⟨(pt_cmpR (op_in_kd k) ha.pe (pe_glob hg hm (v := .ref d) rfl hd) (by rfl)).weak fun s H Q ⟨p, l, S, R, L, h0⟩ => T.of R L h0 fun p1 S1 H1 d1 v R1 x1 L1 r1 h1 => by
    cases r1 with
    | str z =>
      dsimp only at h1
      obtain ⟨a2, es2, n2, r, hm2, k2, hr, hb⟩ := kd_is g z
      rw [hm] at hm2; cases hm2
      rw [← hb] at h1
      exact ⟨z, r, rfl, rfl, hr, _, rfl, Post.ok (Q := QB Q) h1 Ext.refl R1⟩
    | _ => exact h1.elim⟩
theorem b_notinK (g : KD X.K X.w X.mg x tbl) (ha : EM X E a f) (hg : Gl X x := by rfl) (hd : (x == ("__debug__" : Str)) = false := by decide) : BM X E (.Compare a [.NotIn] [.Name x p2] pos) (mNotInKB tbl f) := by
  obtain ⟨d, es, n, hm, k, h⟩ := id g
  exact ⟨(pt_cmpR (op_notIn_kd k) ha.pe (pe_glob hg hm (v := .ref d) rfl hd) (by rfl)).weak fun s H Q ⟨p, l, S, R, L, h0⟩ => T.of R L h0 fun p1 S1 H1 d1 v R1 x1 L1 r1 h1 => by
    cases r1 with
    | str z =>
      dsimp only at h1
      obtain ⟨a2, es2, n2, r, hm2, k2, hr, hb⟩ := kd_is g z
      rw [hm] at hm2; cases hm2
      rw [← hb] at h1
      exact ⟨z, r, rfl, rfl, hr, _, rfl, Post.ok (Q := QB Q) h1 Ext.refl R1⟩
    | _ => exact h1.elim⟩
def mGetK2 (tbl : List (Str × D)) (f g : M) : M := fun l S => (f l S).bind fun x S1 => match x with
  | .str z => (g l S1).bind fun y S2 => (match tbl.lookup z with
    | some d => .ok d S2
    | none => .ok y S2)
  | _ => .bad
theorem e_getK2 {e e2 : Expr} {fe fe2 : M} {apos cpos : Pos} (g : KD X.K X.w X.mg x tbl) (he : EM X E e fe) (hf : EM X E e2 fe2) (hg : Gl X x := by rfl) (hd : (x == ("__debug__" : Str)) = false := by decide) (m : M2 X (.Name x p2) "get" apos e e2 cpos := by exact ⟨rfl, rfl, rfl, rfl⟩) :
    EM X E (.Call (.Attribute (.Name x p2) "get" apos) [e, e2] [] cpos) (mGetK2 tbl fe fe2) := by
  obtain ⟨a, es, n, hm, k, h⟩ := id g
  refine ⟨⟨fun pins s σ H Q I ⟨p, l, S, R, L, h0⟩ => ?_⟩⟩
  refine wpAny_Call_method m.base m.few m.line PySem.F.plainAttrs_dict PySem.F.slot_dict_get PySem.F.type_dict_get (ld_glob I hg hm ?_ hd)
  have hmap := PySem.W.mapOf_K (prog := X.prog) (w := X.w) I.kIn k.at_ k.lit
  refine ⟨hmap.typeIs, fun b q => ?_, ?_⟩
  · cases q
    exact ⟨_, I.kIn _ _ k.at_, rfl⟩
  · rw [m.trees]
    have hT : T X.K E fe σ H fun x H1 => ∃ z, x = .str z ∧ T X.K E fe2 σ H1 fun y H2 => match tbl.lookup z with
        | some d => ∀ v, (∀ p n H, Rep X.K p n H d v) → Q v H2
        | none => Q y H2 := T.of R L h0 fun p1 S1 H1 d1 v R1 x1 L1 r1 h1 => by
      cases r1 with
      | str z =>
        refine ⟨z, rfl, T.of R1 L1 h1 fun p2 S2 H2 d2 v2 R2 x2 L2 r2 h2 => ?_⟩
        skip
        cases e : tbl.lookup z with
        | some d => rw [e] at h2; exact fun v hv => h2.val R2 (hv _ _ _)
        | none => rw [e] at h2; exact h2.val R2 r2
      | _ => exact h1.elim
    refine Calls.callWith_builtin rfl (Calls.evalArgs_plain (Calls.spliced_cons (thn (he.pe.run pins _ σ H _ (I.tok _) hT) fun iv s2 ⟨x1, H1, I1, rx, z, ez, q1⟩ => Calls.spliced_cons (thn (hf.pe.run pins s2 σ H1 _ I1 q1) fun dv s3 ⟨y1, H2, I2, ry, q2⟩ => Calls.spliced_nil ?_))))
    subst ez
    obtain ⟨t, rfl⟩ := rx
    have hmap2 := PySem.W.mapOf_K (prog := X.prog) (w := X.w) I2.kIn k.at_ k.lit
    refine call_meetsIn PySem.F.slot_dict_get hmap2.typeIs PySem.F.entry_dict_get (PySem.F.args_dict_get_3 _ _ _) (meets_dict_get_default (strKind X.prog X.w) a (strKind_is X.prog X.w z t) k.low dv) ⟨_, hmap2, ?_⟩
    have hz := h z
    cases e : tbl.lookup z with
    | some d =>
      rw [e] at hz q2
      obtain ⟨u, hu, v, ru, rp⟩ := hz
      rw [PySem.W.find_K k.at_ hu]
      exact ⟨v, H2, I2.tok _, ru, q2 v rp⟩
    | none =>
      rw [e] at hz q2
      rw [PySem.W.find_K k.at_ hz]
      exact ⟨y1, H2, I2.tok _, ry, q2⟩
end
end Ly
set_option Elab.async false
set_option linter.all false
set_option maxRecDepth 100000
namespace Ly
open PySem PySem.Spec L2
open PyProof.Rows hiding St
/-! ### instances of the program's classes -/
def putD (f : Str) (d : D) : List (Str × D) → List (Str × D)
  | [] => [(f, d)]
  | (g, x) :: r => if g = f then (g, d) :: r else (g, x) :: putD f d r
section
variable {K : PySem.W.Frag} {p : Nat → Addr} {n : Nat} {H : Hp}
theorem fs_some {f : Str} : ∀ {fs : List (Str × D)} {ks : List (Str × V)} {d : D}, ks.map (·.1) = fs.map (·.1) → Reps K p n H (fs.map (·.2)) (ks.map (·.2)) → fs.lookup f = some d → ∃ v, ks.lookup f = some v ∧ Rep K p n H d v
  | [], _, _, _, _, e => by cases e
  | (g, x) :: fs, [], _, h, _, _ => by cases h
  | (g, x) :: fs, (g', y) :: ks, d, h, r, e => by
    simp only [List.map_cons, List.cons.injEq] at h
    cases r with
    | cons r0 rs =>
      have hg : g' = g := h.1
      subst hg
      simp only [List.lookup] at e ⊢
      split at e
      · cases e; exact ⟨y, rfl, r0⟩
      · exact fs_some h.2 rs e
theorem fs_none {f : Str} : ∀ {fs : List (Str × D)} {ks : List (Str × V)}, ks.map (·.1) = fs.map (·.1) → fs.lookup f = none → ks.lookup f = none
  | [], [], _, _ => rfl
  | [], _ :: _, h, _ => by cases h
  | _ :: _, [], h, _ => by cases h
  | (g, x) :: fs, (g', y) :: ks, h, e => by
    simp only [List.map_cons, List.cons.injEq] at h
    have hg : g' = g := h.1
    subst hg
    simp only [List.lookup] at e ⊢
    split at e
    · cases e
    · exact fs_none h.2 e
theorem fs_put {f : Str} {d : D} {v : V} (rv : Rep K p n H d v) : ∀ {fs : List (Str × D)} {ks : List (Str × V)}, ks.map (·.1) = fs.map (·.1) → Reps K p n H (fs.map (·.2)) (ks.map (·.2)) →
    (putF f v ks).map (·.1) = (putD f d fs).map (·.1) ∧ Reps K p n H ((putD f d fs).map (·.2)) ((putF f v ks).map (·.2))
  | [], [], _, _ => ⟨rfl, .cons rv .nil⟩
  | [], _ :: _, h, _ => by cases h
  | _ :: _, [], h, _ => by cases h
  | (g, x) :: fs, (g', y) :: ks, h, r => by
    simp only [List.map_cons, List.cons.injEq] at h
    have hg : g' = g := h.1
    subst hg
    cases r with
    | cons r0 rs =>
      obtain ⟨h1, h2⟩ := fs_put rv h.2 rs
      simp only [putF, putD]
      split
      · exact ⟨by simp [h.2], .cons rv rs⟩
      · exact ⟨by simp [h1], .cons r0 h2⟩
end
/-- o.f -/
def mFld (cs : List Addr) (f : Str) (o : M) : M := fun l S => (o l S).bind fun x S1 => match x with
  | .ref i => match S1[i]? with
    | some (.ins C fs) => if C ∈ cs then (match fs.lookup f with
      | some d => .ok d S1
      | none => .bad) else .bad
    | _ => .bad
  | _ => .bad
/-- o.f = e -/
def mFldSet (cs : List Addr) (f : Str) (e o : M) : MS := fun l S => (e l S).bind fun d S1 => (o l S1).bind fun x S2 => match x with
  | .ref i => match S2[i]? with
    | some (.ins C fs) => if C ∈ cs ∧ fs.length < 1000 then .ok (.nx l) (S2.set i (.ins C (putD f d fs))) else .bad
    | _ => .bad
  | _ => .bad
/-- what the classes must have -/
def FOk (K : PySem.W.Frag) (cs : List Addr) (f : Str) : Prop := ∀ C ∈ cs, Cls K C ∧ NoAttr K C f
section
variable {X : Cx} {E : St → XK} {e o : Expr} {eo ee : M} {cs : List Addr} {f : Str} {pos pos' : Pos}
theorem e_fld (k : FOk X.K cs f) (ho : EM X E o eo) (hb : attributeBase o f X.env (eval o X.env) = eval o X.env := by rfl) : EM X E (.Attribute o f pos) (mFld cs f eo) :=
  ⟨(pe_fld ho.pe hb).weak fun s H Q ⟨p, l, S, R, L, h⟩ => T.of R L h fun p1 S1 H1 d v R1 x1 L1 r1 h1 => by
    cases r1 with
    | ref hi =>
      dsimp only at h1
      split at h1
      · rename_i C fs q
        split at h1
        · rename_i hC
          split at h1
          · rename_i d e1
            obtain ⟨dx, ks, g1, g2, g3⟩ := R1.ob _ _ q
            obtain ⟨v, g4, g5⟩ := fs_some g2 g3 e1
            exact ⟨_, C, dx, ks, v, rfl, g1, (k C hC).1, (k C hC).2, g4, h1.val R1 g5⟩
          · exact h1.elim
        · exact h1.elim
      · exact h1.elim
    | _ => exact h1.elim⟩
theorem s_fldset (k : FOk X.K cs f) (he : EM X E e ee) (ho : EM X E o eo) (hs : swapsWith e (some (.Attribute o f pos')) pos.line X.env = pure false := by rfl) : SM X E (.Assign [.Attribute o f pos'] e pos) (mFldSet cs f ee eo) :=
  ⟨(ps_fld ho.pe he.pe hs).weak fun s H D0 ⟨p, l, S, R, L, h⟩ => T.of R L h fun p1 S1 H1 d v R1 x1 L1 r1 h1 => T.of R1 L1 h1 fun p2 S2 H2 d2 v2 R2 x2 L2 r2 h2 => by
    cases r2 with
    | ref hi =>
      dsimp only at h2
      split at h2
      · rename_i C fs q
        split at h2
        · rename_i hC
          obtain ⟨dx, ks, g1, g2, g3⟩ := R2.ob _ _ q
          have hlt := Real.lt q
          obtain ⟨k1, k2⟩ := fs_put (f := f) (r1.ext x2 _ _) g2 g3
          have hks : ks.length = fs.length := by have := congrArg List.length g2; simpa using this
          refine ⟨_, C, dx, ks, rfl, g1, (k C hC.1).1, (k C hC.1).2, by rw [hks]; exact hC.2, ?_⟩
          have xu : Ext S2.length S2.length p2 p2 H2 (upd H2 (p2 _) (.ins C dx (putF f v ks))) := ext_upd (R2.notup hlt)
          have R3 := R2.put hlt (o := .ins C (putD f d fs)) (u := .ins C dx (putF f v ks)) ⟨dx, _, upd_same, k1, k2.ext xu _ _⟩
          have L3 := L2.ext xu
          exact Post.ok (Q := QF _ D0) h2 (by rw [List.length_set]; exact xu) R3 s (by rw [List.length_set]; exact L3)
        · exact h2.elim
      · exact h2.elim
    | _ => exact h2.elim⟩
end
/-- C(..) -/
def mMake (C : Addr) (md : MD) (g : ML) : M := fun l S => (g l S).bind fun ds S1 => ((md (.ref S1.length :: ds) (S1 ++ [.ins C []])).at l).bind fun d S2 => match d with
  | .non => .ok (.ref S1.length) S2
  | _ => .bad
section
variable {X : Cx} {E0 : XK} {CX : CXT} {e o : Expr} {es : List Expr} {eo : M} {g : ML} {m x : Str} {k np : Nat} {f C : Addr} {fd : FuncData} {ps : List Str} {md : MD} {pos apos p0 : Pos}
theorem make_post {K : PySem.W.Frag} {q : Nat → Addr} {S : Hs} {H : Hp} {s : St} {l : Ls} {ds : List D} {vs : List V} {Q : VK} {C : Addr} (hl : ∀ ds S, ds.length ≠ np → md ds S = .bad) (R : Real K q S H) (L : Sl K q S.length H l s) (r : Reps K q S.length H ds vs)
    (h : Post K (fun _ => E0) S.length q H (((md (.ref S.length :: ds) (S ++ [.ins C []])).at l).bind fun d S2 => match d with
      | .non => .ok (.ref S.length) S2
      | _ => .bad) (QD K Q)) : ∀ a dx, H a = none → H dx = none → dx ≠ a → spM K np md (.ref a :: (vs ++ [])) (upd (upd H dx (.own a)) a (.ins C dx [])) (fun v H2 => v = .non ∧ Q (.ref a) H2) E0 := by
  intro a dx ha hd hne
  have hjunk := R.junk (u := .own a) hd
  have ha2 : upd H dx (.own a) a = none := by rw [upd_ne (Ne.symm hne)]; exact ha
  have R2 : Real K (piN q S.length a) (S ++ [.ins C []]) (upd (upd H dx (.own a)) a (.ins C dx [])) := hjunk.new ha2 ⟨dx, [], upd_same, rfl, .nil⟩
  have x2 : Ext S.length (S.length + 1) q (piN q S.length a) H (upd (upd H dx (.own a)) a (.ins C dx [])) := (ext_junk hd).trans (ext_new ha2)
  have e1 : (S ++ [O.ins C []]).length = S.length + 1 := by simp
  refine ⟨piN q S.length a, S ++ [.ins C []], .ref S.length :: ds, R2, ?_, ?_, ?_⟩
  · rw [List.append_nil, e1]
    refine .cons ?_ (r.ext x2 _ _)
    have h0 : Rep K (piN q S.length a) (S.length + 1) (upd (upd H dx (.own a)) a (.ins C dx [])) (.ref S.length) (.ref (piN q S.length a S.length)) := .ref (Nat.lt_succ_self _)
    rwa [piN_same] at h0
  · apply Classical.byContradiction
    intro hne
    rw [hl _ _ hne] at h
    exact h
  · have L2 := L.ext x2
    rw [e1]
    have h4 := fn_post (E := fun _ => E0) L2 (Post.ext h x2).bind
    refine h4.mono fun d S2 p2 H2 _ x3 R3 q v rv => ?_
    have hle := x3.le
    have hp : p2 S.length = a := (x3.ag _ (Nat.lt_succ_self _)).trans piN_same
    cases rv with
    | non =>
      refine ⟨rfl, Post.ok (Q := QD K Q) q Ext.refl R3 _ ?_⟩
      have h0 : Rep K p2 S2.length H2 (.ref S.length) (.ref (p2 S.length)) := .ref (by omega)
      rwa [hp] at h0
    | _ => exact q.elim
theorem e_make (M : Mk X.K C f) (F : FnOk X.prog X.w X.K X.mg X.base CX k f fd ps (spM X.K np md)) (hl : ∀ ds S, ds.length ≠ np → md ds S = .bad) (hr : Room (k + 1) X.A) (hg : Gl X x) (hm : X.mg x = some (.ref C)) (hb : Binds X.K fd ps []) (hx : Passes CX X E0)
    (ha : LM X (fun _ => E0) (e :: es) g) (hdb : (x == ("__debug__" : Str)) = false := by decide) (he : starEach (e :: es) X.env = (false, eval e X.env) :: starEach es X.env := by rfl) (hpl : (backTo pos (starEach es X.env)).any (·.1) = false := by rfl) :
    EM X (fun _ => E0) (.Call (.Name x p0) (e :: es) [] pos) (mMake C md g) :=
  ⟨(pe_make M F hr hg hm hb .nil hx ha.pa hdb he hpl).weak fun s H Q ⟨q, l, S, R, L, h⟩ => TL.of R L h fun p1 S1 H1 d v R1 x1 L1 r1 h1 => make_post hl R1 L1 r1 h1⟩
theorem e_make0 (M : Mk X.K C f) (F : FnOk X.prog X.w X.K X.mg X.base CX k f fd ps (spM X.K np md)) (hl : ∀ ds S, ds.length ≠ np → md ds S = .bad) (hr : Room (k + 1) X.A) (hg : Gl X x) (hm : X.mg x = some (.ref C)) (hb : Binds X.K fd ps []) (hx : Passes CX X E0)
    (hdb : (x == ("__debug__" : Str)) = false := by decide) : EM X (fun _ => E0) (.Call (.Name x p0) [] [] pos) (mMake C md lNil) :=
  ⟨(pe_make0 M F hr hg hm hb .nil hx hdb).weak fun s H Q ⟨q, l, S, R, L, h⟩ => make_post hl R L .nil h⟩
end
/-- o.f op= e -/
def mFldAug (cs : List Addr) (f : Str) (op : D → D → Hs → R D) (o e : M) : MS := fun l S => (o l S).bind fun x S1 => match x with
  | .ref i => match S1[i]? with
    | some (.ins C fs) => if C ∈ cs then (match fs.lookup f with
      | some d0 => (e l S1).bind fun d S2 => (op d0 d S2).bind fun z S3 => match S3[i]? with
        | some (.ins C' fs') => if C' = C ∧ fs'.length < 1000 then .ok (.nx l) (S3.set i (.ins C (putD f z fs'))) else .bad
        | _ => .bad
      | none => .bad) else .bad
    | _ => .bad
  | _ => .bad
section
variable {X : Cx} {E : St → XK} {e o : Expr} {eo ee : M} {cs : List Addr} {f : Str} {pos tpos : Pos} {r : R2} {op : D → D → Hs → R D} {ao : Operator}
theorem s_fldaug (k : FOk X.K cs f) (hop : OpR X (inplaceOp ao) r) (hk : OpOk X.K E r op) (ho : EM X E o eo) (he : EM X E e ee) : SM X E (.AugAssign (.Attribute o f tpos) ao e pos) (mFldAug cs f op eo ee) :=
  ⟨(ps_fldaug (rd := r) ho.pe he.pe (fun pins s σ H x y u v Q I rx ry q => hop pins s σ H x y u v Q I rx ry q)).weak fun s H D0 ⟨p, l, S, R, L, h⟩ => T.of R L h fun p1 S1 H1 d v R1 x1 L1 r1 h1 => by
    cases r1 with
    | @ref i hi =>
      dsimp only at h1
      split at h1
      · rename_i C fs q
        split at h1
        · rename_i hC
          split at h1
          · rename_i d0 e1
            obtain ⟨dx, ks, g1, g2, g3⟩ := R1.ob _ _ q
            obtain ⟨v0, g4, g5⟩ := fs_some g2 g3 e1
            refine ⟨_, C, dx, ks, v0, rfl, g1, (k C hC).1, (k C hC).2, g4, T.of R1 L1 h1 fun p2 S2 H2 d2 v2 R2 x2 L2 r2 h2 => ?_⟩
            refine hk p2 S2 H2 _ _ _ _ _ R2 (g5.ext x2 _ _) r2 (h2.bind.mono fun z S3 p3 H3 _ x3 R3 q3 w rw' => ?_)
            split at q3
            · rename_i C' fs' q4
              split at q3
              · rename_i hC'
                obtain ⟨dx', ks', k1, k2, k3⟩ := R3.ob _ _ q4
                have hp : p3 i = p1 i := ((x2.trans x3).ag i hi)
                have hlt := Real.lt q4
                have hks : ks'.length = fs'.length := by have := congrArg List.length k2; simpa using this
                obtain ⟨m1, m2⟩ := fs_put (f := f) rw' k2 k3
                have hCC := hC'.1
                subst hCC
                refine ⟨dx', ks', by rw [← hp]; exact k1, by rw [hks]; exact hC'.2, ?_⟩
                rw [← hp]
                have xu : Ext S3.length S3.length p3 p3 H3 (upd H3 (p3 i) (.ins C' dx' (putF f w ks'))) := ext_upd (R3.notup hlt)
                have R4 := R3.put hlt (o := .ins C' (putD f z fs')) (u := .ins C' dx' (putF f w ks')) ⟨dx', _, upd_same, m1, m2.ext xu _ _⟩
                have L4 := (L2.ext x3).ext xu
                exact Post.ok (Q := QF _ D0) q3 (by rw [List.length_set]; exact xu) R4 s (by rw [List.length_set]; exact L4)
              · exact q3.elim
            · exact q3.elim
          · exact h1.elim
        · exact h1.elim
      · exact h1.elim
    | _ => exact h1.elim⟩
theorem s_fldaddD (k : FOk X.K cs f) (ho : EM X E o eo) (he : EM X E e ee) : SM X E (.AugAssign (.Attribute o f tpos) .Add e pos) (mFldAug cs f oIAdd eo ee) := s_fldaug k (OpR.or iop_add iop_add_str) ok_iadd ho he
theorem s_fldsubD (k : FOk X.K cs f) (ho : EM X E o eo) (he : EM X E e ee) : SM X E (.AugAssign (.Attribute o f tpos) .Sub e pos) (mFldAug cs f oSub eo ee) := s_fldaug k iop_sub ok_sub2 ho he
end
/-! ### methods -/
def mMeth (tbl : List (Addr × MD)) (m : Str) (o : M) (g : ML) : M := fun l S => (o l S).bind fun x S1 => match x with
  | .ref i => match S1[i]? with
    | some (.ins C fs) => (match tbl.lookup C with
      | some md => if (fs.lookup m).isNone then (g l S1).bind fun ds S2 => (md (.ref i :: ds) S2).at l else .bad
      | none => .bad)
    | _ => .bad
  | _ => .bad
/-- what a class and its method must have -/
def MOk (P : Program) (w : World) (K : PySem.W.Frag) (mg : Str → Option Value) (base : Heap) (CX : CXT) (k : Nat) (m : Str) (C : Addr) (md : MD) : Prop := ∃ (np : Nat) (f : Addr) (fd : FuncData) (ps : List Str), Cls K C ∧ Meth K C m f ∧ FnOk P w K mg base CX k f fd ps (spM K np md) ∧ Binds K fd ps [] ∧ ∀ ds S, ds.length ≠ np → md ds S = .bad
section
variable {P : Program} {w : World} {K : PySem.W.Frag} {mg : Str → Option Value} {base : Heap} {CX : CXT} {k : Nat} {m : Str}
inductive MOks (P : Program) (w : World) (K : PySem.W.Frag) (mg : Str → Option Value) (base : Heap) (CX : CXT) (k : Nat) (m : Str) : List (Addr × MD) → Prop
  | one {C : Addr} {md : MD} (h : MOk P w K mg base CX k m C md) : MOks P w K mg base CX k m [(C, md)]
  | cons {C : Addr} {md : MD} {r : List (Addr × MD)} (h : MOk P w K mg base CX k m C md) (t : MOks P w K mg base CX k m r) : MOks P w K mg base CX k m ((C, md) :: r)
theorem MOks.get {tbl : List (Addr × MD)} (h : MOks P w K mg base CX k m tbl) {C : Addr} {md : MD} (e : tbl.lookup C = some md) : MOk P w K mg base CX k m C md := by
  induction h with
  | one h =>
    simp only [List.lookup] at e
    split at e
    · cases e; rename_i q; rw [show C = _ from by simpa using q]; exact h
    · cases e
  | cons h t ih =>
    simp only [List.lookup] at e
    split at e
    · cases e; rename_i q; rw [show C = _ from by simpa using q]; exact h
    · exact ih e
theorem MOks.some {tbl : List (Addr × MD)} (h : MOks P w K mg base CX k m tbl) : ∃ C md, MOk P w K mg base CX k m C md := by
  cases h with
  | one h => exact ⟨_, _, h⟩
  | cons h _ => exact ⟨_, _, h⟩
/-- a method, by its class and its def -/
theorem mok {C f : Addr} {fd : FuncData} {ps : List Str} {np j : Nat} {md : MD} (c : Cls K C) (hm : Meth K C m f) (F : FnOk P w K mg base CX j f fd ps (spM K np md)) (hj : j ≤ k) (hb : Binds K fd ps []) (hl : ∀ ds S, ds.length ≠ np → md ds S = .bad) : MOk P w K mg base CX k m C md :=
  ⟨np, f, fd, ps, c, hm, F.mono hj, hb, hl⟩
/-- a def of a class -/
structure MetAt (K : PySem.W.Frag) (m qual : Str) (st : Stmt) (ps : List Str) (f : Addr) (fd : FuncData) : Prop where
  F : Fun K m qual st f fd
  b : Binds K fd ps []
end
section
variable {X : Cx} {E0 : XK} {CX : CXT} {e o : Expr} {es : List Expr} {eo : M} {g : ML} {m : Str} {k : Nat} {tbl : List (Addr × MD)} {pos apos : Pos} {pl : Sem Bool}
/-- what the object is, is known before it is run: the mirror is a function -/
theorem meth_post {K : PySem.W.Frag} {q : Nat → Addr} {S : Hs} {H : Hp} {s : St} {l : Ls} {Q : VK} (R : Real K q S H) (L : Sl K q S.length H l s) (h : Post K (fun _ => E0) S.length q H (mMeth tbl m eo g l S) (QD K Q)) :
    (∃ C md, tbl.lookup C = some md ∧ T K (fun _ => E0) eo s H fun x H1 => ∃ a dx fs, x = .ref a ∧ H1 a = some (.ins C dx fs) ∧ fs.lookup m = none ∧ TL K (fun _ => E0) g s H1 fun vs H2 => ∃ p S2 ds, Real K p S2 H2 ∧ Reps K p S2.length H2 ds (x :: vs) ∧ Post K (fun _ => E0) S2.length p H2 (md ds S2) (QD K Q)) ∨
      ∀ Q', T K (fun _ => E0) eo s H Q' := by
  cases er : eo l S with
  | exc c fs l2 S2 => exact .inr fun Q' => ⟨q, l, S, R, L, by rw [er]; unfold mMeth at h; rw [er] at h; exact h⟩
  | bad => unfold mMeth at h; rw [er] at h; exact h.elim
  | ok x S1 =>
    have h0 := h
    unfold mMeth at h
    rw [er] at h
    simp only [Ly.R.bind_ok] at h
    split at h
    · rename_i i
      split at h
      · rename_i C fs q1
        split at h
        · rename_i md e1
          split at h
          · rename_i hn
            refine .inl ⟨C, md, e1, q, l, S, R, L, ?_⟩
            rw [er]
            intro p1 H1 x1 R1 v rv
            have h' := Post.ext h x1
            cases rv
            obtain ⟨dx, ks, g1, g2, g3⟩ := R1.ob _ _ q1
            have L1 := L.ext x1
            refine ⟨_, dx, ks, rfl, g1, fs_none g2 (Option.isNone_iff_eq_none.mp hn), TL.of R1 L1 h' fun p2 S2 H2 ds vs R2 x2 L2 r2 h2 => ?_⟩
            have hi := Real.lt q1
            refine ⟨p2, S2, .ref i :: ds, R2, .cons ?_ r2, fn_post (E := fun _ => E0) L2 h2⟩
            have h3 : Rep K p1 S1.length H1 (.ref i) (.ref (p1 i)) := .ref hi
            exact h3.ext x2 _ _
          · exact h.elim
        · exact h.elim
      · exact h.elim
    · exact h.elim
theorem e_meth (hM : MOks X.prog X.w X.K X.mg X.base CX k m tbl) (hr : Room k X.A) (hx : Passes CX X E0) (ho : EM X (fun _ => E0) o eo) (ha : LM X (fun _ => E0) (e :: es) g)
    (hpl : (backTo pos (starEach es X.env)).any (·.1) = false := by rfl) (hst : starEach (e :: es) X.env = (false, eval e X.env) :: starEach es X.env := by rfl)
    (ht : eval (.Call (.Attribute o m apos) (e :: es) [] pos) X.env = (do let ov ← eval o X.env; standAt apos.atName; let (f, first) ← holding [ov] (getMethod ov m pl); callWith pos f first (backTo pos (starEach (e :: es) X.env)) (backToKw pos (keywordEach [] X.env))) := by rfl) :
    EM X (fun _ => E0) (.Call (.Attribute o m apos) (e :: es) [] pos) (mMeth tbl m eo g) := by
  refine ⟨⟨fun pins s σ H Q I ⟨p, l, S, R, L, h⟩ => ?_⟩⟩
  rcases meth_post R L h with ⟨C, md, e1, hT⟩ | hT
  · obtain ⟨np, f, fd, ps, c, hm, F, hb, hl⟩ := hM.get e1
    refine (pe_meth (pl := pl) ho.pe c hm F hr hb .nil hx ha.pa hst hpl ht).run pins s σ H Q I ?_
    obtain ⟨q0, l0, S0, R0, L0, h0⟩ := hT
    refine ⟨q0, l0, S0, R0, L0, h0.mono fun x S1 p1 H1 _ x1 R1 hq v rv => ?_⟩
    obtain ⟨a, dx, fs, rfl, g1, g2, q2, l2, S2, R2, L2, h2⟩ := hq v rv
    refine ⟨a, dx, fs, rfl, g1, g2, q2, l2, S2, R2, L2, h2.mono fun ds S3 p3 H3 _ x3 R3 hq3 vs rvs => ?_⟩
    obtain ⟨p4, S4, ds4, R4, r4, h4⟩ := hq3 vs rvs
    rw [List.append_nil]
    refine ⟨p4, S4, ds4, R4, r4, ?_, h4⟩
    apply Classical.byContradiction
    intro hne
    rw [hl _ _ hne] at h4
    exact h4
  · obtain ⟨C, md, np, f, fd, ps, c, hm, F, hb, hl⟩ := hM.some
    exact (pe_meth (pl := pl) ho.pe c hm F hr hb .nil hx ha.pa hst hpl ht).run pins s σ H Q I (hT _)
theorem e_meth0 (hM : MOks X.prog X.w X.K X.mg X.base CX k m tbl) (hr : Room k X.A) (hx : Passes CX X E0) (ho : EM X (fun _ => E0) o eo)
    (ht : eval (.Call (.Attribute o m apos) [] [] pos) X.env = (do let ov ← eval o X.env; standAt apos.atName; let (f, first) ← holding [ov] (getMethod ov m pl); callWith pos f first (backTo pos (starEach [] X.env)) (backToKw pos (keywordEach [] X.env))) := by rfl) :
    EM X (fun _ => E0) (.Call (.Attribute o m apos) [] [] pos) (mMeth tbl m eo lNil) := by
  refine ⟨⟨fun pins s σ H Q I ⟨p, l, S, R, L, h⟩ => ?_⟩⟩
  rcases meth_post R L h with ⟨C, md, e1, hT⟩ | hT
  · obtain ⟨np, f, fd, ps, c, hm, F, hb, hl⟩ := hM.get e1
    refine (pe_meth0 (pl := pl) ho.pe c hm F hr hb .nil hx ht).run pins s σ H Q I ?_
    obtain ⟨q0, l0, S0, R0, L0, h0⟩ := hT
    refine ⟨q0, l0, S0, R0, L0, h0.mono fun x S1 p1 H1 _ x1 R1 hq v rv => ?_⟩
    obtain ⟨a, dx, fs, rfl, g1, g2, q2, l2, S2, R2, L2, h2⟩ := hq v rv
    refine ⟨a, dx, fs, rfl, g1, g2, ?_⟩
    obtain ⟨p4, S4, ds4, R4, r4, h4⟩ := Post.ok (Q := QL X.K _) h2 Ext.refl R2 [] .nil
    refine ⟨p4, S4, ds4, R4, r4, ?_, h4⟩
    apply Classical.byContradiction
    intro hne
    rw [hl _ _ hne] at h4
    exact h4
  · obtain ⟨C, md, np, f, fd, ps, c, hm, F, hb, hl⟩ := hM.some
    exact (pe_meth0 (pl := pl) ho.pe c hm F hr hb .nil hx ht).run pins s σ H Q I (hT _)
end
/-! ### the law's end, where classes are: the mirror does it for all their addresses -/
def spX (K : PySem.W.Frag) (np : Nat) (m : (Nat → Addr) → MD) : Sp := fun vs H Q E => ∀ cA, spM K np (m cA) vs H Q E
theorem law_endX {K : PySem.W.Frag} {m : (Nat → Addr) → MD} (hm : ∀ cA, LawTrue (m cA)) {H : Hp} {a : Addr} {ns : List Int} (hl : ns.length ≤ 63) (hb : ∀ z ∈ ns, Builtin.Int.intBits z ≤ 1048576) (hO : Only H) (hS : SqL K H a (ns.map V.int)) : spX K 1 m [.ref a] H (fun v _ => v = .bl true) fun _ _ _ => False :=
  fun cA => law_end (hm cA) hl hb hO hS
/-! ### xs.index(x) of flat values -/
def oIndex (x : D) (ds : List D) (S : Hs) : R D := match x, ds with
  | .ref i, [y] => match S[i]? with
    | some (.lst zs) => if flatD y && zs.all flatD then (match zs.findIdx? (fun z => eqF z y) with
      | some j => .ok (.int (j : Int)) S
      | none => .bad) else .bad
    | _ => .bad
  | _, _ => .bad
theorem ok_index {K : PySem.W.Frag} {E : St → XK} : MtOk K E (rIndex K) oIndex := by
  intro p S H x v ds vs Q R rx r h
  unfold oIndex at h
  split at h
  · split at h
    · rename_i y _ zs q
      split at h
      · rename_i hf
        rw [Bool.and_eq_true] at hf
        split at h
        · rename_i j hj
          obtain ⟨us, h1, r1⟩ := R.lst q
          cases rx
          cases r with
          | cons r0 rs =>
          cases rs
          rw [List.findIdx?_eq_some_iff_getElem] at hj
          obtain ⟨hlt, hp, hn⟩ := hj
          obtain ⟨u, hu, ru⟩ := Reps.get r1 (List.getElem?_eq_getElem hlt)
          refine ⟨_, us, _, j, u, rfl, rfl, SqL.of h1, flat_V r0 hf.1, flats_V r1 hf.2, hu, by rw [← eqF_V ru r0 hf.1]; exact hp, fun m z' hm hz => ?_, h.val R (.int _)⟩
          have hm2 : m < zs.length := Nat.lt_trans hm hlt
          obtain ⟨u', hu', ru'⟩ := Reps.get r1 (List.getElem?_eq_getElem hm2)
          rw [hu'] at hz; cases hz
          rw [← eqF_V ru' r0 hf.1]
          simpa using hn m hm
        · exact h.elim
      · exact h.elim
    · exact h.elim
  · exact h.elim
end Ly
set_option Elab.async false
set_option linter.all false
set_option maxRecDepth 100000
namespace Ly
open PySem PySem.Spec L2
open PyProof.Rows hiding St
/-! ### dict comprehensions -/
def dcStep (j : J) (gl : CG) (tt : MB) (tk tv : M) (l : Ls) (n : Nat) (a : Nat × Hs) : Sum (Nat × Hs) (R D) := match itGo j a.1 a.2 with
  | none => .inr .bad
  | some none => .inr (.ok (.ref n) a.2)
  | some (some d) => match gl d l with
    | none => .inr .bad
    | some l1 => match tt l1 a.2 with
      | .ok false S2 => .inl (a.1 + 1, S2)
      | .ok true S2 => (match tk l1 S2 with
        | .ok y S3 => (match tv l1 S3 with
          | .ok z S4 => (match S4[n]?, y.key with
            | some (.dic acc), some k => if acc.length < sizeLine then .inl (a.1 + 1, S4.set n (.dic (setK acc k z))) else .inr .bad
            | _, _ => .inr .bad)
          | _ => .inr .bad)
        | _ => .inr .bad)
      | _ => .inr .bad
noncomputable def dcLoop (j : J) (gl : CG) (tt : MB) (tk tv : M) (l : Ls) (n k : Nat) (S : Hs) : R D := runI (dcStep j gl tt tk tv l n) (k, S)
noncomputable def mDc (it : MI) (gl : CG) (tt : MB) (tk tv : M) (vs : List Nat) : M := fun l S => (it l S).bind fun j S1 => dcLoop j gl tt tk tv (wipeL l vs) S1.length 0 (S1 ++ [.dic []])
theorem dcLoop_eq (j : J) (gl : CG) (tt : MB) (tk tv : M) (l : Ls) (n k : Nat) (S : Hs) : dcLoop j gl tt tk tv l n k S = match dcStep j gl tt tk tv l n (k, S) with
    | .inl a => dcLoop j gl tt tk tv l n a.1 a.2
    | .inr r => r := by
  unfold dcLoop
  rw [runI_eq]
  cases dcStep j gl tt tk tv l n (k, S) <;> rfl
section
variable {X : Cx} {E : St → XK} {kx vx tg iter : Expr} {ifs : List Expr} {scope : Scope} {own : List (Str × Nat)} {pos : Pos} {it : MI} {g : TG} {gl : CG} {tm : MB} {tk tv : M} {tt : TT}
theorem dc_reading {K : PySem.W.Frag} {vs : List Nat} (hgk : GOk K vs g gl) {s : St} {H : Hp} {Q : VK} {p : Nat → Addr} {l : Ls} {S : Hs} {j : J} {I : It} (R : Real K p S H) (L : Sl K p S.length H l s) (hI : JRel K p S.length H j I)
    (h : Post K E S.length p H (dcLoop j gl tm tk tv (wipeL l vs) S.length 0 (S ++ [.dic []])) (QD K Q)) : ∀ D0, H D0 = none → ∃ W : Nat → Nat → Hp → Prop, (∃ m, W 0 m (upd H D0 (.dK []))) ∧ ∀ i m H, W i m H →
      (I.stop i H ∧ Q (.ref D0) H) ∨ (I.go i H ∧ ∃ Nx : Hp → Prop, (∀ H', Nx H' → ∃ m', m' < m ∧ W (i + 1) m' H') ∧ ∀ x H', I.yld i H x H' → g x (L2.wipe s vs) H' fun s2 H2 => L2.wipe s2 vs = L2.wipe s vs ∧
        TB K E00 tm s2 H2 fun b H3 => if b = true then T K E00 tk s2 H3 fun y H4 => T K E00 tv s2 H4 fun z H5 => ∃ kvs k, y = kV k ∧ H5 D0 = some (.dK kvs) ∧ kvs.length < sizeLine ∧ Nx (upd H5 D0 (.dK (putK kvs k z))) else Nx H3) := by
  intro D0 hD
  obtain ⟨m0, hm, _⟩ := runI_ex (Post.ne h)
  rw [show dcLoop j gl tm tk tv (wipeL l vs) S.length 0 (S ++ [.dic []]) = _ from hm.symm] at h
  have x0 := ext_new (S := S) (pi := p) (u := .dK []) hD
  have R0 := R.new (u := .dK []) (o := .dic []) hD ⟨[], upd_same, rfl, .nil⟩
  have e0 : (S ++ [O.dic []]).length = S.length + 1 := by simp
  refine ⟨fun k m H => ∃ q S1, S.length < S1.length ∧ q S.length = D0 ∧ Real K q S1 H ∧ Sl K q S1.length H (wipeL l vs) (L2.wipe s vs) ∧ JRel K q S1.length H j I ∧ Post K E S1.length q H (iter (dcStep j gl tm tk tv (wipeL l vs) S.length) m (k, S1)) (QD K Q),
    ⟨m0, piN p S.length D0, S ++ [.dic []], by omega, piN_same, R0, by rw [e0]; exact (L.wipe vs).ext x0, by rw [e0]; exact hI.ext x0, Post.ext h (by rw [e0]; exact x0)⟩, ?_⟩
  rintro k m H1 ⟨q, S1, hn, hq, R1, L1, hI1, h1⟩
  cases m with
  | zero => exact h1.elim
  | succ m =>
    simp only [iter, dcStep] at h1
    cases e1 : itGo j k S1 with
    | none => rw [e1] at h1; exact h1.elim
    | some o =>
      cases o with
      | none =>
        rw [e1] at h1
        refine .inl ⟨it_stop R1 hI1 e1, ?_⟩
        have := Post.ok (Q := QD K Q) h1 Ext.refl R1 (.ref (q S.length)) (.ref hn)
        rwa [hq] at this
      | some d =>
        obtain ⟨g1, g2⟩ := it_go R1 hI1 e1
        rw [e1] at h1
        simp only [] at h1
        refine .inr ⟨g1, fun H => ∃ q S1, S.length < S1.length ∧ q S.length = D0 ∧ Real K q S1 H ∧ Sl K q S1.length H (wipeL l vs) (L2.wipe s vs) ∧ JRel K q S1.length H j I ∧ Post K E S1.length q H (iter (dcStep j gl tm tk tv (wipeL l vs) S.length) m (k + 1, S1)) (QD K Q),
          fun H' w => ⟨m, Nat.lt_succ_self m, w⟩, fun x H' y => ?_⟩
        obtain ⟨x2, R2, r2⟩ := g2 x H' y
        have h2 := Post.ext h1 x2
        cases e2 : gl d (wipeL l vs) with
        | none => rw [e2] at h2; exact h2.elim
        | some l1 =>
          rw [e2] at h2
          simp only [] at h2
          refine hgk q S1.length H' d x _ l1 s _ (L1.ext x2) r2 e2 fun s2 w2 L2' => ⟨w2, ?_⟩
          refine ⟨q, l1, S1, R2, L2', ?_⟩
          cases e3 : tm l1 S1 with
          | bad => rw [e3] at h2; exact h2.elim
          | exc _ _ _ _ => rw [e3] at h2; exact h2.elim
          | ok b S2 =>
            rw [e3] at h2
            intro q3 H3 x3 R3
            have h3 := Post.ext h2 x3
            cases b with
            | false => exact ⟨q3, S2, Nat.lt_of_lt_of_le hn x3.le, (x3.ag _ hn).trans hq, R3, (L1.ext x2).ext x3, (hI1.ext x2).ext x3, h3⟩
            | true =>
              show T K E00 tk s2 H3 _
              refine ⟨q3, l1, S2, R3, L2'.ext x3, ?_⟩
              simp only [] at h3
              cases e4 : tk l1 S2 with
              | bad => rw [e4] at h3; exact h3.elim
              | exc _ _ _ _ => rw [e4] at h3; exact h3.elim
              | ok y S3 =>
                rw [e4] at h3
                simp only [] at h3
                intro q4 H4 x4 R4 v r4
                have h4 := Post.ext h3 x4
                show T K E00 tv s2 H4 _
                refine ⟨q4, l1, S3, R4, (L2'.ext x3).ext x4, ?_⟩
                cases e4' : tv l1 S3 with
                | bad => rw [e4'] at h4; exact h4.elim
                | exc _ _ _ _ => rw [e4'] at h4; exact h4.elim
                | ok z S4 =>
                  rw [e4'] at h4
                  simp only [] at h4
                  intro q5 H5 x5 R5 v5 r5
                  have h5 := Post.ext h4 x5
                  have hn4 : S.length < S3.length := Nat.lt_of_lt_of_le hn (Nat.le_trans x3.le x4.le)
                  have hn5 : S.length < S4.length := Nat.lt_of_lt_of_le hn4 x5.le
                  have hq4 : q4 S.length = D0 := (x4.ag _ (Nat.lt_of_lt_of_le hn x3.le)).trans ((x3.ag _ hn).trans hq)
                  have hq5 : q5 S.length = D0 := (x5.ag _ hn4).trans hq4
                  split at h5
                  · rename_i acc k0 e5 ek
                    split at h5
                    · rename_i hl
                      obtain ⟨us, hu1, hu2, hu3⟩ := R5.ob _ _ e5
                      have xu : ∀ u, Ext S4.length S4.length q5 q5 H5 (upd H5 (q5 S.length) u) := fun u => ext_upd (R5.notup hn5)
                      have hlen : us.length = acc.length := by
                        have := congrArg List.length hu2
                        simpa using this
                      rw [hq5] at hu1
                      obtain ⟨g1, g2⟩ := setK_V hu2 hu3 k0 r5
                      refine ⟨us, k0, key_V r4 ek, hu1, by rw [hlen]; exact hl, q5, S4.set S.length (.dic (setK acc k0 z)), by rw [List.length_set]; exact hn5, hq5, ?_, ?_, ?_, ?_⟩
                      · rw [← hq5]
                        exact R5.put hn5 ⟨_, upd_same, g1, g2.ext (xu _) _ _⟩
                      · rw [← hq5, List.length_set]; exact ((((L1.ext x2).ext x3).ext x4).ext x5).ext (xu _)
                      · rw [← hq5, List.length_set]; exact ((((hI1.ext x2).ext x3).ext x4).ext x5).ext (xu _)
                      · rw [← hq5, List.length_set]; exact Post.ext h5 (xu _)
                    · exact h5.elim
                  · exact h5.elim
theorem e_dc (hc : X.calm = true) (hN : X.N.Nodup) (hi : IM X E tg iter it) (ok : BlkOk X.N X.env.scope scope own) (hgk : GOk X.K (own.map (·.2)) g gl)
    (hg : ∀ (s : Shared) (H : Hp) (C : Addr) (cl : List (Str × Addr)) (fp : List Addr), PG (X.blk s H scope (compEnvC scope cl C X.env) fp) tg g)
    (ht : ∀ (s : Shared) (H : Hp) (C : Addr) (cl : List (Str × Addr)) (fp : List Addr), CT (X.blk s H scope (compEnvC scope cl C X.env) fp) ifs tm)
    (hk : ∀ (s : Shared) (H : Hp) (C : Addr) (cl : List (Str × Addr)) (fp : List Addr), EM (X.blk s H scope (compEnvC scope cl C X.env) fp) E00 kx tk)
    (he : ∀ (s : Shared) (H : Hp) (C : Addr) (cl : List (Str × Addr)) (fp : List Addr), EM (X.blk s H scope (compEnvC scope cl C X.env) fp) E00 vx tv) (hs : ∀ x, foldedSetIterable iter X.env x = pure x := by intro _; rfl) :
    EM X E (.DictComp kx vx [⟨tg, iter, ifs, 0⟩] scope pos) (mDc it gl tm tk tv (own.map (·.2))) :=
  ⟨(pe_dc hc hN hi.pi ok hg (fun s H C cl fp => (ht s H C cl fp).pts) (fun s H C cl fp => (hk s H C cl fp).pe) (fun s H C cl fp => (he s H C cl fp).pe) hs).weak fun s H Q ⟨p, l, S, R, L, h⟩ =>
    ⟨p, l, S, R, L, (Post.bind (r := it l S) h).mono fun j S1 p1 H1 _ x1 R1 q I hI => dc_reading hgk R1 (L.ext x1) hI q⟩⟩
theorem ps_setDc {i : Nat} {y : Str} {py : Pos} {spos : Pos} {wi : TI} {tk' tv' : TE} (hc : X.calm = true) (hN : X.N.Nodup) (hy : X.N[i]? = some y) (hyl : X.env.scope.names.lookup y = some .local)
    (hsw : swapsWith (.DictComp kx vx [⟨tg, iter, ifs, 0⟩] scope pos) (some (.Name y py)) spos.line X.env = pure true) (hi : PI X tg iter wi) (ok : BlkOk X.N X.env.scope scope own)
    (hg : ∀ (s : Shared) (H : Hp) (C : Addr) (cl : List (Str × Addr)) (fp : List Addr), PG (X.blk s H scope (compEnvC scope cl C X.env) fp) tg g) (ht : ∀ (s : Shared) (H : Hp) (C : Addr) (cl : List (Str × Addr)) (fp : List Addr), PTs (X.blk s H scope (compEnvC scope cl C X.env) fp) ifs tt)
    (hk : ∀ (s : Shared) (H : Hp) (C : Addr) (cl : List (Str × Addr)) (fp : List Addr), PE (X.blk s H scope (compEnvC scope cl C X.env) fp) kx tk')
    (he : ∀ (s : Shared) (H : Hp) (C : Addr) (cl : List (Str × Addr)) (fp : List Addr), PE (X.blk s H scope (compEnvC scope cl C X.env) fp) vx tv') (hs : ∀ x, foldedSetIterable iter X.env x = pure x := by intro _; rfl) :
    PS X (.Assign [.Name y py] (.DictComp kx vx [⟨tg, iter, ifs, 0⟩] scope pos) spos) (tAsg (tDc wi g tt tk' tv' (own.map (·.2))) (gName i)) := by
  refine ⟨fun pins s σ H D I h => ?_⟩
  rw [exec_Assign_Name_used _ _ _ _ hsw]
  refine wpAny_bind (wpAny_standAt (wpAny_bind ?_))
  show wpAny _ X.A (do let _ ← comprehension (.DictComp kx vx [⟨tg, iter, ifs, 0⟩] scope pos) scope X.env (firstIterPos [⟨tg, iter, ifs, 0⟩] pos) newDict false (eval iter X.env) (some (assign (.Name y py) X.env))) _ _ s
  have h : tDc wi g tt tk' tv' (own.map (·.2)) σ H (fun x H1 => gName i x σ H1 D.nx) := h
  refine wpAny_bind (thn (dc_core (Qf := fun _ s' => SP X pins D .next s') hc hN I hi ok hg ht hk he hs h fun L C s' m H' I' q hn f => ?_) fun _ s' hq => wpAny_pure (wpAny_pure hq))
  show wpAny _ _ (assign (.Name y py) X.env (.ref L)) _ _ _
  refine wpAny_assign_Name (store_ok2 (v := V.ref L) I' hN hy (.inl hyl) rfl (fun s2 I2 ⟨a, sb, ha⟩ => ?_) (.inr hyl))
  obtain ⟨f0, f1, f2, f3, f4, f5⟩ := f
  have haC : C ≠ a := by
    rcases ha with z | z
    · rw [z]; exact f1
    · exact fun e => f4 y a z e.symm
  refine ⟨m, hn.sameBut sb haC, fun h3 sb3 => ?_⟩
  exact ⟨_, H', I2.turned (t' := s2.toks) (fun b o hb e => (sb3.2 b hb).trans e) f0 f1 f3 f4 f5, q⟩
theorem swD_true {kx vx : Expr} {gs : List Comprehension} {scope : Scope} {pos py : Pos} {y : Str} {l : Nat} {env : Env} (hk : env.scope.kind = .function) (hy : env.scope.names.lookup y = some .local) (hl : (py.line == pos.line) = true)
    (ha : (scope.names.any fun (n, k) => n == y && (k == .local || k == .cell)) = false) : swapsWith (.DictComp kx vx gs scope pos) (some (.Name y py)) l env = pure true := by
  have ky : env.kindOf y = some .local := hy
  have hb : env.blockKind = .function := by unfold Env.blockKind; rw [hk]; rfl
  unfold swapsWith
  simp only [hb, ky, ha, Expr.pos, hl]
  rfl
theorem s_setDc {i : Nat} {y : Str} {py spos : Pos} (hc : X.calm = true) (hN : X.N.Nodup) (hsw : swapsWith (.DictComp kx vx [⟨tg, iter, ifs, 0⟩] scope pos) (some (.Name y py)) spos.line X.env = pure true) (hi : IM X E tg iter it) (ok : BlkOk X.N X.env.scope scope own) (hgk : GOk X.K (own.map (·.2)) g gl)
    (hg : ∀ (s : Shared) (H : Hp) (C : Addr) (cl : List (Str × Addr)) (fp : List Addr), PG (X.blk s H scope (compEnvC scope cl C X.env) fp) tg g)
    (ht : ∀ (s : Shared) (H : Hp) (C : Addr) (cl : List (Str × Addr)) (fp : List Addr), CT (X.blk s H scope (compEnvC scope cl C X.env) fp) ifs tm)
    (hk : ∀ (s : Shared) (H : Hp) (C : Addr) (cl : List (Str × Addr)) (fp : List Addr), EM (X.blk s H scope (compEnvC scope cl C X.env) fp) E00 kx tk)
    (he : ∀ (s : Shared) (H : Hp) (C : Addr) (cl : List (Str × Addr)) (fp : List Addr), EM (X.blk s H scope (compEnvC scope cl C X.env) fp) E00 vx tv) (hy : X.N[i]? = some y := by rfl) (hl : X.env.scope.names.lookup y = some .local := by rfl) (hs : ∀ x, foldedSetIterable iter X.env x = pure x := by intro _; rfl) :
    SM X E (.Assign [.Name y py] (.DictComp kx vx [⟨tg, iter, ifs, 0⟩] scope pos) spos) (mSet i (mDc it gl tm tk tv (own.map (·.2)))) :=
  ⟨(ps_setDc hc hN hy hl hsw hi.pi ok hg (fun s H C cl fp => (ht s H C cl fp).pts) (fun s H C cl fp => (hk s H C cl fp).pe) (fun s H C cl fp => (he s H C cl fp).pe) hs).weak fun s H D0 ⟨p, l, S, R, L, h⟩ => by
    have h' : Post X.K E S.length p H ((mDc it gl tm tk tv (own.map (·.2)) l S).bind fun d S1 => .ok (.nx (l.set i (some d))) S1) (QF X.K D0) := h
    have h2 : Post X.K E S.length p H (mDc it gl tm tk tv (own.map (·.2)) l S) (QD X.K fun v H' => D0.nx (s.set i (some v)) H') := h'.bind.mono fun d S1 p1 H1 _ x1 R1 q v r => Post.nx q R1 ((L.ext x1).set i r)
    exact ⟨p, l, S, R, L, (Post.bind (r := it l S) h2).mono fun j S1 p1 H1 _ x1 R1 q I hI => dc_reading hgk R1 (L.ext x1) hI q⟩⟩
end
/-! ### d.setdefault(k, z), d.get(k), d.pop(k, z), del d[k] -/
def oSetd (x y z : D) (S : Hs) : R D := match x with
  | .ref i => match S[i]?, y.key with
    | some (.dic kvs), some k => if kvs.length < sizeLine then (match getK kvs k with
      | some d => .ok d S
      | none => .ok z (S.set i (.dic (setK kvs k z)))) else .bad
    | _, _ => .bad
  | _ => .bad
def mSetd (f g h : M) : M := fun l S => (f l S).bind fun x S1 => if hasTy "dict" x S1 = true then (g l S1).bind fun y S2 => (h l S2).bind fun z S3 => oSetd x y z S3 else .bad
def mGet1 (f g : M) : M := fun l S => (f l S).bind fun x S1 => if hasTy "dict" x S1 = true then (g l S1).bind fun y S2 => match dGet x y S2 with
  | some (some d) => .ok d S2
  | some none => .ok .non S2
  | none => .bad else .bad
def dropD (kvs : List (Key × D)) (k : Key) : List (Key × D) := kvs.filter fun kv => decide (kv.1 ≠ k)
def oPop2 (x y z : D) (S : Hs) : R D := match x with
  | .ref i => match S[i]?, y.key with
    | some (.dic kvs), some k => (match getK kvs k with
      | some d => .ok d (S.set i (.dic (dropD kvs k)))
      | none => .ok z S)
    | _, _ => .bad
  | _ => .bad
def mPop2 (f g h : M) : M := fun l S => (f l S).bind fun x S1 => if hasTy "dict" x S1 = true then (g l S1).bind fun y S2 => (h l S2).bind fun z S3 => oPop2 x y z S3 else .bad
def oDel (x y : D) (S : Hs) : R Unit := match x with
  | .ref i => match S[i]?, y.key with
    | some (.dic kvs), some k => (match getK kvs k with
      | some _ => .ok () (S.set i (.dic (dropD kvs k)))
      | none => .bad)
    | _, _ => .bad
  | _ => .bad
def mDel (f g : M) : MS := fun l S => (f l S).bind fun x S1 => (g l S1).bind fun y S2 => (oDel x y S2).bind fun _ S3 => .ok (.nx l) S3
section
variable {K : PySem.W.Frag} {p : Nat → Addr} {n : Nat} {H : Hp}
theorem dropD_V {kvs : List (Key × D)} {ks : List (Key × V)} (h : ks.map (·.1) = kvs.map (·.1)) (r : Reps K p n H (kvs.map (·.2)) (ks.map (·.2))) (k : Key) :
    (dropK ks k).map (·.1) = (dropD kvs k).map (·.1) ∧ Reps K p n H ((dropD kvs k).map (·.2)) ((dropK ks k).map (·.2)) := by
  induction kvs generalizing ks with
  | nil => cases ks with | nil => exact ⟨rfl, .nil⟩ | cons a b => cases h
  | cons a kvs ih =>
    cases ks with
    | nil => cases h
    | cons b ks =>
      simp only [List.map_cons, List.cons.injEq] at h
      cases r with
      | cons r0 rs =>
        obtain ⟨e1, e2⟩ := ih h.2 rs
        unfold dropK dropD at *
        simp only [List.filter_cons, h.1]
        split
        · exact ⟨by simp only [List.map_cons, h.1, e1], .cons r0 e2⟩
        · exact ⟨e1, e2⟩
end
section
variable {X : Cx} {E : St → XK} {f g hh : M} {o e e2 : Expr} {apos cpos : Pos}
theorem e_setd (ho : EM X E o f) (he : EM X E e g) (hf : EM X E e2 hh) (m : M2 X o "setdefault" apos e e2 cpos := by exact ⟨rfl, rfl, rfl, rfl⟩) : EM X E (.Call (.Attribute o "setdefault" apos) [e, e2] [] cpos) (mSetd f g hh) :=
  ⟨(pe_dsetd ho.pe he.pe hf.pe m).weak fun s H Q ⟨p, l, S, R, L, h⟩ => T.of R L h fun p1 S1 H1 d v R1 x1 L1 r1 h1 => by
    split at h1
    · rename_i ht
      obtain ⟨a, rfl, ia⟩ := isD_V R1 r1 ht
      refine ⟨a, rfl, ia, T.of R1 L1 h1 fun p2 S2 H2 d2 v2 R2 x2 L2 r2 h2 => T.of R2 L2 h2 fun p3 S3 H3 d3 v3 R3 x3 L3 r3 h3 => ?_⟩
      have rd := (r1.ext x2 _ _).ext x3 _ _
      unfold oSetd at h3
      split at h3
      · rename_i i
        cases rd with
        | ref hi =>
        split at h3
        · rename_i kvs k q ek
          obtain ⟨ks, h4, h5, h6⟩ := R3.ob _ _ q
          split at h3
          · rename_i hl
            have hlen : ks.length = kvs.length := by
              have := congrArg List.length h5
              simpa using this
            have gk := getK_V h5 h6 k
            refine ⟨ks, k, h4, key_V (r2.ext x3 _ _) ek, by rw [hlen]; exact hl, fun v hv => ?_, fun hv => ?_⟩
            · rw [hv] at gk
              split at h3
              · rename_i dd eg
                rw [eg] at gk
                obtain ⟨z, ez, rz⟩ := gk
                cases ez
                exact h3.val R3 rz
              · rename_i eg
                rw [eg] at gk
                cases gk
            · rw [hv] at gk
              split at h3
              · rename_i dd eg
                rw [eg] at gk
                obtain ⟨z, ez, rz⟩ := gk
                cases ez
              · have xu : ∀ u, Ext S3.length S3.length p3 p3 H3 (upd H3 (p3 i) u) := fun u => ext_upd (R3.notup hi)
                obtain ⟨g1, g2⟩ := setK_V h5 h6 k r3
                have R4 := R3.put hi (u := .dK (putK ks k v3)) (o := .dic (setK kvs k d3)) ⟨_, upd_same, g1, g2.ext (xu _) _ _⟩
                refine Post.ok (Q := QD _ Q) h3 (by rw [List.length_set]; exact xu _) R4 _ (by rw [List.length_set]; exact r3.ext (xu _) _ _)
          · exact h3.elim
        · exact h3.elim
      · exact h3.elim
    · exact h1.elim⟩
theorem e_get1 (hu : X.A.units + 1 < cLine) (ho : EM X E o f) (he : EM X E e g) (m : M1 X o "get" apos e cpos := by exact ⟨rfl, rfl, rfl, rfl⟩) : EM X E (.Call (.Attribute o "get" apos) [e] [] cpos) (mGet1 f g) :=
  ⟨(pe_dget1 hu ho.pe he.pe m).weak fun s H Q ⟨p, l, S, R, L, h⟩ => T.of R L h fun p1 S1 H1 d v R1 x1 L1 r1 h1 => by
    split at h1
    · rename_i ht
      obtain ⟨a, rfl, ia⟩ := isD_V R1 r1 ht
      refine ⟨a, rfl, ia, T.of R1 L1 h1 fun p2 S2 H2 d2 v2 R2 x2 L2 r2 h2 => ?_⟩
      split at h2
      · rename_i dd eq
        obtain ⟨a', w, e1, gg, m⟩ := dGet_V R2 (r1.ext x2 _ _) r2 eq
        cases e1
        obtain ⟨z, rfl, rz⟩ := m
        exact ⟨_, gg, h2.val R2 rz⟩
      · rename_i eq
        obtain ⟨a', w, e1, gg, m⟩ := dGet_V R2 (r1.ext x2 _ _) r2 eq
        cases e1
        cases (show w = none from m)
        exact ⟨_, gg, h2.val R2 .non⟩
      · exact h2.elim
    · exact h1.elim⟩
theorem e_pop2 (ho : EM X E o f) (he : EM X E e g) (hf : EM X E e2 hh) (m : M2 X o "pop" apos e e2 cpos := by exact ⟨rfl, rfl, rfl, rfl⟩) : EM X E (.Call (.Attribute o "pop" apos) [e, e2] [] cpos) (mPop2 f g hh) :=
  ⟨(pe_dpop2 ho.pe he.pe hf.pe m).weak fun s H Q ⟨p, l, S, R, L, h⟩ => T.of R L h fun p1 S1 H1 d v R1 x1 L1 r1 h1 => by
    split at h1
    · rename_i ht
      obtain ⟨a, rfl, ia⟩ := isD_V R1 r1 ht
      refine ⟨a, rfl, ia, T.of R1 L1 h1 fun p2 S2 H2 d2 v2 R2 x2 L2 r2 h2 => T.of R2 L2 h2 fun p3 S3 H3 d3 v3 R3 x3 L3 r3 h3 => ?_⟩
      have rd := (r1.ext x2 _ _).ext x3 _ _
      unfold oPop2 at h3
      split at h3
      · rename_i i
        cases rd with
        | ref hi =>
        split at h3
        · rename_i kvs k q ek
          obtain ⟨ks, h4, h5, h6⟩ := R3.ob _ _ q
          have gk := getK_V h5 h6 k
          refine ⟨ks, k, h4, key_V (r2.ext x3 _ _) ek, fun v hv => ?_, fun hv => ?_⟩
          · rw [hv] at gk
            split at h3
            · rename_i dd eg
              rw [eg] at gk
              obtain ⟨z, ez, rz⟩ := gk
              cases ez
              have xu : ∀ u, Ext S3.length S3.length p3 p3 H3 (upd H3 (p3 i) u) := fun u => ext_upd (R3.notup hi)
              obtain ⟨g1, g2⟩ := dropD_V h5 h6 k
              have R4 := R3.put hi (u := .dK (dropK ks k)) (o := .dic (dropD kvs k)) ⟨_, upd_same, g1, g2.ext (xu _) _ _⟩
              refine Post.ok (Q := QD _ Q) h3 (by rw [List.length_set]; exact xu _) R4 _ (by rw [List.length_set]; exact rz.ext (xu _) _ _)
            · rename_i eg
              rw [eg] at gk
              cases gk
          · rw [hv] at gk
            split at h3
            · rename_i dd eg
              rw [eg] at gk
              obtain ⟨z, ez, rz⟩ := gk
              cases ez
            · exact h3.val R3 r3
        · exact h3.elim
      · exact h3.elim
    · exact h1.elim⟩
theorem s_del {tpos pos : Pos} (ho : EM X E o f) (he : EM X E e g) : SM X E (.Delete [.Subscript o e tpos] pos) (mDel f g) :=
  ⟨(ps_ddel ho.pe he.pe).weak fun s H D0 ⟨p, l, S, R, L, h⟩ => T.of R L h fun p1 S1 H1 d v R1 x1 L1 r1 h1 => T.of R1 L1 h1 fun p2 S2 H2 d2 v2 R2 x2 L2 r2 h2 => by
    have rd := r1.ext x2 _ _
    unfold oDel at h2
    split at h2
    · rename_i i
      cases rd with
      | ref hi =>
      split at h2
      · rename_i kvs k q ek
        obtain ⟨ks, h4, h5, h6⟩ := R2.ob _ _ q
        have gk := getK_V h5 h6 k
        split at h2
        · rename_i dd eg
          rw [eg] at gk
          obtain ⟨z, ez, rz⟩ := gk
          have xu : ∀ u, Ext S2.length S2.length p2 p2 H2 (upd H2 (p2 i) u) := fun u => ext_upd (R2.notup hi)
          obtain ⟨g1, g2⟩ := dropD_V h5 h6 k
          have R4 := R2.put hi (u := .dK (dropK ks k)) (o := .dic (dropD kvs k)) ⟨_, upd_same, g1, g2.ext (xu _) _ _⟩
          have h3 : Post X.K E S2.length p2 H2 (Ly.R.ok (F.nx l) (S2.set i (.dic (dropD kvs k)))) (QF X.K D0) := h2
          exact ⟨_, ks, k, rfl, h4, key_V r2 ek, by rw [ez]; rfl, Post.ok (Q := QF X.K D0) h3 (by rw [List.length_set]; exact xu _) R4 s (by rw [List.length_set]; exact L2.ext (xu _))⟩
        · exact h2.elim
      · exact h2.elim
    · exact h2.elim⟩
end
/-! ### list(range(..)), tuple(range(..)) -/
def rgD (a b : Int) : List D := (List.range (b - a).toNat).map fun i => D.int (a + (i : Nat))
theorem rg_reps {K : PySem.W.Frag} {p : Nat → Addr} {n : Nat} {H : Hp} (a b : Int) : Reps K p n H (rgD a b) (rgV a b) := by
  unfold rgD rgV
  generalize List.range (b - a).toNat = xs
  induction xs with
  | nil => exact .nil
  | cons x xs ih => exact .cons (.int _) ih
def oLRg (a b : Int) (S : Hs) : R D := if -(2 ^ 62) ≤ a ∧ a < 2 ^ 62 ∧ -(2 ^ 62) ≤ b ∧ b < 2 ^ 62 ∧ (b - a).toNat ≤ 2 ^ 24 then .ok (.ref S.length) (S ++ [.lst (rgD a b)]) else .bad
def oTRg (a b : Int) (S : Hs) : R D := if -(2 ^ 62) ≤ a ∧ a < 2 ^ 62 ∧ -(2 ^ 62) ≤ b ∧ b < 2 ^ 62 ∧ (b - a).toNat ≤ 2 ^ 24 then .ok (.tup (rgD a b)) S else .bad
def rg1 (op : Int → Int → Hs → R D) : List D → Hs → R D := fun ds S => match ds with
  | [.int b] => op 0 b S
  | [.int a, .int b] => op a b S
  | _ => .bad
def mRg1 (op : Int → Int → Hs → R D) (f : M) : M := fun l S => (f l S).bind fun x S1 => rg1 op [x] S1
def mRg2 (op : Int → Int → Hs → R D) (f g : M) : M := fun l S => (f l S).bind fun x S1 => (g l S1).bind fun y S2 => rg1 op [x, y] S2
section
variable {X : Cx} {E : St → XK} {f g : M} {a b : Expr} {p p2 pos pos2 : Pos}
theorem post_lrg {K : PySem.W.Frag} {p : Nat → Addr} {S : Hs} {H : Hp} {i j : Int} {Q : VK} (R : Real K p S H) (h : Post K E S.length p H (oLRg i j S) (QD K Q)) : RgOk i j ∧ ∀ q, H q = none → Q (.ref q) (upd H q (.lst (rgV i j))) := by
  unfold oLRg at h
  split at h
  · rename_i hr
    exact ⟨hr, fun q hq => h.new R hq ⟨_, upd_same, rg_reps i j⟩⟩
  · exact h.elim
theorem post_trg {K : PySem.W.Frag} {p : Nat → Addr} {S : Hs} {H : Hp} {i j : Int} {Q : VK} (R : Real K p S H) (h : Post K E S.length p H (oTRg i j S) (QD K Q)) : RgOk i j ∧ ∀ q, H q = none → Q (.ref q) (upd H q (.tup (rgV i j))) := by
  unfold oTRg at h
  split at h
  · rename_i hr
    exact ⟨hr, fun q hq => h.valT R (rg_reps i j) hq⟩
  · exact h.elim
theorem c_listRg1 (hc : X.calm = true) (hm : X.mg "list" = none) (hm2 : X.mg "range" = none) (ha : EM X E a f) (hg : Gl X "list" := by rfl) (hg2 : Gl X "range" := by rfl) (na : starEach [a] X.env = (false, eval a X.env) :: starEach [] X.env := by rfl)
    (na2 : starEach [(.Call (.Name "range" p2) [a] [] pos2 : Expr)] X.env = (false, eval (.Call (.Name "range" p2) [a] [] pos2) X.env) :: starEach [] X.env := by rfl) :
    EM X E (.Call (.Name "list" p) [.Call (.Name "range" p2) [a] [] pos2] [] pos) (mRg1 oLRg f) :=
  ⟨(pe_listRg hc hg hm (prg_1 hg2 hm2 ha.pe na) na2).weak fun s H Q ⟨p, l, S, R, L, h⟩ => T.of (k := fun x S1 => rg1 oLRg [x] S1) R L h fun p1 S1 H1 d v R1 x1 L1 r1 h1 => by
    unfold rg1 at h1
    split at h1
    · rename_i e; cases e; cases r1; exact ⟨_, rfl, post_lrg R1 h1⟩
    · rename_i e; cases e
    · exact h1.elim⟩
theorem c_tupleRg1 (hc : X.calm = true) (hm : X.mg "tuple" = none) (hm2 : X.mg "range" = none) (ha : EM X E a f) (hg : Gl X "tuple" := by rfl) (hg2 : Gl X "range" := by rfl) (na : starEach [a] X.env = (false, eval a X.env) :: starEach [] X.env := by rfl)
    (na2 : starEach [(.Call (.Name "range" p2) [a] [] pos2 : Expr)] X.env = (false, eval (.Call (.Name "range" p2) [a] [] pos2) X.env) :: starEach [] X.env := by rfl) :
    EM X E (.Call (.Name "tuple" p) [.Call (.Name "range" p2) [a] [] pos2] [] pos) (mRg1 oTRg f) :=
  ⟨(pe_tupRg hc hg hm (prg_1 hg2 hm2 ha.pe na) na2).weak fun s H Q ⟨p, l, S, R, L, h⟩ => T.of (k := fun x S1 => rg1 oTRg [x] S1) R L h fun p1 S1 H1 d v R1 x1 L1 r1 h1 => by
    unfold rg1 at h1
    split at h1
    · rename_i e; cases e; cases r1; exact ⟨_, rfl, post_trg R1 h1⟩
    · rename_i e; cases e
    · exact h1.elim⟩
theorem c_listRg2 (hc : X.calm = true) (hm : X.mg "list" = none) (hm2 : X.mg "range" = none) (ha : EM X E a f) (hb : EM X E b g) (hg : Gl X "list" := by rfl) (hg2 : Gl X "range" := by rfl) (na : starEach [a, b] X.env = (false, eval a X.env) :: starEach [b] X.env := by rfl)
    (nb : starEach [b] X.env = (false, eval b X.env) :: starEach [] X.env := by rfl) (hp : (backTo pos2 (starEach [b] X.env)).any (·.1) = false := by rfl) (na2 : starEach [(.Call (.Name "range" p2) [a, b] [] pos2 : Expr)] X.env = (false, eval (.Call (.Name "range" p2) [a, b] [] pos2) X.env) :: starEach [] X.env := by rfl) :
    EM X E (.Call (.Name "list" p) [.Call (.Name "range" p2) [a, b] [] pos2] [] pos) (mRg2 oLRg f g) :=
  ⟨(pe_listRg hc hg hm (prg_2 hg2 hm2 ha.pe hb.pe na nb hp) na2).weak fun s H Q ⟨p, l, S, R, L, h⟩ => T.of R L h fun p1 S1 H1 d v R1 x1 L1 r1 h1 => T.of R1 L1 h1 fun p2 S2 H2 d2 v2 R2 x2 L2 r2 h2 => by
    unfold rg1 at h2
    split at h2
    · rename_i e; cases e
    · rename_i e; cases e; cases r1; cases r2; exact ⟨_, _, rfl, rfl, post_lrg R2 h2⟩
    · exact h2.elim⟩
theorem c_tupleRg2 (hc : X.calm = true) (hm : X.mg "tuple" = none) (hm2 : X.mg "range" = none) (ha : EM X E a f) (hb : EM X E b g) (hg : Gl X "tuple" := by rfl) (hg2 : Gl X "range" := by rfl) (na : starEach [a, b] X.env = (false, eval a X.env) :: starEach [b] X.env := by rfl)
    (nb : starEach [b] X.env = (false, eval b X.env) :: starEach [] X.env := by rfl) (hp : (backTo pos2 (starEach [b] X.env)).any (·.1) = false := by rfl) (na2 : starEach [(.Call (.Name "range" p2) [a, b] [] pos2 : Expr)] X.env = (false, eval (.Call (.Name "range" p2) [a, b] [] pos2) X.env) :: starEach [] X.env := by rfl) :
    EM X E (.Call (.Name "tuple" p) [.Call (.Name "range" p2) [a, b] [] pos2] [] pos) (mRg2 oTRg f g) :=
  ⟨(pe_tupRg hc hg hm (prg_2 hg2 hm2 ha.pe hb.pe na nb hp) na2).weak fun s H Q ⟨p, l, S, R, L, h⟩ => T.of R L h fun p1 S1 H1 d v R1 x1 L1 r1 h1 => T.of R1 L1 h1 fun p2 S2 H2 d2 v2 R2 x2 L2 r2 h2 => by
    unfold rg1 at h2
    split at h2
    · rename_i e; cases e
    · rename_i e; cases e; cases r1; cases r2; exact ⟨_, _, rfl, rfl, post_trg R2 h2⟩
    · exact h2.elim⟩
end
/-! ### sorted -/
def sortI (ns : List Int) : List Int := ns.mergeSort (fun a b => decide (a ≤ b))
theorem sortI_perm (ns : List Int) : (sortI ns).Perm ns := List.mergeSort_perm _ _
theorem sortI_pw (ns : List Int) : (sortI ns).Pairwise (· ≤ ·) := by
  have := List.pairwise_mergeSort (le := fun a b : Int => decide (a ≤ b)) (fun a b c h1 h2 => by simp at *; omega) (fun a b => by simp; omega) ns
  exact this.imp fun h => by simpa using h
theorem sortI_uniq {ns xs : List Int} (h : xs.Perm ns) (p : xs.Pairwise (· ≤ ·)) : xs = sortI ns :=
  List.Perm.eq_of_pairwise (fun a b _ _ h1 h2 => Int.le_antisymm h1 h2) p (sortI_pw ns) (h.trans (sortI_perm ns).symm)
def intKeys : List (Key × D) → Option (List Int)
  | [] => some []
  | (.inl i, _) :: r => (intKeys r).map (i :: ·)
  | _ => none
def bSorted : List D → Hs → R D
  | [x], S => match (seqD x S).bind intsD with
    | some ns => .ok (.ref S.length) (S ++ [.lst ((sortI ns).map D.int)])
    | none => match x with
      | .ref i => match S[i]? with
        | some (.dic kvs) => (match intKeys kvs with
          | some ns => if ns.length < 64 then .ok (.ref S.length) (S ++ [.lst ((sortI ns).map D.int)]) else .bad
          | none => .bad)
        | _ => .bad
      | _ => .bad
  | _, _ => .bad
section
variable {X : Cx} {E : St → XK} {e : Expr} {f : ML} {p pos : Pos}
abbrev rSortedA (K : PySem.W.Frag) : List V → Hp → VK → Prop := orC (rSortedI K) (fun xs H Q => ∃ (a : Addr) (kvs : List (Key × V)) (ks : List Int), xs = [.ref a] ∧ Rd H a (.dK kvs) ∧ kvs.map (·.1) = ks.map Sum.inl ∧ ks.length < 64 ∧
    ∀ (ys : List Int) (p : Addr), ys.Perm ks → ys.Pairwise (· ≤ ·) → H p = none → Q (.ref p) (upd H p (.lst (ys.map V.int))))
theorem intKeys_map {kvs : List (Key × D)} {ns : List Int} (h : intKeys kvs = some ns) : kvs.map (·.1) = ns.map Sum.inl := by
  induction kvs generalizing ns with
  | nil => cases h; rfl
  | cons a r ih =>
    obtain ⟨k, d⟩ := a
    cases k with
    | inl i =>
      simp only [intKeys, Option.map_eq_some_iff] at h
      obtain ⟨ms, h1, rfl⟩ := h
      simp [ih h1]
    | inr x => cases h
theorem ints_reps {K : PySem.W.Frag} {p : Nat → Addr} {n : Nat} {H : Hp} (ns : List Int) : Reps K p n H (ns.map D.int) (ns.map V.int) := by
  induction ns with
  | nil => exact .nil
  | cons x xs ih => exact .cons (.int _) ih
theorem ok_sorted {K : PySem.W.Frag} : CallOk K E (rSortedA K) bSorted := by
  intro p S H ds vs Q R r h
  unfold bSorted at h
  split at h
  · cases r with
    | cons r0 rs =>
    cases rs
    split at h
    · rename_i ns e
      rw [Option.bind_eq_some_iff] at e
      obtain ⟨xs, e1, e2⟩ := e
      obtain ⟨a, vs, rfl, hs, rv⟩ := seq_V R r0 e1
      refine .inl ⟨a, ns, rfl, by rw [← ints_V rv e2]; exact hs, fun ys q h1 h2 hq => ?_⟩
      rw [sortI_uniq h1 h2]
      exact h.new R hq ⟨_, upd_same, ints_reps _⟩
    · split at h
      · rename_i i
        cases r0 with
        | ref hi =>
        split at h
        · rename_i kvs q
          split at h
          · rename_i ns e
            split at h
            · rename_i hl
              obtain ⟨ks, h1, h2, h3⟩ := R.ob _ _ q
              refine .inr ⟨_, ks, ns, rfl, .inl h1, by rw [h2, intKeys_map e], hl, fun ys q h1 h2 hq => ?_⟩
              rw [sortI_uniq h1 h2]
              exact h.new R hq ⟨_, upd_same, ints_reps _⟩
            · exact h.elim
          · exact h.elim
        · exact h.elim
      · exact h.elim
  · exact h.elim
theorem c_sorted (hc : X.calm = true) (hm : X.mg "sorted" = none) (ha : LM X E [e] f) (hg : Gl X "sorted" := by rfl) (he : starEach [e] X.env = (false, eval e X.env) :: starEach [] X.env := by rfl) : EM X E (.Call (.Name "sorted" p) [e] [] pos) (mCall bSorted f) :=
  e_callB (CallR.or cr_sortedI (call_sortedDI hc)) ok_sorted hg hm (by decide +kernel) ha (by decide) (by decide) he
end
end Ly
set_option Elab.async false
set_option linter.all false
set_option maxRecDepth 100000
namespace Ly
open PySem PySem.Spec L2
open PyProof.Rows hiding St
/-! ### a call of a local name that holds a def out of a table -/
def mCalA (tbl : List (Addr × MD)) (i : Nat) (g : ML) : M := fun l S => match l[i]? with
  | some (some (.cst f)) => (match tbl.lookup f with
    | some md => (g l S).bind fun ds S1 => (md ds S1).at l
    | none => .bad)
  | _ => .bad
def HOk (P : Program) (w : World) (K : PySem.W.Frag) (mg : Str → Option Value) (base : Heap) (CX : CXT) (k : Nat) (f : Addr) (md : MD) : Prop := ∃ (np : Nat) (fd : FuncData) (ps : List Str), FnOk P w K mg base CX k f fd ps (spM K np md) ∧ PySem.W.keepIn K (.ref f) = true ∧ Binds K fd ps [] ∧ ∀ ds S, ds.length ≠ np → md ds S = .bad
section
variable {P : Program} {w : World} {K : PySem.W.Frag} {mg : Str → Option Value} {base : Heap} {CX : CXT} {k : Nat}
inductive HOks (P : Program) (w : World) (K : PySem.W.Frag) (mg : Str → Option Value) (base : Heap) (CX : CXT) (k : Nat) : List (Addr × MD) → Prop
  | nil : HOks P w K mg base CX k []
  | cons {f : Addr} {md : MD} {r : List (Addr × MD)} (h : HOk P w K mg base CX k f md) (t : HOks P w K mg base CX k r) : HOks P w K mg base CX k ((f, md) :: r)
theorem HOks.get {tbl : List (Addr × MD)} (h : HOks P w K mg base CX k tbl) {f : Addr} {md : MD} (e : tbl.lookup f = some md) : HOk P w K mg base CX k f md := by
  induction h with
  | nil => cases e
  | cons h t ih =>
    simp only [List.lookup] at e
    split at e
    · cases e; rename_i q; rw [show f = _ from by simpa using q]; exact h
    · exact ih e
theorem hok {f c : Addr} {fd : FuncData} {ps : List Str} {np j : Nat} {md : MD} (e : c = f) (F : FnOk P w K mg base CX j f fd ps (spM K np md)) (hj : j ≤ k) (hk : PySem.W.keepIn K (.ref f) = true) (hb : Binds K fd ps []) (hl : ∀ ds S, ds.length ≠ np → md ds S = .bad) : HOk P w K mg base CX k c md := by
  subst e
  exact ⟨np, fd, ps, F.mono hj, hk, hb, hl⟩
end
section
variable {X : Cx} {E0 : XK} {CX : CXT} {e : Expr} {es : List Expr} {g : ML} {x : Str} {i k : Nat} {tbl : List (Addr × MD)} {p pos : Pos}
theorem e_calA (hM : HOks X.prog X.w X.K X.mg X.base CX k tbl) (hr : Room k X.A) (hx : Passes CX X E0) (ha : LM X (fun _ => E0) (e :: es) g) (hN : X.N[i]? = some x := by rfl) (hv : Vis X.env.scope x := by exact .inl rfl)
    (hdb : (x == ("__debug__" : Str)) = false := by decide) (hcd : (x == ("__classdict__" : Str)) = false := by decide)
    (he : starEach (e :: es) X.env = (false, eval e X.env) :: starEach es X.env := by rfl) (hpl : (backTo pos (starEach es X.env)).any (·.1) = false := by rfl) :
    EM X (fun _ => E0) (.Call (.Name x p) (e :: es) [] pos) (mCalA tbl i g) := by
  refine ⟨⟨fun pins s σ H Q I ⟨q, l, S, R, L, h⟩ => ?_⟩⟩
  unfold mCalA at h
  split at h
  · rename_i f ef
    split at h
    · rename_i md em
      obtain ⟨np, fd, ps, F, hk, hb, hl⟩ := hM.get em
      refine (pe_callL F hr hN hv hk hb .nil hx ha.pa hdb hcd he hpl).run pins s σ H Q I ⟨?_, ?_⟩
      · obtain ⟨v, e1, r1⟩ := L.get ef
        cases r1
        exact e1
      · exact TL.of R L h fun p1 S1 H1 d v R1 x1 L1 r1 h1 => by
          refine ⟨p1, S1, d, R1, by rw [List.append_nil]; exact r1, ?_, fn_post (E := fun _ => E0) L1 h1⟩
          apply Classical.byContradiction
          intro hne
          rw [hl d S1 hne] at h1
          exact h1
    · exact h.elim
  · exact h.elim
end
theorem kv_cst {K : PySem.W.Frag} {f c : Addr} (e : c = f) : KV K (.ref f) (.cst c) := by subst e; exact ⟨.ref c, rfl, fun _ _ _ => .cst _⟩
/-- the addresses from a to b - 1 are apart -/
def Dst (a b : Nat) (cA : Nat → Addr) : Prop := ∀ i j, a ≤ i → i < b → a ≤ j → j < b → cA i = cA j → i = j
def spY (K : PySem.W.Frag) (a b : Nat) (np : Nat) (m : (Nat → Addr) → MD) : Sp := fun vs H Q E => ∀ cA, Dst a b cA → spM K np (m cA) vs H Q E
theorem law_endY {K : PySem.W.Frag} {a b : Nat} {m : (Nat → Addr) → MD} (hm : ∀ cA, Dst a b cA → LawTrue (m cA)) {H : Hp} {x : Addr} {ns : List Int} (hl : ns.length ≤ 63) (hb : ∀ z ∈ ns, Builtin.Int.intBits z ≤ 1048576) (hO : Only H) (hS : SqL K H x (ns.map V.int)) : spY K a b 1 m [.ref x] H (fun v _ => v = .bl true) fun _ _ _ => False :=
  fun cA h => law_end (hm cA h) hl hb hO hS
theorem dst_of {a b : Nat} {xs : List Addr} (h : ((xs.drop a).take (b - a)).Nodup) (hb : b ≤ xs.length) : Dst a b (fun i => xs.getD i 0) := by
  intro i j hi hi2 hj hj2 e
  have g : ∀ k, a ≤ k → k < b → ((xs.drop a).take (b - a))[k - a]? = some (xs.getD k 0) := by
    intro k h1 h2
    rw [List.getElem?_take_of_lt (by omega), List.getElem?_drop, show a + (k - a) = k by omega]
    have : k < xs.length := by omega
    simp [List.getD, List.getElem?_eq_getElem this]
  have e : xs.getD i 0 = xs.getD j 0 := e
  have e1 := g i hi hi2
  have e2 := g j hj hj2
  rw [e] at e1
  have := (List.getElem?_inj (by have := (List.getElem?_eq_some_iff.mp e1).1; omega) h).mp (e1.trans e2.symm)
  omega
end Ly
set_option Elab.async false
set_option linter.all false
set_option maxRecDepth 100000
namespace Ly
open PySem PySem.Spec L2
open PyProof.Rows hiding St
/-! ### xs[::-1] -/
def oRevL (x : D) (S : Hs) : R D := match seqD x S with
  | some ds => .ok (.ref S.length) (S ++ [.lst ds.reverse])
  | none => .bad
section
variable {X : Cx} {E : St → XK} {e : Expr} {f : M}
theorem reps_rev {K : PySem.W.Frag} {p : Nat → Addr} {n : Nat} {H : Hp} {ds : List D} {vs : List V} (r : Reps K p n H ds vs) : Reps K p n H ds.reverse vs.reverse := by
  induction ds generalizing vs with
  | nil => cases r; exact .nil
  | cons d ds ih =>
    cases r with
    | cons r s =>
      rw [List.reverse_cons, List.reverse_cons]
      exact (ih s).append (.cons r .nil)
theorem c_revL {k : Nat} {p1 p2 p3 pos : Pos} (ha : EM X E e f) : EM X E (.Subscript e (.Slice none none (some (.UnaryOp .USub (.Constant (.int 1) k p1) p2)) p3) pos) (mUn oRevL f) :=
  ⟨(pe_revL ha.pe).weak fun s H Q ⟨p, l, S, R, L, h⟩ => T.of (k := oRevL) R L h fun p1 S1 H1 d v R1 x1 L1 r1 h1 => by
    unfold oRevL at h1
    split at h1
    · rename_i ds q
      obtain ⟨a, vs, rfl, hs, rv⟩ := seq_V R1 r1 q
      exact ⟨a, vs, rfl, hs, fun q hq => h1.new R1 hq ⟨_, upd_same, (reps_rev rv).ext (ext_new hq) _ _⟩⟩
    · exact h1.elim⟩
end
end Ly
set_option Elab.async false
set_option linter.all false
set_option maxRecDepth 100000
namespace Ly
open PySem PySem.Spec L2
open PyProof.Rows hiding St
/-! ### deep recursion: a room of one's own (a call costs one of a thousand, not three) -/
/-- as FnOk, for any notion of room -/
structure FnR (P : Program) (w : World) (K : PySem.W.Frag) (mg : Str → Option Value) (base : Heap) (CX : CXT) (Rm : Around → Prop) (f : Addr) (fd : FuncData) (ps : List Str) (sp : Sp) : Prop where
  len : ∀ vs H Q E, sp vs H Q E → vs.length = ps.length
  run : ∀ (A : Around) (outer : List Env) (s : Shared) (H : Hp) (args : Args) (us : List Value) (vs : List V) (Q : VK) (E : XK), Rm A → Env0 P w K mg base A outer s H → BindsTo s fd args (ps.zip us) → Vals vs us → sp vs H Q E →
    codeAny (model P w) A (.call (.ref f) args) (CR CX outer P w H s Q E) s
/-- n calls within one another, and then what Room j asks -/
structure Rn (j n : Nat) (A : Around) : Prop where
  hd : A.handled = none
  dp : A.depth + 3 * j + n + 5 < recursionLimit
  un : A.units + 16 * j + 5 * n + 200 < cLine
theorem Rn.room {j n : Nat} {A : Around} (r : Rn j n A) : Room j A := ⟨r.hd, by have := r.dp; omega, by have := r.un; omega⟩
theorem Rn.of {j n k : Nat} {A : Around} (r : Room k A) (h : 3 * j + n ≤ 3 * k) : Rn j n A := ⟨r.hd, by have := r.dp; omega, by have := r.un; omega⟩
theorem Rn.deeper {j n : Nat} {A : Around} (r : Rn j (n + 1) A) (env : Env) : Rn j n (A.deeper env) :=
  ⟨r.hd, by have := r.dp; show A.depth + 1 + 3 * j + n + 5 < _; omega, by have := r.un; show A.units + 3 + 16 * j + 5 * n + 200 < _; omega⟩
section
variable {P : Program} {w : World} {K : PySem.W.Frag} {mg : Str → Option Value} {base : Heap} {CX : CXT} {f : Addr} {fd : FuncData} {ps : List Str} {sp : Sp}
theorem FnR.ok {j n k : Nat} (F : FnR P w K mg base CX (Rn j n) f fd ps sp) (h : 3 * j + n ≤ 3 * k) : FnOk P w K mg base CX k f fd ps sp :=
  ⟨F.len, fun A outer s H args us vs Q E hr => F.run A outer s H args us vs Q E (.of hr h)⟩
end
section
variable {X : Cx} {CX : CXT} {Rm : Around → Prop} {f C : Addr} {fd : FuncData} {ps : List Str} {sp : Sp} {E0 : XK} {E : St → XK} {x m : Str} {p pos apos : Pos} {e o : Expr} {es : List Expr} {t : TA} {ta : TE}
theorem run_R {pins : List (Addr × Obj)} {σ : St} {H : Hp} {s : Shared} {Q : VK} {us : List Value} {vs : List V} {E0 : XK} (F : FnR X.prog X.w X.K X.mg X.base CX Rm f fd ps sp) (hr : Rm X.A) (hb : Binds X.K fd ps []) (hx : PassesAt CX X σ E0)
    (I : Inv X pins σ H s) (r : Vals vs us) (h : sp vs H Q E0) : wpAny (model X.prog X.w) X.A (call (.ref f) us) (EP X pins σ Q) X.xe s := by
  have hl : us.length = ps.length := r.length.symm.trans (F.len _ _ _ _ h)
  have hB := hb s us I.kIn (by rw [List.append_nil]; exact hl)
  rw [List.append_nil] at hB
  refine wpAny_call (codeAny_mono (F.run X.A X.stack s H ⟨us, []⟩ us vs Q E0 hr I.env0 hB r h) fun z s' hq => ?_)
  match z, hq with
  | .error e, hq => exact hx pins H s e s' I hq
  | .ok (.ret u), hq => exact I.after hq
theorem pe_callR (F : FnR X.prog X.w X.K X.mg X.base CX Rm f fd ps sp) (hr : Rm X.A) (hg : Gl X x) (hm : X.mg x = some (.ref f)) (hk : PySem.W.keepIn X.K (.ref f) = true) (hb : Binds X.K fd ps []) (hx : ∀ σ, PassesAt CX X σ (E σ))
    (ha : PA X (e :: es) t) (hdb : (x == ("__debug__" : Str)) = false := by decide) (he : starEach (e :: es) X.env = (false, eval e X.env) :: starEach es X.env := by rfl) (hpl : (backTo pos (starEach es X.env)).any (·.1) = false := by rfl) :
    PE X (.Call (.Name x p) (e :: es) [] pos) (tCallSD sp [] E t) :=
  ⟨fun pins s σ H Q I h => wpAny_Call_Name_kw (ld_glob I hg hm (PySem.W.callWith_K (h₀ := X.base) I.ok.mod.kin hk (thn (ha.run pos pins s σ H _ I h) fun us s1 ⟨vs, H1, I1, r, q⟩ => ⟨I1.kIn, run_R F hr hb (hx σ) I1 r (by simp only [List.append_nil] at q; exact q)⟩) he hpl) hdb)⟩
/-- as e_fn -/
theorem e_fnR {np : Nat} {md : MD} {g : ML} (F : FnR X.prog X.w X.K X.mg X.base CX Rm f fd ps (spM X.K np md)) (hp : ∀ ds S, ds.length ≠ np → md ds S = .bad) (hr : Rm X.A) (hg : Gl X x) (hm : X.mg x = some (.ref f)) (hk : PySem.W.keepIn X.K (.ref f) = true) (hb : Binds X.K fd ps [])
    (hx : ∀ σ, PassesAt CX X σ (E σ)) (ha : LM X E (e :: es) g) (hdb : (x == ("__debug__" : Str)) = false := by decide) (he : starEach (e :: es) X.env = (false, eval e X.env) :: starEach es X.env := by rfl)
    (hpl : (backTo pos (starEach es X.env)).any (·.1) = false := by rfl) : EM X E (.Call (.Name x p) (e :: es) [] pos) (mFn md g) :=
  ⟨(pe_callR F hr hg hm hk hb hx ha.pa hdb he hpl).weak fun s H Q ⟨q, l, S, R, L, h⟩ => TL.of R L h fun p1 S1 H1 d v R1 x1 L1 r1 h1 => by
    refine ⟨p1, S1, d, R1, by rw [List.append_nil]; exact r1, ?_, fn_post L1 h1⟩
    apply Classical.byContradiction
    intro hne
    rw [hp d S1 hne] at h1
    exact h1⟩
/-- a method of an object whose class is known -/
theorem pe_methR {pl : Sem Bool} (he : PE X o ta) (c : Cls X.K C) (hm : Meth X.K C m f) (F : FnR X.prog X.w X.K X.mg X.base CX Rm f fd ps sp) (hr : Rm X.A) (hb : Binds X.K fd ps []) (hx : Passes CX X E0) (ha : PA X (e :: es) t)
    (hst : starEach (e :: es) X.env = (false, eval e X.env) :: starEach es X.env := by rfl) (hpl : (backTo pos (starEach es X.env)).any (·.1) = false := by rfl)
    (ht : eval (.Call (.Attribute o m apos) (e :: es) [] pos) X.env = (do let ov ← eval o X.env; standAt apos.atName; let (f, first) ← holding [ov] (getMethod ov m pl); callWith pos f first (backTo pos (starEach (e :: es) X.env)) (backToKw pos (keywordEach [] X.env))) := by rfl) :
    PE X (.Call (.Attribute o m apos) (e :: es) [] pos) (tMeth C m sp [] E0 ta t) := by
  refine ⟨fun pins s σ H Q I h => PySem.W.methodCall_KW (pl := pl) (thn (he.run pins s σ H _ I h) ?_) ht⟩
  rintro u s1 ⟨y, H1, I1, ry, a, dx, fs, rfl, ea, l, q⟩
  cases ry
  refine getmeth_ok I1 ea c hm l (PySem.W.callWith_K (first := [.ref a]) (h₀ := X.base) I.ok.mod.kin hm.kp (thn (ha.run pos pins s1 σ H1 _ I1 q) ?_) hst hpl)
  rintro us s2 ⟨vs, H2, I2, r, q2⟩
  simp only [List.append_nil] at q2
  exact ⟨I2.kIn, run_R (us := .ref a :: us) (vs := .ref a :: vs) F hr hb (Ly.Passes.at hx σ) I2 (.cons rfl r) q2⟩
theorem pe_methR0 {pl : Sem Bool} (he : PE X o ta) (c : Cls X.K C) (hm : Meth X.K C m f) (F : FnR X.prog X.w X.K X.mg X.base CX Rm f fd ps sp) (hr : Rm X.A) (hb : Binds X.K fd ps []) (hx : Passes CX X E0)
    (ht : eval (.Call (.Attribute o m apos) [] [] pos) X.env = (do let ov ← eval o X.env; standAt apos.atName; let (f, first) ← holding [ov] (getMethod ov m pl); callWith pos f first (backTo pos (starEach [] X.env)) (backToKw pos (keywordEach [] X.env))) := by rfl) :
    PE X (.Call (.Attribute o m apos) [] [] pos) (tMeth C m sp [] E0 ta tNil) := by
  refine ⟨fun pins s σ H Q I h => PySem.W.methodCall_KW (pl := pl) (thn (he.run pins s σ H _ I h) ?_) ht⟩
  rintro u s1 ⟨y, H1, I1, ry, a, dx, fs, rfl, ea, l, q⟩
  cases ry
  exact getmeth_ok I1 ea c hm l (PySem.W.callWith_K0 (first := [.ref a]) I1.kIn hm.kp (run_R (us := [.ref a]) (vs := [.ref a]) F hr hb (Ly.Passes.at hx σ) I1 (.cons rfl .nil) q))
/-- what a class and its method must have, for any notion of room -/
def MOkR (P : Program) (w : World) (K : PySem.W.Frag) (mg : Str → Option Value) (base : Heap) (CX : CXT) (Rm : Around → Prop) (m : Str) (C : Addr) (md : MD) : Prop := ∃ (np : Nat) (f : Addr) (fd : FuncData) (ps : List Str), Cls K C ∧ Meth K C m f ∧ FnR P w K mg base CX Rm f fd ps (spM K np md) ∧ L2.Binds K fd ps [] ∧ ∀ ds S, ds.length ≠ np → md ds S = .bad
variable {eo : M} {g : ML} {C1 : Addr} {md1 : MD} {pl : Sem Bool}
theorem one_look {C : Addr} {md : MD} (e : [(C1, md1)].lookup C = some md) : C = C1 ∧ md = md1 := by
  simp only [List.lookup] at e
  split at e
  · rename_i q; cases e; exact ⟨by simpa using q, rfl⟩
  · cases e
/-- a method of the one class that has it -/
theorem e_methR (hM : MOkR X.prog X.w X.K X.mg X.base CX Rm m C1 md1) (hr : Rm X.A) (hx : Passes CX X E0) (ho : EM X (fun _ => E0) o eo) (ha : LM X (fun _ => E0) (e :: es) g)
    (hpl : (backTo pos (starEach es X.env)).any (·.1) = false := by rfl) (hst : starEach (e :: es) X.env = (false, eval e X.env) :: starEach es X.env := by rfl)
    (ht : eval (.Call (.Attribute o m apos) (e :: es) [] pos) X.env = (do let ov ← eval o X.env; standAt apos.atName; let (f, first) ← holding [ov] (getMethod ov m pl); callWith pos f first (backTo pos (starEach (e :: es) X.env)) (backToKw pos (keywordEach [] X.env))) := by rfl) :
    EM X (fun _ => E0) (.Call (.Attribute o m apos) (e :: es) [] pos) (mMeth [(C1, md1)] m eo g) := by
  obtain ⟨np, f, fd, ps, c, hm, F, hb, hl⟩ := hM
  refine ⟨⟨fun pins s σ H Q I ⟨p, l, S, R, L, h⟩ => ?_⟩⟩
  rcases meth_post R L h with ⟨C, md, e1, hT⟩ | hT
  · obtain ⟨rfl, rfl⟩ := one_look e1
    refine (pe_methR (pl := pl) ho.pe c hm F hr hb hx ha.pa hst hpl ht).run pins s σ H Q I ?_
    obtain ⟨q0, l0, S0, R0, L0, h0⟩ := hT
    refine ⟨q0, l0, S0, R0, L0, h0.mono fun x S1 p1 H1 _ x1 R1 hq v rv => ?_⟩
    obtain ⟨a, dx, fs, rfl, g1, g2, q2, l2, S2, R2, L2, h2⟩ := hq v rv
    refine ⟨a, dx, fs, rfl, g1, g2, q2, l2, S2, R2, L2, h2.mono fun ds S3 p3 H3 _ x3 R3 hq3 vs rvs => ?_⟩
    obtain ⟨p4, S4, ds4, R4, r4, h4⟩ := hq3 vs rvs
    rw [List.append_nil]
    refine ⟨p4, S4, ds4, R4, r4, ?_, h4⟩
    apply Classical.byContradiction
    intro hne
    rw [hl _ _ hne] at h4
    exact h4
  · exact (pe_methR (pl := pl) ho.pe c hm F hr hb hx ha.pa hst hpl ht).run pins s σ H Q I (hT _)
theorem e_methR0 (hM : MOkR X.prog X.w X.K X.mg X.base CX Rm m C1 md1) (hr : Rm X.A) (hx : Passes CX X E0) (ho : EM X (fun _ => E0) o eo)
    (ht : eval (.Call (.Attribute o m apos) [] [] pos) X.env = (do let ov ← eval o X.env; standAt apos.atName; let (f, first) ← holding [ov] (getMethod ov m pl); callWith pos f first (backTo pos (starEach [] X.env)) (backToKw pos (keywordEach [] X.env))) := by rfl) :
    EM X (fun _ => E0) (.Call (.Attribute o m apos) [] [] pos) (mMeth [(C1, md1)] m eo lNil) := by
  obtain ⟨np, f, fd, ps, c, hm, F, hb, hl⟩ := hM
  refine ⟨⟨fun pins s σ H Q I ⟨p, l, S, R, L, h⟩ => ?_⟩⟩
  rcases meth_post R L h with ⟨C, md, e1, hT⟩ | hT
  · obtain ⟨rfl, rfl⟩ := one_look e1
    refine (pe_methR0 (pl := pl) ho.pe c hm F hr hb hx ht).run pins s σ H Q I ?_
    obtain ⟨q0, l0, S0, R0, L0, h0⟩ := hT
    refine ⟨q0, l0, S0, R0, L0, h0.mono fun x S1 p1 H1 _ x1 R1 hq v rv => ?_⟩
    obtain ⟨a, dx, fs, rfl, g1, g2, q2, l2, S2, R2, L2, h2⟩ := hq v rv
    refine ⟨a, dx, fs, rfl, g1, g2, ?_⟩
    obtain ⟨p4, S4, ds4, R4, r4, h4⟩ := Post.ok (Q := QL X.K _) h2 Ext.refl R2 [] .nil
    refine ⟨p4, S4, ds4, R4, r4, ?_, h4⟩
    apply Classical.byContradiction
    intro hne
    rw [hl _ _ hne] at h4
    exact h4
  · exact (pe_methR0 (pl := pl) ho.pe c hm F hr hb hx ht).run pins s σ H Q I (hT _)
end
section
variable {P : Program} {w : World} {K : PySem.W.Frag} {mg : Str → Option Value} {base : Heap} {Rm : Around → Prop}
/-- as fn_def -/
theorem fn_defR {x qual : Str} {st : Stmt} {f : Addr} {fd : FuncData} {N ps : List Str} {np nl : Nat} {m : MS} (F : Fun K x qual st f fd) (S : FnScope N ps (defScope st)) (hp : ps.length = np) (hn : N.length = np + nl)
    (hR : ∀ A, Rm A → A.handled = none ∧ A.depth < recursionLimit)
    (hb : ∀ (cdv : Value) (A : Around) (outer : List Env) (s : Shared) (H : Hp) (E : XK), Rm A →
      SMs (cxOf (L2.CX P w) P w K mg base N qual (defScope st) f cdv A outer s H E) (fun _ => E) (defBody st) m) : FnR P w K mg base (L2.CX P w) Rm f fd ps (spM K np (mDef np nl m)) := by
  obtain ⟨oc, od, kV, doc, pm, an, cdv, ct, osl, rfl, lk, hcd⟩ := F.ex
  refine ⟨fun vs H Q E h => (spM_len h).trans hp.symm, fun A outer s H args us vs Q E hr e0 hbt r hsp => ?_⟩
  have hl : vs.length = ps.length := (spM_len hsp).trans hp.symm
  have KX : K.In s.heap := e0.mod.kin.keeps fun b o e => (e0.bs b o e).1
  have lim : s.heap.NoLimit := e0.mod.nolimit.keeps fun b o e => (e0.bs b o e).1
  have hkind : ∀ y ∈ ps.zip us, (defScope st).names.lookup y.1 = some .local ∨ ((defScope st).names.lookup y.1 = some .cell ∧ ((cellsFrom (s.heap.objs.size + 1) (defScope st).names []).lookup y.1).isSome = true) := by
    rintro ⟨n, v⟩ hy
    exact (S.par n (List.of_mem_zip hy).1).imp id fun q => ⟨q, PySem.W.cellsFrom_some _ _ _ (.inl q)⟩
  refine codeAny_call_function (hR A hr).2 (KX _ _ lk) rfl S.co S.gen rfl (PySem.W.codeRec_of KX hcd) (hbt _ _ _ _ (wpAny_newFunctionEnv_cells S.kind hkind ?_))
  rintro env rfl s1 y
  refine ⟨lim.keeps y.toInCall.keep, codeAny_func ?_⟩
  have I : L2.Inv (cxOf (L2.CX P w) P w K mg base N qual (defScope st) f cdv A outer s H E) [] (L2.start N vs) H s1 := inv_start S (hR A hr).1 e0 hl r y
  refine wpAny_mono ((hb cdv A outer s H E hr).ps.run [] s1 (L2.start N vs) H { nx := fun _ H' => Q .non H', rt := Q } I ?_) ?_ fun e s' hs => hs
  · obtain ⟨p, S0, ds, R, r, hl, h⟩ := hsp
    have e : L2.start N vs = vs.map some ++ List.replicate nl none := by
      unfold L2.start
      rw [hn, ← r.len, hl, Nat.add_sub_cancel_left]
    refine ⟨p, ds.map some ++ List.replicate nl none, S0, R, by rw [e]; exact r.sl nl, ?_⟩
    unfold mDef at h
    rw [if_pos hl] at h
    revert h
    generalize m _ S0 = res
    intro h
    cases res with
    | ok a S1 =>
      intro p1 H1 x1 R1
      cases a with
      | nx l1 => exact fun s1 L1 => Post.ok (Q := QD K Q) h x1 R1 _ .non
      | rt d => exact fun v r => Post.ok (Q := QD K Q) h x1 R1 v r
      | bk l1 => exact h.elim
      | ct l1 => exact h.elim
    | exc c fs l S1 => exact fun p1 H1 u d s1 x1 R1 rc rf L1 => h p1 H1 u d [] x1 R1 rc rf .nil
    | bad => exact h
  · intro fl s' hs
    match fl, hs with
    | .ret u, ⟨v, σ', H', J, rv, q⟩ => exact ⟨v, H', J.os, J.bare, J.base, J.hok, rv, q⟩
    | .next, ⟨σ', H', J, q⟩ => exact ⟨.non, H', J.os, J.bare, J.base, J.hok, rfl, q⟩
    | .brk, ⟨_, _, _, q⟩ => exact q.elim
    | .cont, ⟨_, _, _, q⟩ => exact q.elim
end
section
variable {P : Program} {w : World} {K : PySem.W.Frag} {mg : Str → Option Value} {base : Heap} {Rm : Around → Prop} {CX : CXT} {m : Str}
theorem fn_badR {np : Nat} {f : Addr} {fd : FuncData} {ps : List Str} : FnR P w K mg base CX Rm f fd ps (spM K np fun _ _ => .bad) :=
  ⟨fun _ _ _ _ ⟨_, _, _, _, _, _, h⟩ => h.elim, fun _ _ _ _ _ _ _ _ _ _ _ _ _ ⟨_, _, _, _, _, _, h⟩ => h.elim⟩
theorem mokR {C f : Addr} {fd : FuncData} {ps : List Str} {np : Nat} {md : MD} (c : Cls K C) (hm : Meth K C m f) (F : FnR P w K mg base CX Rm f fd ps (spM K np md)) (hb : L2.Binds K fd ps []) (hl : ∀ ds S, ds.length ≠ np → md ds S = .bad) : MOkR P w K mg base CX Rm m C md :=
  ⟨np, f, fd, ps, c, hm, F, hb, hl⟩
end
end Ly
set_option Elab.async false
set_option linter.all false
set_option maxRecDepth 100000
namespace Ly
open PySem PySem.Spec L2
open PyProof.Rows hiding St
/-! ### helpers that many laws share -/
theorem mulok_r {i j : Int} (h : j.natAbs < 2 ^ 64) : IntMulOk i j := .of_right (intBits_le_64 (by omega) (by omega))
theorem mulok_l {i j : Int} (h : i.natAbs < 2 ^ 64) : IntMulOk i j := .of_left (intBits_le_64 (by omega) (by omega))
theorem fine_of {np : Nat} {m' m : MD} (hx : ∀ ds S c fs l S', m' ds S ≠ .exc c fs l S')
    (h : ∀ ds S v S', Wf S → D.lows S.length ds → ds.length = np → m' ds S = .ok v S' → S.length ≤ S'.length ∧ Wf S' ∧ v.low S'.length ∧ ∃ g, m ds S = .ok v (S' ++ g)) : Fine np m' m := by
  intro ds S wf lo hl
  cases e : m' ds S with
  | ok v S' => exact h ds S v S' wf lo hl e
  | exc c fs l S' => exact absurd e (hx ds S c fs l S')
  | bad => trivial
/-- where the store is left as it is -/
theorem fine_pure {np : Nat} {m' m : MD} (h : ∀ ds S, Wf S → D.lows S.length ds → ds.length = np → m' ds S = .bad ∨ ∃ v, m' ds S = .ok v S ∧ v.low S.length ∧ ∃ g, m ds S = .ok v (S ++ g)) : Fine np m' m := by
  intro ds S wf lo hl
  rcases h ds S wf lo hl with e | ⟨v, e, hv, hg⟩
  · rw [e]; trivial
  · rw [e]; exact ⟨Nat.le_refl _, wf, hv, hg⟩
def mixI (c k : Int) : Int :=
  let low := (c * 48271 + k * 69621 + 11) % 2147483647
  (low * low + c * 40692 + k * 7 + 3) % 1000003 % 1000
def S_mix : MD := fun ds S => match ds with
  | [.int c, .int k] => .ok (.int (mixI c k)) S
  | _ => .bad
theorem len_mix (ds : List D) (S : Hs) (h : ds.length ≠ 2) : S_mix ds S = .bad := by
  unfold S_mix; split
  · simp at h
  · rfl
def b_mix : MS := (mSeq (mSet 2 (mBin oMod (mCall bInt (lCons (mBin oAdd (mBin oAdd (mBin oMul (mVar 0) (mC (.int 48271))) (mBin oMul (mVar 1) (mC (.int 69621)))) (mC (.int 11))) lNil)) (mC (.int 2147483647))))
    (mRet (mBin oMod (mBin oMod (mCall bInt (lCons (mBin oAdd (mBin oAdd (mBin oAdd (mBin oMul (mVar 2) (mVar 2)) (mBin oMul (mVar 0) (mC (.int 40692)))) (mBin oMul (mVar 1) (mC (.int 7)))) (mC (.int 3))) lNil)) (mC (.int 1000003))) (mC (.int 1000)))))
theorem fine_mix : Fine 2 S_mix (mDef 2 1 b_mix) := fine_pure fun ds S wf lo hl => by
  unfold S_mix
  split
  · rename_i c k
    refine .inr ⟨_, rfl, by simp [D.low], [], ?_⟩
    have h1 : IntMulOk c 48271 := mulok_r (by decide)
    have h2 : IntMulOk k 69621 := mulok_r (by decide)
    have h3 : IntMulOk c 40692 := mulok_r (by decide)
    have h4 : IntMulOk k 7 := mulok_r (by decide)
    have h5 : IntMulOk ((c * 48271 + k * 69621 + 11) % 2147483647) ((c * 48271 + k * 69621 + 11) % 2147483647) := mulok_r (by omega)
    simp [mDef, b_mix, mSeq, mSet, mRet, mBin, mCall, lCons, lNil, mVar, mC, oAdd, oMul, oMod, bInt, endOf, h1, h2, h3, h4, h5, mixI]
  · exact .inl rfl
/-! ### the draws of a script -/
theorem kRA : ¬ (("row" : Str) = "at") := by decide +kernel
theorem kRS : ¬ (("row" : Str) = "seed") := by decide +kernel
theorem kAS : ¬ (("at" : Str) = "seed") := by decide +kernel
theorem kSA : ¬ (("seed" : Str) = "at") := by decide +kernel
theorem get_put {S : Hs} {i : Nat} {o u : O} (h : S[i]? = some o) : (S.set i u)[i]? = some u := List.getElem?_set_self (Real.lt h)
def drawsK (r a s : D) : List (Key × D) := [(.inr "row", r), (.inr "at", a), (.inr "seed", s)]
@[simp] theorem drawsK_row (r a s : D) : getK (drawsK r a s) (.inr "row") = some r := by simp [getK, drawsK]
@[simp] theorem drawsK_at (r a s : D) : getK (drawsK r a s) (.inr "at") = some a := by simp [getK, drawsK, kRA]
@[simp] theorem drawsK_seed (r a s : D) : getK (drawsK r a s) (.inr "seed") = some s := by simp [getK, drawsK, kRS, kAS]
@[simp] theorem drawsK_len (r a s : D) : (drawsK r a s).length = 3 := rfl
@[simp] theorem drawsK_set (r a s b : D) : setK (drawsK r a s) (.inr "at") b = drawsK r b s := by simp [setK, drawsK, kRA, kSA]
def drawsO (j : Nat) (a sd : Int) : O := .dic (drawsK (.ref j) (.int a) (.int sd))
def pickV (row : List Int) (sd a many : Int) : Int := (if a < (row.length : Int) then row.getD a.toNat 0 else mixI sd a) % many
/-- the draws stand at i, their row at j -/
structure Drw (S : Hs) (i j : Nat) (row : List Int) (a sd : Int) : Prop where
  d : S[i]? = some (drawsO j a sd)
  r : S[j]? = some (.lst (row.map D.int))
  ne : i ≠ j
  nn : 0 ≤ a
open Classical in
noncomputable def S_pick : MD := fun ds S => match ds with
  | [.ref i, .int many] => if h : ∃ t : Nat × List Int × Int × Int, Drw S i t.1 t.2.1 t.2.2.1 t.2.2.2 ∧ 0 < many then
      .ok (.int (pickV h.choose.2.1 h.choose.2.2.2 h.choose.2.2.1 many)) (S.set i (drawsO h.choose.1 (h.choose.2.2.1 + 1) h.choose.2.2.2))
    else .bad
  | _ => .bad
theorem map_int_inj : ∀ {xs ys : List Int}, xs.map D.int = ys.map D.int → xs = ys
  | [], [], _ => rfl
  | [], _ :: _, h => by cases h
  | _ :: _, [], h => by cases h
  | x :: xs, y :: ys, h => by
    simp only [List.map_cons, List.cons.injEq, D.int.injEq] at h
    rw [h.1, map_int_inj h.2]
theorem Drw.same {S : Hs} {i j j' : Nat} {row row' : List Int} {a a' sd sd' : Int} (h : Drw S i j row a sd) (h' : Drw S i j' row' a' sd') : j = j' ∧ row = row' ∧ a = a' ∧ sd = sd' := by
  have e := h.d.symm.trans h'.d
  simp only [drawsO, drawsK, Option.some.injEq, O.dic.injEq, List.cons.injEq, Prod.mk.injEq, D.ref.injEq, D.int.injEq, and_true, true_and] at e
  obtain ⟨rfl, rfl, rfl⟩ := e
  have e := h.r.symm.trans h'.r
  simp only [Option.some.injEq, O.lst.injEq] at e
  exact ⟨rfl, map_int_inj e, rfl, rfl⟩
theorem S_pick_eq {S : Hs} {i j : Nat} {row : List Int} {a sd many : Int} (h : Drw S i j row a sd) (hm : 0 < many) : S_pick [.ref i, .int many] S = .ok (.int (pickV row sd a many)) (S.set i (drawsO j (a + 1) sd)) := by
  have hx : ∃ t : Nat × List Int × Int × Int, Drw S i t.1 t.2.1 t.2.2.1 t.2.2.2 ∧ 0 < many := ⟨(j, row, a, sd), h, hm⟩
  unfold S_pick
  simp only [dif_pos hx]
  obtain ⟨e1, e2, e3, e4⟩ := hx.choose_spec.1.same h
  rw [e1, e2, e3, e4]
theorem len_pick (ds : List D) (S : Hs) (h : ds.length ≠ 2) : S_pick ds S = .bad := by
  unfold S_pick; split
  · simp at h
  · rfl
def b_pick (mix : MD) : MS := (mSeq (mSet 2 (mBin oIx (mVar 0) (mC (.str "at"))))
    (mSeq (mAsg (mBin oAdd (mVar 2) (mC (.int 1))) (gSb (mVar 0) (mC (.str "at"))))
    (mSeq (mSet 3 (mFn mix (lCons (mBin oIx (mVar 0) (mC (.str "seed"))) (lCons (mVar 2) lNil))))
    (mSeq (mIfS (mCmp oLt (mVar 2) (mCall bLen (lCons (mBin oIx (mVar 0) (mC (.str "row"))) lNil))) (mSet 3 (mBin oIx (mBin oIx (mVar 0) (mC (.str "row"))) (mVar 2))) mPass)
    (mRet (mBin oMod (mCall bInt (lCons (mVar 3) lNil)) (mVar 1)))))))
theorem atI_nat {α : Type} {xs : List α} {i : Int} (h0 : 0 ≤ i) (h1 : i < (xs.length : Int)) : L2.atI xs i = xs[i.toNat]? := by
  unfold L2.atI L2.ixN
  rw [if_pos h0, if_pos h1]; rfl
theorem wf_set {S : Hs} {i : Nat} {o : O} (w : Wf S) (l : o.low S.length) : Wf (S.set i o) := by
  intro j o' e
  rw [List.length_set]
  by_cases h : j = i
  · subst h
    have hl := (List.getElem?_eq_some_iff.mp e).1
    rw [List.length_set] at hl
    rw [List.getElem?_set_self hl] at e
    cases e; exact l
  · rw [List.getElem?_set_ne (Ne.symm h)] at e
    exact w j o' e
theorem fine_pick : Fine 2 S_pick (mDef 2 2 (b_pick S_mix)) := by
  intro ds S wf lo hl
  by_cases hp : ∃ i many j row a sd, ds = [.ref i, .int many] ∧ Drw S i j row a sd ∧ 0 < many
  · obtain ⟨i, many, j, row, a, sd, rfl, h, hm⟩ := hp
    rw [S_pick_eq h hm]
    have hi : i < S.length := Real.lt h.d
    have hj : j < S.length := Real.lt h.r
    refine ⟨by simp, wf_set wf (by simp [O.low, drawsO, drawsK, D.lows, D.low, hj]), by simp [D.low], [], ?_⟩
    have d0 : S[i]? = some (.dic (drawsK (.ref j) (.int a) (.int sd))) := h.d
    have hr2 : (S.set i (O.dic (drawsK (.ref j) (.int (a + 1)) (.int sd))))[j]? = some (.lst (row.map D.int)) := by rw [List.getElem?_set_ne h.ne]; exact h.r
    have nn := h.nn
    by_cases hlt : a < (row.length : Int)
    · have hx : row[a.toNat]? = some (row.getD a.toNat 0) := by
        have : a.toNat < row.length := by omega
        simp [List.getD, List.getElem?_eq_getElem this]
      have hat : L2.atI (row.map D.int) a = some (.int (row.getD a.toNat 0)) := by
        rw [atI_nat nn (by simpa using hlt), List.getElem?_map, hx]; rfl
      simp [mDef, b_pick, mSeq, mSet, mRet, mBin, mCall, lCons, lNil, mVar, mC, oAdd, oIx, dGet, D.key, oMod, bInt, endOf, mAsg, gSb, oSet, mFn, S_mix, mIfS, mCmp, bLen, lenD, oLt, mPass, d0, get_put d0, hr2, hlt, hat, hm, pickV, drawsO, show (3:Nat) < sizeLine by decide]
    · simp [mDef, b_pick, mSeq, mSet, mRet, mBin, mCall, lCons, lNil, mVar, mC, oAdd, oIx, dGet, D.key, oMod, bInt, endOf, mAsg, gSb, oSet, mFn, S_mix, mIfS, mCmp, bLen, lenD, oLt, mPass, d0, get_put d0, hr2, hlt, hm, pickV, drawsO, show (3:Nat) < sizeLine by decide]
  · have e : S_pick ds S = .bad := by
      unfold S_pick
      split
      · rename_i i many
        rw [dif_neg]
        rintro ⟨⟨j, row, a, sd⟩, h, hm⟩
        exact hp ⟨i, many, j, row, a, sd, rfl, h, hm⟩
      · rfl
    rw [e]; trivial
/-! ### loops without a way out -/
theorem range_loop {lo : Int} {n i : Nat} {b : MS} (Inv : Nat → Ls → Hs → Prop) (step : ∀ k l S, k < n → Inv k l S → ∃ l' S', b (l.set i (some (.int (lo + k)))) S = .ok (.nx l') S' ∧ Inv (k + 1) l' S') :
    ∀ m k l S, k + m = n → Inv k l S → ∃ l' S', fLoop (.rng lo n) (gN i) b k l S = .ok (.nx l') S' ∧ Inv n l' S'
  | 0, k, l, S, e, h => by
    have hk : k = n := by omega
    subst hk
    exact ⟨l, S, by rw [fLoop_eq]; simp [itGo], h⟩
  | m + 1, k, l, S, e, h => by
    have hk : k < n := by omega
    obtain ⟨l1, S1, e1, h1⟩ := step k l S hk h
    obtain ⟨l2, S2, e2, h2⟩ := range_loop Inv step m (k + 1) l1 S1 (by omega) h1
    exact ⟨l2, S2, by rw [fLoop_eq]; simp [itGo, hk, gN, e1, e2], h2⟩
def b_str1 : MS := (mIfS (mAndB (mCmp oGt (mVar 4) (mC (.int 0))) (mCmp oLt (mCall bLen (lCons (mVar 2) lNil)) (mVar 1))) (mSeq (mExpr (mBM "list" oAppend (mVar 2) (lCons (mBin oMod (mCall bInt (lCons (mVar 4) lNil)) (mC (.int 1000))) lNil)))
    (mSet 4 (mBin oFdiv (mVar 4) (mC (.int 1000))))) mPass)
def b_str2 (mix : MD) : MS := (mIfS (mCmp oLt (mCall bLen (lCons (mVar 2) lNil)) (mVar 1)) (mExpr (mBM "list" oAppend (mVar 2) (lCons (mFn mix (lCons (mVar 4) (lCons (mBin oAdd (mBin oMul (mC (.int 64)) (mVar 5)) (mVar 3)) lNil))) lNil))) mPass)
noncomputable def b_str3 (mix : MD) : MS := (mSeq (mSet 4 (mBin oIx (mVar 0) (mVar 3)))
    (mIfS (mCmp oGe (mVar 4) (mBin oPow (mC (.int 10)) (mC (.int 18)))) (mFor (mRng1 (lCons (mC (.int 60)) lNil)) (gN 5) b_str1) (mFor (mRng1 (lCons (mC (.int 3)) lNil)) (gN 5) (b_str2 mix))))
noncomputable def b_stream (mix : MD) : MS := (mSeq (mSet 2 (mLst lNil))
    (mSeq (mFor (mRng1 (lCons (mCall bMin (lCons (mCall bLen (lCons (mVar 0) lNil)) (lCons (mC (.int 63)) lNil))) lNil)) (gN 3) (b_str3 mix))
    (mRet (mDisp (dpCons (mC (.str "row")) (mVar 2) (dpCons (mC (.str "at")) (mC (.int 0)) (dpCons (mC (.str "seed")) (mCall bLen (lCons (mVar 2) lNil)) dpNil)))))))
theorem get_end {S : Hs} {o : O} : (S ++ [o])[S.length]? = some o := by simp
theorem set_end {S : Hs} {o u : O} : (S ++ [o]).set S.length u = S ++ [u] := by simp [List.set_append]
theorem lenD_seq {x : D} {S : Hs} {ds : List D} (h : seqD x S = some ds) : lenD x S = some ds.length := by
  unfold seqD at h
  split at h
  · unfold lenD
    split at h <;> first | (rename_i q; cases h; simp [q]) | cases h
  · cases h; rfl
  · cases h
theorem seqD_more {x : D} {S g : Hs} {ds : List D} (h : seqD x S = some ds) : seqD x (S ++ g) = some ds := by
  unfold seqD at h ⊢
  split at h
  · rename_i i
    split at h
    · rename_i q; rw [List.getElem?_append_left (Real.lt q), q]; exact h
    · rename_i q; rw [List.getElem?_append_left (Real.lt q), q]; exact h
    · cases h
  · exact h
  · cases h
theorem oIx_seq {x : D} {S : Hs} {ds : List D} {i : Int} {d : D} (h : seqD x S = some ds) (h0 : 0 ≤ i) (h1 : i < (ds.length : Int)) (hd : ds[i.toNat]? = some d) : oIx x (.int i) S = .ok d S := by
  have ha : L2.atI ds i = some d := by rw [atI_nat h0 h1]; exact hd
  unfold seqD at h
  split at h
  · split at h <;> first | (rename_i q; cases h; simp [oIx, q, ha]) | cases h
  · cases h; simp [oIx, ha]
  · cases h
theorem line_big {n : Nat} (h : n ≤ 1000000) : n < sizeLine := Nat.lt_of_le_of_lt h (by decide)
def RowAt (S0 : Hs) (most : Int) (S : Hs) : Prop := ∃ row : List Int, S = S0 ++ [.lst (row.map D.int)] ∧ (row.length : Int) ≤ max most 0
theorem rowAt_push {S0 : Hs} {most : Int} {row : List Int} {v : Int} (h : (row.length : Int) < most) : RowAt S0 most (S0 ++ [.lst (row.map D.int ++ [.int v])]) := ⟨row ++ [v], by simp, by simp; omega⟩
theorem pow18 (S : Hs) : oPow (.int 10) (.int 18) S = .ok (.int 1000000000000000000) S := by
  have e : (10 : Int) ^ (18 : Int).toNat = 1000000000000000000 := by decide +kernel
  have h : 0 ≤ (18 : Int) ∧ (18 : Int) ≤ 1000000 ∧ (10 : Int).natAbs < 2 ^ 64 := by decide +kernel
  simp only [oPow]
  rw [if_pos h, e]
theorem rng1 {n : Int} (S : Hs) (h0 : -1000000000 ≤ n) (h1 : n ≤ 1000000000) : oRng1 [.int n] S = .ok (.rng 0 n.toNat) S := by
  have h : -(2 ^ 62) ≤ n ∧ n < 2 ^ 62 := ⟨Int.le_trans (by decide +kernel) h0, Int.lt_of_le_of_lt h1 (by decide +kernel)⟩
  simp only [oRng1]
  rw [if_pos h]
theorem str1_true {S : Hs} {x : D} {most : Int} {o3 o5 : Option D} {rest : Int} {S' : Hs} (hm : most ≤ 1000000) (hS : RowAt S most S') : ∃ l' S'', fLoop (.rng 0 60) (gN 5) b_str1 0 [some x, some (.int most), some (.ref S.length), o3, some (.int rest), o5] S' = .ok (.nx l') S'' ∧
    (RowAt S most S'' ∧ ∃ o4 o5, l' = [some x, some (.int most), some (.ref S.length), o3, o4, o5]) := by
  have := range_loop (lo := 0) (n := 60) (i := 5) (b := b_str1) (fun _ l S' => RowAt S most S' ∧ ∃ (rest : Int) (o5 : Option D), l = [some x, some (.int most), some (.ref S.length), o3, some (.int rest), o5]) ?_ 60 0 _ S' (by omega) ⟨hS, rest, o5, rfl⟩
  · obtain ⟨l', S'', e, h1, r, o, h2⟩ := this
    exact ⟨l', S'', e, h1, _, _, h2⟩
  · rintro k l S' hk ⟨⟨row, rfl, hr⟩, rest, o5, rfl⟩
    by_cases h0 : 0 < rest
    · by_cases h1 : (row.length : Int) < most
      · refine ⟨_, _, ?_, rowAt_push (v := rest % 1000) h1, rest / 1000, some (.int (0 + k)), rfl⟩
        have hb : row.length < sizeLine := line_big (by omega)
        simp [b_str1, mIfS, mAndB, mCmp, mVar, mC, oGt, oLt, mCall, bLen, lCons, lNil, lenD, h0, h1, mSeq, mExpr, mBM, hasTy, oAppend, mBin, oMod, bInt, mSet, oFdiv, hb, show Nat.log2 1000 < 9000 by decide]
      · refine ⟨_, _, ?_, ⟨row, rfl, hr⟩, rest, some (.int (0 + k)), rfl⟩
        simp [b_str1, mIfS, mAndB, mCmp, mVar, mC, oGt, oLt, mCall, bLen, lCons, lNil, lenD, h0, h1, mPass]
    · refine ⟨_, _, ?_, ⟨row, rfl, hr⟩, rest, some (.int (0 + k)), rfl⟩
      simp [b_str1, mIfS, mAndB, mCmp, mVar, mC, oGt, h0, mPass]
theorem str2_true {S : Hs} {x : D} {most : Int} {c : Int} {o5 : Option D} {rest : Int} {S' : Hs} (hm : most ≤ 1000000) (hS : RowAt S most S') : ∃ l' S'', fLoop (.rng 0 3) (gN 5) (b_str2 S_mix) 0 [some x, some (.int most), some (.ref S.length), some (.int c), some (.int rest), o5] S' = .ok (.nx l') S'' ∧
    (RowAt S most S'' ∧ ∃ o5, l' = [some x, some (.int most), some (.ref S.length), some (.int c), some (.int rest), o5]) := by
  refine range_loop (lo := 0) (n := 3) (i := 5) (fun _ l S' => RowAt S most S' ∧ ∃ (o5 : Option D), l = [some x, some (.int most), some (.ref S.length), some (.int c), some (.int rest), o5]) ?_ 3 0 _ S' (by omega) ⟨hS, o5, rfl⟩
  rintro k l S' hk ⟨⟨row, rfl, hr⟩, o5, rfl⟩
  by_cases h1 : (row.length : Int) < most
  · refine ⟨_, _, ?_, rowAt_push (v := mixI rest (64 * (0 + k) + c)) h1, some (.int (0 + k)), rfl⟩
    have hb : row.length < sizeLine := line_big (by omega)
    have hmul : IntMulOk 64 (k : Int) := mulok_l (by decide)
    simp [b_str2, mIfS, mCmp, mVar, mC, oLt, mCall, bLen, lCons, lNil, lenD, h1, mExpr, mBM, hasTy, oAppend, mBin, hb, mFn, S_mix, oMul, oAdd, hmul]
  · refine ⟨_, _, ?_, ⟨row, rfl, hr⟩, some (.int (0 + k)), rfl⟩
    simp [b_str2, mIfS, mCmp, mVar, mC, oLt, mCall, bLen, lCons, lNil, lenD, h1, mPass]
theorem str3_true {x : D} {S : Hs} {ns : List Int} {most : Int} (hx : seqD x S = some (ns.map D.int)) (hm : most ≤ 1000000) (k : Nat) (l : Ls) (S' : Hs) (hk : k < ns.length) (h : RowAt S most S' ∧ ∃ (o3 o4 o5 : Option D), l = [some x, some (.int most), some (.ref S.length), o3, o4, o5]) :
    ∃ l' S'', b_str3 S_mix (l.set 3 (some (.int (0 + k)))) S' = .ok (.nx l') S'' ∧ RowAt S most S'' ∧ ∃ (o3 o4 o5 : Option D), l' = [some x, some (.int most), some (.ref S.length), o3, o4, o5] := by
  obtain ⟨hS, o3, o4, o5, rfl⟩ := h
  have hS0 := hS
  obtain ⟨row, rfl, hr⟩ := hS
  have hix : oIx x (.int (k : Int)) (S ++ [.lst (row.map D.int)]) = .ok (.int ns[k]) (S ++ [.lst (row.map D.int)]) := oIx_seq (seqD_more hx) (by omega) (by simpa using hk) (by simp [hk])
  by_cases hg : (1000000000000000000 : Int) ≤ ns[k]
  · obtain ⟨l', S'', e, h1, o4', o5', h2⟩ := str1_true (S := S) (x := x) (o3 := some (.int (0 + k))) (o5 := o5) (rest := ns[k]) hm hS0
    refine ⟨l', S'', ?_, h1, _, _, _, h2⟩
    rw [← e]
    simp [b_str3, mSeq, mSet, mBin, mVar, hix, mIfS, mCmp, mC, pow18, oGe, hg, mFor, mRng1, rng1, lCons, lNil]
  · obtain ⟨l', S'', e, h1, o5', h2⟩ := str2_true (S := S) (x := x) (c := 0 + k) (o5 := o5) (rest := ns[k]) hm hS0
    refine ⟨l', S'', ?_, h1, _, _, _, h2⟩
    rw [← e]
    simp [b_str3, mSeq, mSet, mBin, mVar, hix, mIfS, mCmp, mC, pow18, oGe, hg, mFor, mRng1, rng1, lCons, lNil]
theorem mLst_nil (l : Ls) (S : Hs) : mLst lNil l S = .ok (.ref S.length) (S ++ [.lst []]) := by
  have h : ([] : List D).length ≤ sizeLine := Nat.zero_le _
  simp only [mLst, lNil, R.bind_ok]
  rw [if_pos h]
theorem stream_true {x : D} {S : Hs} {ns : List Int} {most : Int} (hx : seqD x S = some (ns.map D.int)) (hl : ns.length ≤ 63) (hm : most ≤ 1000000) :
    ∃ row : List Int, (row.length : Int) ≤ max most 0 ∧ mDef 2 4 (b_stream S_mix) [x, .int most] S = .ok (.ref (S.length + 1)) (S ++ [.lst (row.map D.int), drawsO S.length 0 row.length]) := by
  have outer := range_loop (lo := 0) (n := ns.length) (i := 3) (b := b_str3 S_mix)
    (fun _ l S' => RowAt S most S' ∧ ∃ (o3 o4 o5 : Option D), l = [some x, some (.int most), some (.ref S.length), o3, o4, o5]) (fun k l S' hk h => str3_true hx hm k l S' hk h) ns.length 0 [some x, some (.int most), some (.ref S.length), none, none, none] (S ++ [.lst []]) (by omega) ⟨⟨[], rfl, by simp; omega⟩, none, none, none, rfl⟩
  obtain ⟨l', S', e, ⟨row, rfl, hr⟩, o3, o4, o5, rfl⟩ := outer
  refine ⟨row, hr, ?_⟩
  have hmin : (if (63 : Int) < (ns.length : Int) then (63 : Int) else (ns.length : Int)) = (ns.length : Int) := if_neg (by omega)
  have hlen' : lenD x (S ++ [.lst []]) = some ns.length := by
    have := lenD_seq (seqD_more (g := [.lst []]) hx)
    rwa [List.length_map] at this
  have hb1 : (ns.length : Int) ≤ 1000000000 := by omega
  have hb0 : -1000000000 ≤ (ns.length : Int) := by omega
  have hb : row.length < sizeLine := line_big (by omega)
  have e1 : mFor (mRng1 (lCons (mCall bMin (lCons (mCall bLen (lCons (mVar 0) lNil)) (lCons (mC (.int 63)) lNil))) lNil)) (gN 3) (b_str3 S_mix) [some x, some (.int most), some (.ref S.length), none, none, none] (S ++ [.lst []]) = .ok (.nx [some x, some (.int most), some (.ref S.length), o3, o4, o5]) (S ++ [.lst (row.map D.int)]) := by
    simp only [mFor, mRng1, lCons, mCall, mVar, List.getElem?_cons_zero, lNil, R.bind_ok, bLen, hlen', mC, bMin, hmin, rng1 _ hb0 hb1, Int.toNat_natCast, e]
  simp [mDef, b_stream, mSeq, mSet, mLst_nil, e1, mRet, mDisp, dpCons, dpNil, mC, mVar, mCall, bLen, lCons, lNil, lenD, keysP, D.key, endOf, drawsO, mergeD, setK, drawsK, kRA, kRS, kAS]
end Ly
set_option Elab.async false
set_option linter.all false
set_option maxRecDepth 100000
namespace Ly
open PySem PySem.Spec L2
open PyProof.Rows hiding St
/-! ### texts as rows of signs -/
def tx (cs : List Nat) : Str := ⟨⟨cs⟩⟩
@[simp] theorem tx_len (cs : List Nat) : (tx cs).length = cs.length := rfl
@[simp] theorem tx_list (cs : List Nat) : (tx cs).cps.toList = cs := rfl
theorem tx_app (a b : List Nat) : tx a ++ tx b = tx (a ++ b) := by
  show (⟨(⟨a⟩ : Array Nat) ++ (⟨b⟩ : Array Nat)⟩ : Str) = _
  simp [tx]
theorem tx_of (x : Str) : x = tx x.cps.toList := rfl
theorem tx_inj {a b : List Nat} (h : tx a = tx b) : a = b := congrArg (fun z => z.cps.toList) h
@[simp] theorem tx_eq {a b : List Nat} : (tx a = tx b) = (a = b) := propext ⟨tx_inj, fun h => by rw [h]⟩
def posC (c : Nat) : List Nat → Nat → List Nat
  | [], _ => []
  | x :: r, a => if x = c then a :: posC c r (a + 1) else posC c r (a + 1)
theorem occ_run (x : Str) (c limit : Nat) : ∀ (rest : List Nat) (a : Nat) (fd : Array Nat) (fr : Nat), x.cps.toList.drop a = rest → a ≤ x.length → fr ≤ a → fd.size ≤ limit →
    (forIn (List.range' a (x.length + 1 - a)) (fd, fr) (StrLaws.occBody x ⟨#[c]⟩ x.length limit)).run.fst.toList = fd.toList ++ (posC c rest a).take (limit - fd.size)
  | [], a, fd, fr, h, ha, hf, hs => by
    have hl : x.length ≤ a := by
      have := congrArg List.length h
      simp [Str.length] at this ⊢
      omega
    have e : x.length + 1 - a = 1 := by omega
    rw [e, List.range'_one, List.forIn_cons]
    unfold StrLaws.occBody
    have hn : ¬ (((fd.size < limit ∧ fr ≤ a) ∧ a + (⟨#[c]⟩ : Str).length ≤ x.length) ∧ Builtin.Str.subAt x ⟨#[c]⟩ a = true) := by
      intro hh
      have : (⟨#[c]⟩ : Str).length = 1 := rfl
      omega
    rw [if_neg hn]
    simp [posC]
  | y :: r, a, fd, fr, h, ha, hf, hs => by
    have hy : x.cps.toList[a]? = some y := by
      have : (x.cps.toList.drop a)[0]? = some y := by rw [h]; rfl
      rw [List.getElem?_drop] at this
      simpa using this
    have hlt : a < x.length := by
      obtain ⟨q, _⟩ := List.getElem?_eq_some_iff.mp hy
      simpa [Str.length] using q
    have hd : x.cps.toList.drop (a + 1) = r := by
      rw [← List.drop_drop, h]; rfl
    have e : x.length + 1 - a = (x.length + 1 - (a + 1)) + 1 := by omega
    rw [e, List.range'_succ, List.forIn_cons]
    unfold StrLaws.occBody
    by_cases hc : y = c
    · subst hc
      have hsub := (StrLaws.subAt_one x y a).mpr hy
      by_cases hsz : fd.size < limit
      · rw [if_pos ⟨⟨⟨hsz, hf⟩, hsub.1⟩, hsub.2⟩]
        show (forIn (List.range' (a + 1) (x.length + 1 - (a + 1))) (fd.push a, a + 1) (StrLaws.occBody x ⟨#[y]⟩ x.length limit)).run.fst.toList = _
        rw [occ_run x y limit r (a + 1) (fd.push a) (a + 1) hd (by omega) (by omega) (by simp; omega)]
        have e2 : limit - fd.size = (limit - (fd.size + 1)) + 1 := by omega
        simp [posC, e2]
      · rw [if_neg (fun hh => hsz hh.1.1.1)]
        show (forIn (List.range' (a + 1) (x.length + 1 - (a + 1))) (fd, fr) (StrLaws.occBody x ⟨#[y]⟩ x.length limit)).run.fst.toList = _
        rw [occ_run x y limit r (a + 1) fd fr hd (by omega) (by omega) (by omega)]
        have e2 : limit - fd.size = 0 := by omega
        simp [e2]
    · rw [if_neg (fun hh => hc (by
        have := (StrLaws.subAt_one x c a).mp ⟨hh.1.2, hh.2⟩
        rw [hy] at this; exact Option.some.inj this))]
      show (forIn (List.range' (a + 1) (x.length + 1 - (a + 1))) (fd, fr) (StrLaws.occBody x ⟨#[c]⟩ x.length limit)).run.fst.toList = _
      rw [occ_run x c limit r (a + 1) fd fr hd (by omega) (by omega) (by omega)]
      simp [posC, hc]
theorem occ_pos (cs : List Nat) (c a limit : Nat) (ha : a ≤ cs.length) : Builtin.Str.occurrences (tx cs) ⟨#[c]⟩ a cs.length limit = (posC c (cs.drop a) a).take limit := by
  rw [StrLaws.occ_eq]
  have := occ_run (tx cs) c limit (cs.drop a) a #[] a rfl ha (Nat.le_refl _) (Nat.zero_le _)
  simpa using this
theorem posC_len (c : Nat) : ∀ (cs : List Nat) (a : Nat), (posC c cs a).length = cs.count c
  | [], _ => rfl
  | x :: r, a => by
    by_cases h : x = c
    · simp [posC, h, posC_len c r (a + 1)]
    · simp [posC, h, posC_len c r (a + 1), List.count_cons, h]
theorem count_tx (cs : List Nat) (c : Nat) : Txt.count (tx cs) ⟨#[c]⟩ = (cs.count c : Int) := by
  have h : Txt.count (tx cs) ⟨#[c]⟩ = ((Builtin.Str.occurrences (tx cs) ⟨#[c]⟩ 0 cs.length (cs.length + 1)).length : Int) := rfl
  rw [h, occ_pos cs c 0 _ (Nat.zero_le _), List.drop_zero, List.length_take, posC_len]
  have := List.count_le_length (a := c) (l := cs)
  omega
/-- where the first c stands from a on -/
def firstC (c : Nat) : List Nat → Nat → Option Nat
  | [], _ => none
  | x :: r, a => if x = c then some a else firstC c r (a + 1)
theorem posC_head (c : Nat) : ∀ (cs : List Nat) (a : Nat), (posC c cs a).head? = firstC c cs a
  | [], _ => rfl
  | x :: r, a => by
    by_cases h : x = c
    · simp [posC, h, firstC]
    · simp [posC, h, firstC, posC_head c r (a + 1)]
theorem from_nat {n a : Nat} (h : a ≤ n) : fromIndex n (a : Int) = a := by
  unfold fromIndex
  split <;> omega
theorem find3_tx (cs : List Nat) (c a : Nat) (ha : a ≤ cs.length) : Txt.find3 (tx cs) ⟨#[c]⟩ (a : Int) = (match firstC c (cs.drop a) a with | some i => (i : Int) | none => -1) := by
  have h : Txt.find3 (tx cs) ⟨#[c]⟩ (a : Int) = (match Builtin.Str.occurrences (tx cs) ⟨#[c]⟩ (fromIndex cs.length (a : Int)) cs.length 1 with | k :: _ => (k : Int) | [] => -1) := rfl
  rw [h, from_nat ha, occ_pos cs c a 1 ha, ← posC_head]
  cases posC c (cs.drop a) a <;> simp
/-- the place behind the last c, or 0 -/
def behC (c : Nat) : List Nat → Nat → Nat → Nat
  | [], _, e => e
  | x :: r, a, e => behC c r (a + 1) (if x = c then a + 1 else e)
theorem behC_app (c : Nat) : ∀ (xs ys : List Nat) (a e : Nat), behC c (xs ++ ys) a e = behC c ys (a + xs.length) (behC c xs a e)
  | [], ys, a, e => by simp [behC]
  | x :: r, ys, a, e => by
    simp only [List.cons_append, behC, List.length_cons]
    rw [behC_app c r ys (a + 1), Nat.add_assoc, Nat.add_comm 1]
def lastBody (s sub : Str) (hi : Nat) (i : Nat) (st : Option Nat) : Id (ForInStep (Option Nat)) :=
  if i + sub.length ≤ hi ∧ Builtin.Str.subAt s sub i = true then pure (ForInStep.yield (some i)) else pure (ForInStep.yield st)
theorem last_eq (s sub : Str) (hi : Nat) : Builtin.Str.lastOccurrence s sub 0 hi = (forIn (List.range' 0 (hi + 1)) (none : Option Nat) (lastBody s sub hi)).run := by
  unfold Builtin.Str.lastOccurrence lastBody
  simp
def upO (e : Nat) : Option Nat := if e = 0 then none else some (e - 1)
theorem last_run (x : Str) (c : Nat) : ∀ (rest : List Nat) (a e : Nat), x.cps.toList.drop a = rest → a ≤ x.length →
    (forIn (List.range' a (x.length + 1 - a)) (upO e) (lastBody x ⟨#[c]⟩ x.length)).run = upO (behC c rest a e)
  | [], a, e, h, ha => by
    have hl : x.length ≤ a := by
      have := congrArg List.length h
      simp [Str.length] at this ⊢
      omega
    have e1 : x.length + 1 - a = 1 := by omega
    rw [e1, List.range'_one, List.forIn_cons]
    unfold lastBody
    have hn : ¬ (a + (⟨#[c]⟩ : Str).length ≤ x.length ∧ Builtin.Str.subAt x ⟨#[c]⟩ a = true) := by
      intro hh
      have : (⟨#[c]⟩ : Str).length = 1 := rfl
      omega
    rw [if_neg hn]
    simp [behC]
  | y :: r, a, e, h, ha => by
    have hy : x.cps.toList[a]? = some y := by
      have : (x.cps.toList.drop a)[0]? = some y := by rw [h]; rfl
      rw [List.getElem?_drop] at this
      simpa using this
    have hlt : a < x.length := by
      obtain ⟨q, _⟩ := List.getElem?_eq_some_iff.mp hy
      simpa [Str.length] using q
    have hd : x.cps.toList.drop (a + 1) = r := by
      rw [← List.drop_drop, h]; rfl
    have e1 : x.length + 1 - a = (x.length + 1 - (a + 1)) + 1 := by omega
    rw [e1, List.range'_succ, List.forIn_cons]
    unfold lastBody
    by_cases hc : y = c
    · subst hc
      rw [if_pos ((StrLaws.subAt_one x y a).mpr hy)]
      show (forIn (List.range' (a + 1) (x.length + 1 - (a + 1))) (upO (a + 1)) (lastBody x ⟨#[y]⟩ x.length)).run = _
      rw [last_run x y r (a + 1) (a + 1) hd (by omega)]
      simp [behC]
    · rw [if_neg (fun hh => hc (by
        have := (StrLaws.subAt_one x c a).mp hh
        rw [hy] at this; exact Option.some.inj this))]
      show (forIn (List.range' (a + 1) (x.length + 1 - (a + 1))) (upO e) (lastBody x ⟨#[c]⟩ x.length)).run = _
      rw [last_run x c r (a + 1) e hd (by omega)]
      simp [behC, hc]
theorem rfind_tx (cs : List Nat) (c : Nat) : Txt.rfind (tx cs) ⟨#[c]⟩ = (behC c cs 0 0 : Int) - 1 := by
  have h : Txt.rfind (tx cs) ⟨#[c]⟩ = (match Builtin.Str.lastOccurrence (tx cs) ⟨#[c]⟩ 0 cs.length with | some i => (i : Int) | none => -1) := rfl
  have e := last_run (tx cs) c cs 0 0 rfl (Nat.zero_le _)
  rw [h, last_eq]
  have e' : (forIn (List.range' 0 (cs.length + 1)) (none : Option Nat) (lastBody (tx cs) ⟨#[c]⟩ cs.length)).run = upO (behC c cs 0 0) := e
  rw [e']
  unfold upO
  split
  · rename_i q; split at q
    · cases q
    · cases q
      rename_i hz
      have h1 : 1 ≤ behC c cs 0 0 := Nat.one_le_iff_ne_zero.mpr hz
      exact Int.ofNat_sub h1
  · rename_i q; split at q
    · rename_i hz; rw [hz]; rfl
    · cases q
theorem behC_le (c : Nat) : ∀ (cs : List Nat) (a e : Nat), e ≤ a → behC c cs a e ≤ a + cs.length
  | [], a, e, h => by simpa [behC] using h
  | x :: r, a, e, h => by
    have := behC_le c r (a + 1) (if x = c then a + 1 else e) (by split <;> omega)
    simp only [behC, List.length_cons]
    omega
/-! ### signs and parts of a text -/
theorem ix_tx {cs : List Nat} {i c : Nat} {S : Hs} (h : cs[i]? = some c) (hl : cs.length ≤ sizeLine) : oIx (.str (tx cs)) (.int (i : Int)) S = .ok (.str (tx [c])) S := by
  have hlt : i < cs.length := (List.getElem?_eq_some_iff.mp h).1
  have ha : L2.atI cs (i : Int) = some c := by rw [atI_nat (by omega) (by omega)]; simpa using h
  have hl' : (tx cs).length ≤ sizeLine := hl
  simp only [oIx]
  rw [if_pos hl', tx_list, ha]
  rfl
theorem sl_tx {cs : List Nat} {a b : Nat} {S : Hs} (ha : a ≤ b) (hl : cs.length ≤ sizeLine) : oSl (.str (tx cs)) (some (a : Int)) (some (b : Int)) S = .ok (.str (tx ((cs.drop a).take (b - a)))) S := by
  have hl' : (tx cs).length ≤ sizeLine := hl
  simp only [oSl]
  rw [if_pos hl']
  have e : cutS (tx cs) (some (a : Int)) (some (b : Int)) = tx ((cs.drop a).take (b - a)) := by
    show tx _ = tx _
    simp only [HT.sIx, tx_len, tx_list, Int.toNat_natCast]
    rw [if_neg (by omega), if_neg (by omega)]
    by_cases h1 : a ≤ cs.length
    · rw [Nat.min_eq_left h1]
      by_cases h2 : b ≤ cs.length
      · rw [Nat.min_eq_left h2]
      · rw [Nat.min_eq_right (by omega)]
        rw [List.take_of_length_le (i := b - a) (by simp; omega), List.take_of_length_le (by simp)]
    · rw [Nat.min_eq_right (by omega : cs.length ≤ a), List.drop_of_length_le (Nat.le_refl _), List.drop_of_length_le (by omega : cs.length ≤ a)]; simp
  rw [e]
theorem add_tx {a b : List Nat} {S : Hs} (h : a.length + b.length ≤ sizeLine) : oAdd (.str (tx a)) (.str (tx b)) S = .ok (.str (tx (a ++ b))) S := by
  have h' : (tx a).length + (tx b).length ≤ sizeLine := h
  simp only [oAdd]
  rw [if_pos h', tx_app]
theorem in_tx {c : Nat} {cs : List Nat} {S : Hs} : oIn (.str (tx [c])) (.str (tx cs)) S = .ok (.bl (decide (c ∈ cs))) S := rfl
/-! ### equal data -/
mutual
def D.plain : D → Bool
  | .non => true
  | .bl _ => true
  | .int _ => true
  | .str x => PyData.strOk x
  | .tup ds => D.plains ds
  | .wt ds => D.plains ds
  | _ => false
def D.plains : List D → Bool
  | [] => true
  | d :: ds => D.plain d && D.plains ds
end
mutual
def D.toP : D → PyData
  | .non => .none
  | .bl b => .bool b
  | .int i => .int i
  | .str x => .str x
  | .tup ds => .tuple (D.toPs ds)
  | .wt ds => .tuple (D.toPs ds)
  | _ => .none
def D.toPs : List D → List PyData
  | [] => []
  | d :: ds => D.toP d :: D.toPs ds
end
mutual
theorem D.pd_plain (S : Hs) : ∀ (d : D) (k : Nat), d.plain = true → 2 * d.toP.depth < k → D.pd S k d = some d.toP
  | d, 0, _, h => absurd h (Nat.not_lt_zero _)
  | .non, k + 1, _, _ => by rw [D.pd, D.toP]
  | .bl _, k + 1, _, _ => by rw [D.pd, D.toP]
  | .int _, k + 1, _, _ => by rw [D.pd, D.toP]
  | .str _, k + 1, _, _ => by rw [D.pd, D.toP]
  | .tup ds, k + 1, h, hk => by
    rw [D.pd, D.toP, D.pds_plain S ds k (by simpa [D.plain] using h) (by simp [D.toP, PyData.depth] at hk; omega)]; rfl
  | .wt ds, k + 1, h, hk => by
    rw [D.pd, D.toP, D.pds_plain S ds k (by simpa [D.plain] using h) (by simp [D.toP, PyData.depth] at hk; omega)]; rfl
  | .wl _, _ + 1, h, _ => by simp [D.plain] at h
  | .ref _, _ + 1, h, _ => by simp [D.plain] at h
  | .cst _, _ + 1, h, _ => by simp [D.plain] at h
theorem D.pds_plain (S : Hs) : ∀ (ds : List D) (k : Nat), D.plains ds = true → 2 * PyData.depthAll (D.toPs ds) + 1 < k → D.pds S k ds = some (D.toPs ds)
  | [], k, _, _ => by cases k <;> simp [D.pds, D.toPs]
  | d :: ds, 0, _, h => absurd h (Nat.not_lt_zero _)
  | d :: ds, k + 1, h, hk => by
    simp only [D.plains, Bool.and_eq_true] at h
    simp only [D.toPs, PyData.depthAll] at hk
    rw [D.pds, D.pd_plain S d k h.1 (by omega), D.pds_plain S ds (k + 1) h.2 (by omega), D.toPs]
end
mutual
theorem D.lay_plain : ∀ (d : D), d.plain = true → d.toP.canLay0 = true
  | .non, _ => by simp [D.toP, PyData.canLay0]
  | .bl _, _ => by simp [D.toP, PyData.canLay0]
  | .int _, _ => by simp [D.toP, PyData.canLay0]
  | .str x, h => by simpa [D.toP, PyData.canLay0, D.plain] using h
  | .tup ds, h => by
    rw [D.toP, PyData.canLay0]; exact D.lays_plain ds (by simpa [D.plain] using h)
  | .wt ds, h => by
    rw [D.toP, PyData.canLay0]; exact D.lays_plain ds (by simpa [D.plain] using h)
  | .wl _, h => by simp [D.plain] at h
  | .ref _, h => by simp [D.plain] at h
  | .cst _, h => by simp [D.plain] at h
theorem D.lays_plain : ∀ (ds : List D), D.plains ds = true → PyData.canLayAll0 (D.toPs ds) = true
  | [], _ => by simp [D.toPs, PyData.canLayAll0]
  | d :: ds, h => by
    simp only [D.plains, Bool.and_eq_true] at h
    simp [D.toPs, PyData.canLayAll0, D.lay_plain d h.1, D.lays_plain ds h.2]
end
theorem plains_app : ∀ (xs ys : List D), D.plains (xs ++ ys) = (D.plains xs && D.plains ys)
  | [], ys => by simp [D.plains]
  | x :: xs, ys => by simp [D.plains, plains_app xs ys, Bool.and_assoc]
theorem plains_mem : ∀ (xs : List D), D.plains xs = true ↔ ∀ x ∈ xs, D.plain x = true
  | [] => by simp [D.plains]
  | x :: xs => by simp [D.plains, plains_mem xs]
theorem depthAll_mem {n : Nat} : ∀ (xs : List D), (∀ x ∈ xs, x.toP.depth ≤ n) → PyData.depthAll (D.toPs xs) ≤ n
  | [], _ => by simp [D.toPs, PyData.depthAll]
  | x :: xs, h => by
    simp only [D.toPs, PyData.depthAll]
    have h1 := h x (List.mem_cons_self ..)
    have h2 := depthAll_mem xs (fun y m => h y (List.mem_cons_of_mem _ m))
    omega
/-- the data of a thing, as == sees it -/
theorem cEqD_same {x y : D} {S : Hs} {a : PyData} (e : cEqS x y = none) (hx : D.pd S 70 x = some a) (hy : D.pd S 70 y = some a) (hs : SeqAt.shaped a = true) : cEqD x y S = some true := by
  unfold cEqD
  rw [e, hx, hy]
  simp only []
  have h : a.canLay0 = true := by
    simp only [SeqAt.shaped, Bool.and_eq_true] at hs; exact hs.1
  rw [if_pos ⟨hs, hs⟩, PySem.SeqAt.eqv_refl a h]
theorem pd_lst {S : Hs} {i : Nat} {xs : List D} (h : S[i]? = some (.lst xs)) (hp : D.plains xs = true) (hd : PyData.depthAll (D.toPs xs) ≤ 30) : D.pd S 70 (.ref i) = some (.list (D.toPs xs)) ∧ SeqAt.shaped (.list (D.toPs xs)) = true := by
  refine ⟨?_, ?_⟩
  · rw [D.pd, h]
    simp only []
    rw [D.pds_plain S xs 69 hp (by omega)]; rfl
  · show (_ && _) = true
    rw [Bool.and_eq_true]
    refine ⟨by rw [PyData.canLay0]; exact D.lays_plain xs hp, decide_eq_true ?_⟩
    rw [PyData.depth]
    omega
theorem pd_tup {S : Hs} {xs : List D} (hp : D.plains xs = true) (hd : PyData.depthAll (D.toPs xs) ≤ 30) : D.pd S 70 (.tup xs) = some (.tuple (D.toPs xs)) ∧ SeqAt.shaped (.tuple (D.toPs xs)) = true := by
  refine ⟨?_, ?_⟩
  · rw [D.pd, D.pds_plain S xs 69 hp (by omega)]; rfl
  · show (_ && _) = true
    rw [Bool.and_eq_true]
    refine ⟨by rw [PyData.canLay0]; exact D.lays_plain xs hp, decide_eq_true ?_⟩
    rw [PyData.depth]
    omega
theorem eq_lsts {S : Hs} {i j : Nat} {xs : List D} (hi : S[i]? = some (.lst xs)) (hj : S[j]? = some (.lst xs)) (hp : D.plains xs = true) (hd : PyData.depthAll (D.toPs xs) ≤ 30) : cEqD (.ref i) (.ref j) S = some true :=
  cEqD_same rfl (pd_lst hi hp hd).1 (pd_lst hj hp hd).1 (pd_lst hi hp hd).2
end Ly
set_option Elab.async false
set_option linter.all false
set_option maxRecDepth 100000
namespace Ly
open PySem PySem.Spec L2
open PyProof.Rows hiding St
/-! ### the steps, one by one: for simp, without opening what stands within -/
theorem nr {α : Type} {a b : α} (h : a = b) : a = b := h.trans (Eq.refl _)
section
variable {f g h : M} {fl : ML} {fm : MO} {c c2 : MB} {b b2 : MS} {gg : MG} {gs : MGs} {l : Ls} {S : Hs} {i n : Nat} {d : D} {ds : List D} {md : MD} {op2 : D → D → Hs → R D} {op1 : D → Hs → R D} {opn : List D → Hs → R D} {opm : D → List D → Hs → R D} {T : String} {it : MI} {mp : MP} {lo hi : MO}
theorem ap_bin : mBin op2 f g l S = (f l S).bind fun x S1 => (g l S1).bind fun y S2 => op2 x y S2 := nr rfl
theorem ap_var : mVar i l S = match l[i]? with | some (some d) => .ok d S | _ => .bad := nr rfl
theorem ap_c : mC d l S = .ok d S := nr rfl
theorem ap_un : mUn op1 f l S = (f l S).bind op1 := nr rfl
theorem ap_cmp : mCmp op2 f g l S = (f l S).bind fun x S1 => (g l S1).bind fun y S2 => (op2 x y S2).bind fun d S3 => match d with
  | .bl b => .ok b S3
  | _ => .bad := nr rfl
theorem ap_nil : lNil l S = .ok [] S := nr rfl
theorem ap_cons : lCons f fl l S = (f l S).bind fun x S1 => (fl l S1).bind fun xs S2 => .ok (x :: xs) S2 := nr rfl
theorem ap_tru : mTru f l S = (f l S).bind oTru := nr rfl
theorem ap_notB : mNotB c l S = (c l S).bind fun b S1 => .ok (!b) S1 := nr rfl
theorem ap_andB : mAndB c c2 l S = (c l S).bind fun b S1 => if b = true then c2 l S1 else .ok false S1 := nr rfl
theorem ap_orB : mOrB c c2 l S = (c l S).bind fun b S1 => if b = true then .ok true S1 else c2 l S1 := nr rfl
theorem ap_and : mAnd f g l S = (f l S).bind fun x S1 => (oTru x S1).bind fun b S2 => if b = true then g l S2 else .ok x S2 := nr rfl
theorem ap_or : mOr f g l S = (f l S).bind fun x S1 => (oTru x S1).bind fun b S2 => if b = true then .ok x S2 else g l S2 := nr rfl
theorem ap_if : mIf c f g l S = (c l S).bind fun b S1 => if b = true then f l S1 else g l S1 := nr rfl
theorem ap_no : oNo l S = .ok none S := nr rfl
theorem ap_some : oSome f l S = (f l S).bind fun d S1 => match d with
  | .int i => .ok (some i) S1
  | _ => .bad := nr rfl
theorem ap_sl : mSl f lo hi l S = (f l S).bind fun x S1 => (lo l S1).bind fun a S2 => (hi l S2).bind fun b S3 => oSl x a b S3 := nr rfl
theorem ap_tup : mTup fl l S = (fl l S).bind fun ds S1 => if ds.length ≤ sizeLine then .ok (.tup ds) S1 else .bad := nr rfl
theorem ap_lst : mLst fl l S = (fl l S).bind fun ds S1 => if ds.length ≤ sizeLine then .ok (.ref S1.length) (S1 ++ [.lst ds]) else .bad := nr rfl
theorem ap_call : mCall opn fl l S = (fl l S).bind opn := nr rfl
theorem ap_bm : mBM T opm f fl l S = (f l S).bind fun x S1 => if hasTy T x S1 = true then (fl l S1).bind fun ds S2 => opm x ds S2 else .bad := nr rfl
theorem ap_set : mSet i f l S = (f l S).bind fun d S1 => .ok (.nx (l.set i (some d))) S1 := nr rfl
theorem ap_expr : mExpr f l S = (f l S).bind fun _ S1 => .ok (.nx l) S1 := nr rfl
theorem ap_ret : mRet f l S = (f l S).bind fun d S1 => .ok (.rt d) S1 := nr rfl
theorem ap_retN : mRetN l S = .ok (.rt .non) S := nr rfl
theorem ap_pass : mPass l S = .ok (.nx l) S := nr rfl
theorem ap_brk : mBrk l S = .ok (.bk l) S := nr rfl
theorem ap_cnt : mCnt l S = .ok (.ct l) S := nr rfl
theorem ap_seq : mSeq b b2 l S = (b l S).bind fun r S1 => match r with
  | .nx l1 => b2 l1 S1
  | r => .ok r S1 := nr rfl
theorem ap_ifS : mIfS c b b2 l S = (c l S).bind fun t S1 => if t = true then b l S1 else b2 l S1 := nr rfl
theorem ap_fn : mFn md fl l S = (fl l S).bind fun ds S1 => (md ds S1).at l := nr rfl
theorem ap_gN : gN i d l S = .ok (l.set i (some d)) S := nr rfl
theorem ap_gsN : gsN [] l S = .ok l S := nr rfl
theorem ap_gsC : gsC gg gs (d :: ds) l S = (gg d l S).bind fun l1 S1 => gs ds l1 S1 := nr rfl
theorem ap_gT : gT n gs (.tup ds) l S = if ds.length = n then gs ds l S else .bad := nr rfl
theorem ap_asg : mAsg f gg l S = (f l S).bind fun d S1 => (gg d l S1).bind fun l1 S2 => .ok (.nx l1) S2 := nr rfl
theorem ap_gSb : gSb f g d l S = (f l S).bind fun x S1 => (g l S1).bind fun y S2 => (oSet x y d S2).bind fun _ S3 => .ok l S3 := nr rfl
theorem ap_aug : mAug i op2 f l S = match l[i]? with
  | some (some x) => (f l S).bind fun y S1 => (op2 x y S1).bind fun d S2 => .ok (.nx (l.set i (some d))) S2
  | _ => .bad := nr rfl
theorem ap_it : mIt f l S = (f l S).bind oIt := nr rfl
theorem ap_rng1 : mRng1 fl l S = (fl l S).bind oRng1 := nr rfl
theorem ap_rng2 : mRng2 fl l S = (fl l S).bind oRng2 := nr rfl
theorem ap_enum : mEnum fl l S = (fl l S).bind oEnum := nr rfl
theorem ap_zip : mZip fl l S = (fl l S).bind oZip := nr rfl
theorem ap_for : mFor it gg b l S = (it l S).bind fun j S1 => fLoop j gg b 0 l S1 := nr rfl
theorem ap_yes : mYes l S = .ok true S := nr rfl
end
/-! ### a law's draws, one after the other -/
theorem set_same {S : Hs} {i : Nat} {o : O} (h : S[i]? = some o) : S.set i o = S := by
  obtain ⟨hlt, rfl⟩ := List.getElem?_eq_some_iff.mp h
  exact List.set_getElem_self hlt
def DrwA (S : Hs) (i j : Nat) (row : List Int) (sd : Int) : Prop := ∃ a, Drw S i j row a sd
/-- draws were taken, and new things made -/
def Upd (i j : Nat) (sd : Int) (S S' : Hs) : Prop := ∃ a g, 0 ≤ a ∧ S' = S.set i (drawsO j a sd) ++ g
section
variable {i j : Nat} {row : List Int} {sd : Int} {S S1 S2 g : Hs}
theorem Upd.refl (h : DrwA S i j row sd) : Upd i j sd S S := by
  obtain ⟨a, h⟩ := h
  exact ⟨a, [], h.nn, by rw [set_same h.d]; simp⟩
theorem Upd.trans (h : DrwA S i j row sd) (u : Upd i j sd S S1) (v : Upd i j sd S1 S2) : Upd i j sd S S2 := by
  obtain ⟨_, h⟩ := h
  obtain ⟨a, g, ha, rfl⟩ := u
  obtain ⟨b, g', hb, rfl⟩ := v
  have hi : i < S.length := Real.lt h.d
  refine ⟨b, g ++ g', hb, ?_⟩
  rw [List.set_append_left _ _ (by simpa using hi), List.set_set, List.append_assoc]
theorem Upd.app (u : Upd i j sd S S1) : Upd i j sd S (S1 ++ g) := by
  obtain ⟨a, g', ha, rfl⟩ := u
  exact ⟨a, g' ++ g, ha, by rw [List.append_assoc]⟩
theorem Upd.new (h : DrwA S i j row sd) : Upd i j sd S (S ++ g) := (Upd.refl h).app
theorem Upd.get (u : Upd i j sd S S1) {k : Nat} {o : O} (h : S[k]? = some o) (hk : k ≠ i) : S1[k]? = some o := by
  obtain ⟨a, g', ha, rfl⟩ := u
  have hl : k < S.length := Real.lt h
  rw [List.getElem?_append_left (by simpa using hl), List.getElem?_set_ne (Ne.symm hk), h]
theorem Upd.drw (h : DrwA S i j row sd) (u : Upd i j sd S S1) : DrwA S1 i j row sd := by
  obtain ⟨_, h⟩ := h
  have hr := u.get h.r (Ne.symm h.ne)
  obtain ⟨a, g', ha, rfl⟩ := u
  have hi : i < S.length := Real.lt h.d
  exact ⟨a, by rw [List.getElem?_append_left (by simpa using hi)]; exact get_put h.d, hr, h.ne, ha⟩
theorem Upd.le (u : Upd i j sd S S1) : S.length ≤ S1.length := by
  obtain ⟨a, g', ha, rfl⟩ := u
  simp
theorem pick_ok (h : DrwA S i j row sd) {many : Int} (hm : 0 < many) : ∃ v S', S_pick [.ref i, .int many] S = .ok (.int v) S' ∧ Upd i j sd S S' ∧ 0 ≤ v ∧ v < many := by
  obtain ⟨a, h⟩ := h
  refine ⟨_, _, S_pick_eq h hm, ⟨a + 1, [], by have := h.nn; omega, by simp⟩, ?_, ?_⟩
  · exact Int.emod_nonneg _ (by omega)
  · exact Int.emod_lt_of_pos _ hm
/-- pick(draws, many) -/
theorem pick_at (h : DrwA S i j row sd) {many : Int} (hm : 0 < many) {l : Ls} {k : Nat} (hk : l[k]? = some (some (.ref i))) :
    ∃ v S', mFn S_pick (lCons (mVar k) (lCons (mC (.int many)) lNil)) l S = .ok (.int v) S' ∧ Upd i j sd S S' ∧ 0 ≤ v ∧ v < many := by
  obtain ⟨v, S', e, u, h1, h2⟩ := pick_ok h hm
  refine ⟨v, S', ?_, u, h1, h2⟩
  simp only [mFn, lCons, mVar, hk, R.bind_ok, mC, lNil, e, R.at_ok]
/-- [..][pick(draws, many)] -/
theorem choose_gen (h : DrwA S i j row sd) {f : M} {ds : List D} (hf : ∀ l S, f l S = .ok (.ref S.length) (S ++ [.lst ds])) {many : Int} (hn : (ds.length : Int) = many) (hm : 0 < many) {l : Ls} {k : Nat} (hk : l[k]? = some (some (.ref i))) :
    ∃ d S', mBin oIx f (mFn S_pick (lCons (mVar k) (lCons (mC (.int many)) lNil))) l S = .ok d S' ∧ Upd i j sd S S' ∧ d ∈ ds := by
  have u0 : Upd i j sd S (S ++ [.lst ds]) := Upd.new h
  obtain ⟨v, S', e, u, h1, h2⟩ := pick_at (u0.drw h) hm hk
  have hi : i < S.length := by obtain ⟨_, h⟩ := h; exact Real.lt h.d
  have hg : S'[S.length]? = some (.lst ds) := u.get get_end (by omega)
  have hv : v.toNat < ds.length := by omega
  have ha : L2.atI ds v = some ds[v.toNat] := by rw [atI_nat h1 (by omega), List.getElem?_eq_getElem hv]
  refine ⟨ds[v.toNat], S', ?_, u0.trans h u, List.getElem_mem hv⟩
  simp only [mBin, hf, R.bind_ok, e, oIx, hg, ha]
theorem choose_at (h : DrwA S i j row sd) {f : ML} {ds : List D} (hf : ∀ l S, f l S = .ok ds S) {many : Int} (hn : (ds.length : Int) = many) (hm : 0 < many) (hz : ds.length ≤ sizeLine) {l : Ls} {k : Nat} (hk : l[k]? = some (some (.ref i))) :
    ∃ d S', mBin oIx (mLst f) (mFn S_pick (lCons (mVar k) (lCons (mC (.int many)) lNil))) l S = .ok d S' ∧ Upd i j sd S S' ∧ d ∈ ds :=
  choose_gen h (fun l S => by simp only [mLst, hf, R.bind_ok, if_pos hz]) hn hm hk
/-- xs[pick(draws, many)], xs a list that stands in a slot -/
theorem choose_var (h : DrwA S i j row sd) {q : Nat} {ds : List D} (hq : S[q]? = some (.lst ds)) (hqi : q ≠ i) {many : Int} (hn : (ds.length : Int) = many) (hm : 0 < many) {l : Ls} {k m : Nat} (hk : l[k]? = some (some (.ref i))) (hm' : l[m]? = some (some (.ref q))) :
    ∃ d S', mBin oIx (mVar m) (mFn S_pick (lCons (mVar k) (lCons (mC (.int many)) lNil))) l S = .ok d S' ∧ Upd i j sd S S' ∧ d ∈ ds := by
  obtain ⟨v, S', e, u, h1, h2⟩ := pick_at h hm hk
  have hg : S'[q]? = some (.lst ds) := u.get hq hqi
  have hv : v.toNat < ds.length := by omega
  have ha : L2.atI ds v = some ds[v.toNat] := by rw [atI_nat h1 (by omega), List.getElem?_eq_getElem hv]
  refine ⟨ds[v.toNat], S', ?_, u, List.getElem_mem hv⟩
  simp only [mBin, mVar, hm', R.bind_ok, e, oIx, hg, ha]
/-- the same, value by value: a list is made, a number drawn, the item read -/
theorem choose_val (h : DrwA S i j row sd) (ds : List D) {many : Int} (hn : (ds.length : Int) = many) (hm : 0 < many) :
    ∃ d v S', S_pick [.ref i, .int many] (S ++ [.lst ds]) = .ok (.int v) S' ∧ oIx (.ref S.length) (.int v) S' = .ok d S' ∧ Upd i j sd S S' ∧ d ∈ ds := by
  have u0 : Upd i j sd S (S ++ [.lst ds]) := Upd.new h
  obtain ⟨v, S', e, u, h1, h2⟩ := pick_ok (u0.drw h) hm
  have hi : i < S.length := by obtain ⟨_, h⟩ := h; exact Real.lt h.d
  have hg : S'[S.length]? = some (.lst ds) := u.get get_end (by omega)
  have hv : v.toNat < ds.length := by omega
  have ha : L2.atI ds v = some ds[v.toNat] := by rw [atI_nat h1 (by omega), List.getElem?_eq_getElem hv]
  exact ⟨ds[v.toNat], v, S', e, by simp only [oIx, hg, ha], u0.trans h u, List.getElem_mem hv⟩
theorem line_le {n : Nat} (h : n ≤ 1000000) : n ≤ sizeLine := Nat.le_trans h (by decide)
end
theorem oAdd_int {a b : Int} {S : Hs} : oAdd (.int a) (.int b) S = .ok (.int (a + b)) S := nr rfl
theorem oSub_int {a b : Int} {S : Hs} : oSub (.int a) (.int b) S = .ok (.int (a - b)) S := nr rfl
theorem oLt_int {a b : Int} {S : Hs} : oLt (.int a) (.int b) S = .ok (.bl (decide (a < b))) S := nr rfl
theorem oTru_bl {b : Bool} {S : Hs} : oTru (.bl b) S = .ok b S := nr rfl
theorem oEq_int {a b : Int} {S : Hs} : oEq (.int a) (.int b) S = .ok (.bl (decide (a = b))) S := nr rfl
theorem oNe_int {a b : Int} {S : Hs} : oNe (.int a) (.int b) S = .ok (.bl (!decide (a = b))) S := nr rfl
theorem oEq_str {a b : Str} {S : Hs} : oEq (.str a) (.str b) S = .ok (.bl (decide (a = b))) S := nr rfl
theorem oNe_str {a b : Str} {S : Hs} : oNe (.str a) (.str b) S = .ok (.bl (!decide (a = b))) S := nr rfl
theorem of_strs {xs : List Str} {d : D} (h : d ∈ xs.map D.str) : ∃ x ∈ xs, d = .str x := by
  rw [List.mem_map] at h
  obtain ⟨x, h1, h2⟩ := h
  exact ⟨x, h1, h2.symm⟩
theorem isi_lst {S : Hs} {i : Nat} {xs : List D} (h : S[i]? = some (.lst xs)) : oIsi "list" (.ref i) S = .ok (.bl true) S := by
  have hk : L2.kitB "list" "list" = some true := by simp [L2.kitB]
  simp only [oIsi, tyName, h, Option.bind_some, hk]
theorem ix_row {S : Hs} {i j : Nat} {row : List Int} {sd : Int} (h : DrwA S i j row sd) : oIx (.ref i) (.str "row") S = .ok (.ref j) S ∧ bLen [.ref j] S = .ok (.int (row.length : Int)) S := by
  obtain ⟨a, h⟩ := h
  have hd := h.d
  simp only [drawsO] at hd
  refine ⟨?_, ?_⟩
  · simp [oIx, hd, dGet, D.key]
  · simp [bLen, lenD, h.r]
end Ly
set_option Elab.async false
set_option linter.all false
set_option maxRecDepth 100000
namespace Ly
open PySem PySem.Spec L2
open PyProof.Rows hiding St
/-! ### what a mirror gives, by what follows -/
abbrev XP := V → Option (List (Str × D)) → Ls → Hs → Prop
def WpD {α : Type} (X : XP) (r : R α) (Q : α → Hs → Prop) : Prop := match r with
  | .ok a S => Q a S
  | .exc c fs l S => X c fs l S
  | .bad => False
/-- kept shut, so that nothing looks into r by itself -/
structure Wp {α : Type} (X : XP) (r : R α) (Q : α → Hs → Prop) : Prop where
  un : WpD X r Q
def NoX : XP := fun _ _ _ _ => False
theorem Wp.mono {α : Type} {X X' : XP} {r : R α} {P Q : α → Hs → Prop} (h : Wp X r P) (hx : ∀ c fs l S, X c fs l S → X' c fs l S) (k : ∀ v S, P v S → Q v S) : Wp X' r Q := by
  cases r with
  | ok a S => exact ⟨k a S h.un⟩
  | exc c fs l S => exact ⟨hx c fs l S h.un⟩
  | bad => exact h.un.elim
theorem Wp.call {α : Type} {X : XP} {r : R α} {P Q : α → Hs → Prop} (h : Wp NoX r P) (k : ∀ v S, P v S → Q v S) : Wp X r Q := h.mono (fun _ _ _ _ h => h.elim) k
theorem Wp.ex {α : Type} {r : R α} {P : α → Hs → Prop} (h : Wp NoX r P) : ∃ v S, r = .ok v S ∧ P v S := by
  cases r with
  | ok a S => exact ⟨a, S, rfl, h.un⟩
  | exc c fs l S => exact h.un.elim
  | bad => exact h.un.elim
theorem Wp.of {α : Type} {X : XP} {r : R α} {P : α → Hs → Prop} {v : α} {S : Hs} (e : r = .ok v S) (h : P v S) : Wp X r P := by rw [e]; exact ⟨h⟩
def atX (X : XP) (l : Ls) : XP := fun c fs _ S => X c fs l S
section
variable {α β : Type} {X : XP}
theorem v_ok {a : α} {S : Hs} {Q : α → Hs → Prop} : Wp X (.ok a S) Q = Q a S := propext ⟨fun h => h.un, fun h => ⟨h⟩⟩
theorem v_bad {Q : α → Hs → Prop} : Wp X (.bad) Q = False := propext ⟨fun h => h.un, fun h => h.elim⟩
theorem v_exc {c : V} {fs : Option (List (Str × D))} {l : Ls} {S : Hs} {Q : α → Hs → Prop} : Wp X (.exc c fs l S) Q = X c fs l S := propext ⟨fun h => h.un, fun h => ⟨h⟩⟩
def bdK (X : XP) (k : α → Hs → R β) (Q : β → Hs → Prop) : α → Hs → Prop := fun a S => Wp X (k a S) Q
theorem v_bind {r : R α} {k : α → Hs → R β} {Q : β → Hs → Prop} : Wp X (r.bind k) Q = Wp X r (bdK X k Q) := by cases r <;> simp only [R.bind, v_ok, v_bad, v_exc] <;> rfl
theorem k_bd {k : α → Hs → R β} {Q : β → Hs → Prop} {a : α} {S : Hs} : bdK X k Q a S = Wp X (k a S) Q := nr rfl
theorem v_at {r : R α} {l : Ls} {Q : α → Hs → Prop} : Wp X (r.at l) Q = Wp (atX X l) r Q := by cases r <;> simp only [R.at, v_ok, v_bad, v_exc] <;> rfl
end
section
variable {X : XP} {f g h : M} {fl : ML} {c c2 : MB} {b b2 : MS} {gg : MG} {gs : MGs} {l : Ls} {S : Hs} {i n : Nat} {d x y : D} {ds : List D} {md : MD} {op2 : D → D → Hs → R D} {op1 : D → Hs → R D} {opn : List D → Hs → R D} {opm : D → List D → Hs → R D} {T : String} {it : MI} {lo hi : MO} {t : Bool}
section
variable {Q : D → Hs → Prop}
def biK (X : XP) (op : D → D → Hs → R D) (g : M) (l : Ls) (Q : D → Hs → Prop) : D → Hs → Prop := fun x S => Wp X (g l S) fun y S2 => Wp X (op x y S2) Q
def biK2 (X : XP) (op : D → D → Hs → R D) (x : D) (Q : D → Hs → Prop) : D → Hs → Prop := fun y S => Wp X (op x y S) Q
theorem v_bin : Wp X (mBin op2 f g l S) Q = Wp X (f l S) (biK X op2 g l Q) := by
  unfold mBin; rw [v_bind]; congr 1; funext x S1; unfold bdK biK; simp only [v_bind]; first | rfl | (congr 1; funext _ _; exact v_ok)
theorem k_bi : biK X op2 g l Q x S = Wp X (g l S) (biK2 X op2 x Q) := nr rfl
theorem k_bi2 : biK2 X op2 x Q y S = Wp X (op2 x y S) Q := nr rfl
theorem v_var : Wp X (mVar i l S) Q = match l[i]? with | some (some d) => Q d S | _ => False := by
  unfold mVar; cases l[i]? with
  | none => exact v_bad
  | some o =>
    cases o with
    | none => exact v_bad
    | some d => exact v_ok
theorem v_c : Wp X (mC d l S) Q = Q d S := v_ok
def unK (X : XP) (op : D → Hs → R D) (Q : D → Hs → Prop) : D → Hs → Prop := fun x S => Wp X (op x S) Q
theorem v_un : Wp X (mUn op1 f l S) Q = Wp X (f l S) (unK X op1 Q) := by unfold mUn; rw [v_bind]; first | rfl | (congr 1; funext _ _; exact v_ok)
theorem k_un : unK X op1 Q x S = Wp X (op1 x S) Q := nr rfl
def ifeK (X : XP) (f g : M) (l : Ls) (Q : D → Hs → Prop) : Bool → Hs → Prop := fun t S => if t = true then Wp X (f l S) Q else Wp X (g l S) Q
theorem v_if : Wp X (mIf c f g l S) Q = Wp X (c l S) (ifeK X f g l Q) := by
  unfold mIf; rw [v_bind]; congr 1; funext t S1; unfold bdK ifeK; cases t <;> first | rfl | exact v_bad | exact v_ok
theorem k_ife : ifeK X f g l Q t S = if t = true then Wp X (f l S) Q else Wp X (g l S) Q := nr rfl
def andK (X : XP) (g : M) (l : Ls) (Q : D → Hs → Prop) : D → Hs → Prop := fun x S => Wp X (oTru x S) fun t S1 => if t = true then Wp X (g l S1) Q else Q x S1
def andK2 (X : XP) (x : D) (g : M) (l : Ls) (Q : D → Hs → Prop) : Bool → Hs → Prop := fun t S1 => if t = true then Wp X (g l S1) Q else Q x S1
theorem v_and : Wp X (mAnd f g l S) Q = Wp X (f l S) (andK X g l Q) := by
  unfold mAnd; rw [v_bind]; congr 1; funext x S1; unfold bdK andK; simp only [v_bind]; congr 1; funext t S2; unfold bdK; cases t <;> first | rfl | exact v_bad | exact v_ok
theorem k_and : andK X g l Q x S = Wp X (oTru x S) (andK2 X x g l Q) := nr rfl
theorem k_and2 : andK2 X x g l Q t S = if t = true then Wp X (g l S) Q else Q x S := nr rfl
def orK (X : XP) (g : M) (l : Ls) (Q : D → Hs → Prop) : D → Hs → Prop := fun x S => Wp X (oTru x S) fun t S1 => if t = true then Q x S1 else Wp X (g l S1) Q
def orK2 (X : XP) (x : D) (g : M) (l : Ls) (Q : D → Hs → Prop) : Bool → Hs → Prop := fun t S1 => if t = true then Q x S1 else Wp X (g l S1) Q
theorem v_or : Wp X (mOr f g l S) Q = Wp X (f l S) (orK X g l Q) := by
  unfold mOr; rw [v_bind]; congr 1; funext x S1; unfold bdK orK; simp only [v_bind]; congr 1; funext t S2; unfold bdK; cases t <;> first | rfl | exact v_bad | exact v_ok
theorem k_or : orK X g l Q x S = Wp X (oTru x S) (orK2 X x g l Q) := nr rfl
theorem k_or2 : orK2 X x g l Q t S = if t = true then Q x S else Wp X (g l S) Q := nr rfl
def tupK (Q : D → Hs → Prop) : List D → Hs → Prop := fun ds S => ds.length ≤ sizeLine ∧ Q (.tup ds) S
theorem v_tup : Wp X (mTup fl l S) Q = Wp X (fl l S) (tupK Q) := by
  unfold mTup; rw [v_bind]; congr 1; funext ds S1; unfold bdK tupK; by_cases h : ds.length ≤ sizeLine
  · simp [h, v_ok]
  · simp [h, v_bad]
theorem k_tup : tupK Q ds S = (ds.length ≤ sizeLine ∧ Q (.tup ds) S) := nr rfl
def lstK (Q : D → Hs → Prop) : List D → Hs → Prop := fun ds S => ds.length ≤ sizeLine ∧ Q (.ref S.length) (S ++ [.lst ds])
theorem v_lst : Wp X (mLst fl l S) Q = Wp X (fl l S) (lstK Q) := by
  unfold mLst; rw [v_bind]; congr 1; funext ds S1; unfold bdK lstK; by_cases h : ds.length ≤ sizeLine
  · simp [h, v_ok]
  · simp [h, v_bad]
theorem k_lst : lstK Q ds S = (ds.length ≤ sizeLine ∧ Q (.ref S.length) (S ++ [.lst ds])) := nr rfl
def caK (X : XP) (op : List D → Hs → R D) (Q : D → Hs → Prop) : List D → Hs → Prop := fun ds S => Wp X (op ds S) Q
theorem v_call : Wp X (mCall opn fl l S) Q = Wp X (fl l S) (caK X opn Q) := by unfold mCall; rw [v_bind]; first | rfl | (congr 1; funext _ _; exact v_ok)
theorem k_ca : caK X opn Q ds S = Wp X (opn ds S) Q := nr rfl
def fnK (X : XP) (md : MD) (l : Ls) (Q : D → Hs → Prop) : List D → Hs → Prop := fun ds S => Wp (atX X l) (md ds S) Q
theorem v_fn : Wp X (mFn md fl l S) Q = Wp X (fl l S) (fnK X md l Q) := by
  unfold mFn; rw [v_bind]; congr 1; funext ds S1; unfold bdK fnK; rw [v_at]
theorem k_fn : fnK X md l Q ds S = Wp (atX X l) (md ds S) Q := nr rfl
def bmK (X : XP) (T : String) (op : D → List D → Hs → R D) (fl : ML) (l : Ls) (Q : D → Hs → Prop) : D → Hs → Prop := fun x S => hasTy T x S = true ∧ Wp X (fl l S) fun ds S1 => Wp X (op x ds S1) Q
def bmK2 (X : XP) (op : D → List D → Hs → R D) (x : D) (Q : D → Hs → Prop) : List D → Hs → Prop := fun ds S1 => Wp X (op x ds S1) Q
theorem v_bm : Wp X (mBM T opm f fl l S) Q = Wp X (f l S) (bmK X T opm fl l Q) := by
  unfold mBM; rw [v_bind]; congr 1; funext x S1; unfold bdK bmK
  by_cases h : hasTy T x S1 = true
  · simp only [h, true_and, if_true, v_bind]; rfl
  · simp [h, v_bad]
theorem k_bm : bmK X T opm fl l Q x S = (hasTy T x S = true ∧ Wp X (fl l S) (bmK2 X opm x Q)) := nr rfl
theorem k_bm2 : bmK2 X opm x Q ds S = Wp X (opm x ds S) Q := nr rfl
def slK (X : XP) (lo hi : MO) (l : Ls) (Q : D → Hs → Prop) : D → Hs → Prop := fun x S => Wp X (lo l S) fun a S1 => Wp X (hi l S1) fun b S2 => Wp X (oSl x a b S2) Q
def slK2 (X : XP) (x : D) (hi : MO) (l : Ls) (Q : D → Hs → Prop) : Option Int → Hs → Prop := fun a S1 => Wp X (hi l S1) fun b S2 => Wp X (oSl x a b S2) Q
def slK3 (X : XP) (x : D) (a : Option Int) (Q : D → Hs → Prop) : Option Int → Hs → Prop := fun b S2 => Wp X (oSl x a b S2) Q
theorem v_sl : Wp X (mSl f lo hi l S) Q = Wp X (f l S) (slK X lo hi l Q) := by
  unfold mSl; rw [v_bind]; congr 1; funext x S1; unfold bdK slK; rw [v_bind]; congr 1; funext a S2; unfold bdK; rw [v_bind]; first | rfl | (congr 1; funext _ _; exact v_ok)
theorem k_sl : slK X lo hi l Q x S = Wp X (lo l S) (slK2 X x hi l Q) := nr rfl
variable {oa ob : Option Int}
theorem k_sl2 : slK2 X x hi l Q oa S = Wp X (hi l S) (slK3 X x oa Q) := nr rfl
theorem k_sl3 : slK3 X x oa Q ob S = Wp X (oSl x oa ob S) Q := nr rfl
variable {tbl : List (Str × D)}
def ixkK (tbl : List (Str × D)) (Q : D → Hs → Prop) : D → Hs → Prop := fun x S => match x with
  | .str z => match tbl.lookup z with
    | some d => Q d S
    | none => False
  | _ => False
theorem v_ixK : Wp X (mIxK tbl f l S) Q = Wp X (f l S) (ixkK tbl Q) := by
  unfold mIxK; rw [v_bind]; congr 1; funext x S1; unfold bdK ixkK
  cases x <;> try (first | rfl | exact v_bad | exact v_ok)
  rename_i z
  simp only []
  cases tbl.lookup z <;> first | rfl | exact v_bad | exact v_ok
theorem k_ixk {z : Str} : ixkK tbl Q (.str z) S = match tbl.lookup z with | some d => Q d S | none => False := nr rfl
def inkK (tbl : List (Str × D)) (Q : D → Hs → Prop) : D → Hs → Prop := fun x S => match x with
  | .str z => Q (.bl (tbl.lookup z).isSome) S
  | _ => False
theorem v_inK : Wp X (mInK tbl f l S) Q = Wp X (f l S) (inkK tbl Q) := by
  unfold mInK; rw [v_bind]; congr 1; funext x S1; unfold bdK inkK; cases x <;> first | rfl | exact v_bad | exact v_ok
theorem k_ink {z : Str} : inkK tbl Q (.str z) S = Q (.bl (tbl.lookup z).isSome) S := nr rfl
def ninkK (tbl : List (Str × D)) (Q : D → Hs → Prop) : D → Hs → Prop := fun x S => match x with
  | .str z => Q (.bl (!(tbl.lookup z).isSome)) S
  | _ => False
theorem v_notinK : Wp X (mNotInK tbl f l S) Q = Wp X (f l S) (ninkK tbl Q) := by
  unfold mNotInK; rw [v_bind]; congr 1; funext x S1; unfold bdK ninkK; cases x <;> first | rfl | exact v_bad | exact v_ok
theorem k_nink {z : Str} : ninkK tbl Q (.str z) S = Q (.bl (!(tbl.lookup z).isSome)) S := nr rfl
def gk2K (X : XP) (tbl : List (Str × D)) (g : M) (l : Ls) (Q : D → Hs → Prop) : D → Hs → Prop := fun x S => match x with
  | .str z => Wp X (g l S) fun y S2 => (match tbl.lookup z with | some d => Q d S2 | none => Q y S2)
  | _ => False
theorem v_getK2 : Wp X (mGetK2 tbl f g l S) Q = Wp X (f l S) (gk2K X tbl g l Q) := by
  unfold mGetK2; rw [v_bind]; congr 1; funext x S1; unfold bdK gk2K; cases x <;> try (first | rfl | exact v_bad | exact v_ok)
  rename_i z
  simp only [v_bind]; congr 1; funext y S2; unfold bdK; cases tbl.lookup z <;> first | rfl | exact v_bad | exact v_ok
def gkK (tbl : List (Str × D)) (z : Str) (Q : D → Hs → Prop) : D → Hs → Prop := fun y S2 => match tbl.lookup z with | some d => Q d S2 | none => Q y S2
theorem k_gk2 {z : Str} : gk2K X tbl g l Q (.str z) S = Wp X (g l S) (gkK tbl z Q) := nr rfl
theorem k_gk {z : Str} : gkK tbl z Q y S = match tbl.lookup z with | some d => Q d S | none => Q y S := nr rfl
def g2K (X : XP) (g h : M) (l : Ls) (Q : D → Hs → Prop) : D → Hs → Prop := fun x S => hasTy "dict" x S = true ∧ Wp X (g l S) fun y S2 => Wp X (h l S2) fun z S3 => match dGet x y S3 with
  | some (some d) => Q d S3
  | some none => Q z S3
  | none => False
def g2K2 (X : XP) (x : D) (h : M) (l : Ls) (Q : D → Hs → Prop) : D → Hs → Prop := fun y S2 => Wp X (h l S2) fun z S3 => match dGet x y S3 with
  | some (some d) => Q d S3
  | some none => Q z S3
  | none => False
def g2K3 (x y : D) (Q : D → Hs → Prop) : D → Hs → Prop := fun z S3 => match dGet x y S3 with
  | some (some d) => Q d S3
  | some none => Q z S3
  | none => False
theorem v_get2 : Wp X (mGet2 f g h l S) Q = Wp X (f l S) (g2K X g h l Q) := by
  unfold mGet2; rw [v_bind]; congr 1; funext x S1; unfold bdK g2K
  by_cases hh : hasTy "dict" x S1 = true
  · simp only [hh, true_and, if_true, v_bind]; congr 1; funext y S2; unfold bdK; rw [v_bind]; congr 1; funext z S3; unfold bdK; simp only []
    cases dGet x y S3 with
    | none => first | rfl | exact v_bad | exact v_ok
    | some o => cases o <;> first | rfl | exact v_bad | exact v_ok
  · simp [hh, v_bad]
theorem k_g2 : g2K X g h l Q x S = (hasTy "dict" x S = true ∧ Wp X (g l S) (g2K2 X x h l Q)) := nr rfl
theorem k_g22 : g2K2 X x h l Q y S = Wp X (h l S) (g2K3 x y Q) := nr rfl
theorem k_g23 {z : D} : g2K3 x y Q z S = match dGet x y S with | some (some d) => Q d S | some none => Q z S | none => False := nr rfl
end
section
variable {Q : List D → Hs → Prop}
theorem v_nil : Wp X (lNil l S) Q = Q [] S := v_ok
def coK (X : XP) (fl : ML) (l : Ls) (Q : List D → Hs → Prop) : D → Hs → Prop := fun x S => Wp X (fl l S) fun xs S2 => Q (x :: xs) S2
def coK2 (x : D) (Q : List D → Hs → Prop) : List D → Hs → Prop := fun xs S2 => Q (x :: xs) S2
theorem v_cons : Wp X (lCons f fl l S) Q = Wp X (f l S) (coK X fl l Q) := by
  unfold lCons; rw [v_bind]; congr 1; funext x S1; unfold bdK coK; rw [v_bind]; first | rfl | (congr 1; funext _ _; exact v_ok)
theorem k_co : coK X fl l Q x S = Wp X (fl l S) (coK2 x Q) := nr rfl
theorem k_co2 : coK2 x Q ds S = Q (x :: ds) S := nr rfl
end
section
variable {Q : Option Int → Hs → Prop}
theorem v_no : Wp X (oNo l S) Q = Q none S := v_ok
def soK (Q : Option Int → Hs → Prop) : D → Hs → Prop := fun d S => match d with
  | .int i => Q (some i) S
  | _ => False
theorem v_some : Wp X (oSome f l S) Q = Wp X (f l S) (soK Q) := by
  unfold oSome; rw [v_bind]; congr 1; funext d S1; unfold bdK soK; cases d <;> first | rfl | exact v_bad | exact v_ok
theorem k_so {j : Int} : soK Q (.int j) S = Q (some j) S := nr rfl
end
section
variable {Q : Bool → Hs → Prop}
def cmK (Q : Bool → Hs → Prop) : D → Hs → Prop := fun d S => match d with
  | .bl b => Q b S
  | _ => False
theorem k_cm {b : Bool} : cmK Q (.bl b) S = Q b S := nr rfl
theorem v_cmp : Wp X (mCmp op2 f g l S) Q = Wp X (f l S) (biK X op2 g l (cmK Q)) := by
  unfold mCmp; rw [v_bind]; congr 1; funext x S1; unfold bdK biK; rw [v_bind]; congr 1; funext y S2; unfold bdK; rw [v_bind]; congr 1; funext d S3; unfold bdK cmK; cases d <;> first | rfl | exact v_bad | exact v_ok
def trK (X : XP) (Q : Bool → Hs → Prop) : D → Hs → Prop := fun d S => Wp X (oTru d S) Q
theorem v_tru : Wp X (mTru f l S) Q = Wp X (f l S) (trK X Q) := by unfold mTru; rw [v_bind]; first | rfl | (congr 1; funext _ _; exact v_ok)
theorem k_tr : trK X Q d S = Wp X (oTru d S) Q := nr rfl
def noK (Q : Bool → Hs → Prop) : Bool → Hs → Prop := fun b S => Q (!b) S
theorem v_notB : Wp X (mNotB c l S) Q = Wp X (c l S) (noK Q) := by unfold mNotB; rw [v_bind]; first | rfl | (congr 1; funext _ _; exact v_ok)
theorem k_no : noK Q t S = Q (!t) S := nr rfl
def anK (X : XP) (c2 : MB) (l : Ls) (Q : Bool → Hs → Prop) : Bool → Hs → Prop := fun b S => if b = true then Wp X (c2 l S) Q else Q false S
theorem v_andB : Wp X (mAndB c c2 l S) Q = Wp X (c l S) (anK X c2 l Q) := by
  unfold mAndB; rw [v_bind]; congr 1; funext b S1; unfold bdK anK; cases b <;> first | rfl | exact v_bad | exact v_ok
theorem k_an : anK X c2 l Q t S = if t = true then Wp X (c2 l S) Q else Q false S := nr rfl
def orbK (X : XP) (c2 : MB) (l : Ls) (Q : Bool → Hs → Prop) : Bool → Hs → Prop := fun b S => if b = true then Q true S else Wp X (c2 l S) Q
theorem v_orB : Wp X (mOrB c c2 l S) Q = Wp X (c l S) (orbK X c2 l Q) := by
  unfold mOrB; rw [v_bind]; congr 1; funext b S1; unfold bdK orbK; cases b <;> first | rfl | exact v_bad | exact v_ok
theorem k_orb : orbK X c2 l Q t S = if t = true then Q true S else Wp X (c2 l S) Q := nr rfl
theorem v_yes : Wp X (mYes l S) Q = Q true S := v_ok
variable {tbl : List (Str × D)}
def inkBK (tbl : List (Str × D)) (Q : Bool → Hs → Prop) : D → Hs → Prop := fun x S => match x with
  | .str z => Q (tbl.lookup z).isSome S
  | _ => False
theorem v_inKB : Wp X (mInKB tbl f l S) Q = Wp X (f l S) (inkBK tbl Q) := by
  unfold mInKB; rw [v_bind]; congr 1; funext x S1; unfold bdK inkBK; cases x <;> first | rfl | exact v_bad | exact v_ok
theorem k_inkB {z : Str} : inkBK tbl Q (.str z) S = Q (tbl.lookup z).isSome S := nr rfl
def ninkBK (tbl : List (Str × D)) (Q : Bool → Hs → Prop) : D → Hs → Prop := fun x S => match x with
  | .str z => Q (!(tbl.lookup z).isSome) S
  | _ => False
theorem v_notinKB : Wp X (mNotInKB tbl f l S) Q = Wp X (f l S) (ninkBK tbl Q) := by
  unfold mNotInKB; rw [v_bind]; congr 1; funext x S1; unfold bdK ninkBK; cases x <;> first | rfl | exact v_bad | exact v_ok
theorem k_ninkB {z : Str} : ninkBK tbl Q (.str z) S = Q (!(tbl.lookup z).isSome) S := nr rfl
end
section
variable {Q : F → Hs → Prop} {l1 : Ls}
def stK (i : Nat) (l : Ls) (Q : F → Hs → Prop) : D → Hs → Prop := fun d S => Q (.nx (l.set i (some d))) S
theorem v_set : Wp X (mSet i f l S) Q = Wp X (f l S) (stK i l Q) := by unfold mSet; rw [v_bind]; first | rfl | (congr 1; funext _ _; exact v_ok)
theorem k_st : stK i l Q d S = Q (.nx (l.set i (some d))) S := nr rfl
def exK (l : Ls) (Q : F → Hs → Prop) : D → Hs → Prop := fun _ S => Q (.nx l) S
theorem v_expr : Wp X (mExpr f l S) Q = Wp X (f l S) (exK l Q) := by unfold mExpr; rw [v_bind]; first | rfl | (congr 1; funext _ _; exact v_ok)
theorem k_ex : exK l Q d S = Q (.nx l) S := nr rfl
def reK (Q : F → Hs → Prop) : D → Hs → Prop := fun d S => Q (.rt d) S
theorem v_ret : Wp X (mRet f l S) Q = Wp X (f l S) (reK Q) := by unfold mRet; rw [v_bind]; first | rfl | (congr 1; funext _ _; exact v_ok)
theorem k_re : reK Q d S = Q (.rt d) S := nr rfl
theorem v_retN : Wp X (mRetN l S) Q = Q (.rt .non) S := v_ok
theorem v_pass : Wp X (mPass l S) Q = Q (.nx l) S := v_ok
theorem v_brk : Wp X (mBrk l S) Q = Q (.bk l) S := v_ok
theorem v_cnt : Wp X (mCnt l S) Q = Q (.ct l) S := v_ok
theorem v_mbad : Wp X (mBad l S) Q = False := v_bad
def sqK (X : XP) (b2 : MS) (Q : F → Hs → Prop) : F → Hs → Prop := fun r S => match r with
  | .nx l1 => Wp X (b2 l1 S) Q
  | r => Q r S
theorem v_seq : Wp X (mSeq b b2 l S) Q = Wp X (b l S) (sqK X b2 Q) := by
  unfold mSeq; rw [v_bind]; congr 1; funext r S1; unfold bdK sqK; cases r <;> first | rfl | exact v_bad | exact v_ok
theorem k_sq_nx : sqK X b2 Q (.nx l1) S = Wp X (b2 l1 S) Q := nr rfl
theorem k_sq_rt : sqK X b2 Q (.rt d) S = Q (.rt d) S := nr rfl
theorem k_sq_bk : sqK X b2 Q (.bk l1) S = Q (.bk l1) S := nr rfl
theorem k_sq_ct : sqK X b2 Q (.ct l1) S = Q (.ct l1) S := nr rfl
def ifsK (X : XP) (b b2 : MS) (l : Ls) (Q : F → Hs → Prop) : Bool → Hs → Prop := fun t S => if t = true then Wp X (b l S) Q else Wp X (b2 l S) Q
theorem v_ifS : Wp X (mIfS c b b2 l S) Q = Wp X (c l S) (ifsK X b b2 l Q) := by
  unfold mIfS; rw [v_bind]; congr 1; funext t S1; unfold bdK ifsK; cases t <;> first | rfl | exact v_bad | exact v_ok
theorem k_ifs : ifsK X b b2 l Q t S = if t = true then Wp X (b l S) Q else Wp X (b2 l S) Q := nr rfl
def asK (X : XP) (gg : MG) (l : Ls) (Q : F → Hs → Prop) : D → Hs → Prop := fun d S => Wp X (gg d l S) fun l1 S2 => Q (.nx l1) S2
def asK2 (Q : F → Hs → Prop) : Ls → Hs → Prop := fun l1 S2 => Q (.nx l1) S2
theorem v_asg : Wp X (mAsg f gg l S) Q = Wp X (f l S) (asK X gg l Q) := by
  unfold mAsg; rw [v_bind]; congr 1; funext d S1; unfold bdK asK; rw [v_bind]; first | rfl | (congr 1; funext _ _; exact v_ok)
theorem k_as : asK X gg l Q d S = Wp X (gg d l S) (asK2 Q) := nr rfl
theorem k_as2 : asK2 Q l1 S = Q (.nx l1) S := nr rfl
def auK (X : XP) (i : Nat) (l : Ls) (op : D → D → Hs → R D) (x : D) (Q : F → Hs → Prop) : D → Hs → Prop := fun y S => Wp X (op x y S) (stK i l Q)
theorem v_aug : Wp X (mAug i op2 f l S) Q = match l[i]? with | some (some x) => Wp X (f l S) (auK X i l op2 x Q) | _ => False := by
  unfold mAug; cases l[i]? with
  | none => first | rfl | exact v_bad | exact v_ok
  | some o =>
    cases o with
    | none => first | rfl | exact v_bad | exact v_ok
    | some x => simp only [v_bind]; congr 1; funext y S1; unfold bdK auK; simp only [v_bind]; first | rfl | (congr 1; funext _ _; exact v_ok)
theorem k_au : auK X i l op2 x Q y S = Wp X (op2 x y S) (stK i l Q) := nr rfl
def foK (X : XP) (gg : MG) (b : MS) (l : Ls) (Q : F → Hs → Prop) : J → Hs → Prop := fun j S => Wp X (fLoop j gg b 0 l S) Q
theorem v_for : Wp X (mFor it gg b l S) Q = Wp X (it l S) (foK X gg b l Q) := by unfold mFor; rw [v_bind]; first | rfl | (congr 1; funext _ _; exact v_ok)
theorem k_fo {j : J} : foK X gg b l Q j S = Wp X (fLoop j gg b 0 l S) Q := nr rfl
end
section
variable {Q : J → Hs → Prop}
def itK (X : XP) (Q : J → Hs → Prop) : D → Hs → Prop := fun d S => Wp X (oIt d S) Q
theorem v_it : Wp X (mIt f l S) Q = Wp X (f l S) (itK X Q) := by unfold mIt; rw [v_bind]; first | rfl | (congr 1; funext _ _; exact v_ok)
theorem k_it : itK X Q d S = Wp X (oIt d S) Q := nr rfl
variable {op : List D → Hs → R J}
def ijK (X : XP) (op : List D → Hs → R J) (Q : J → Hs → Prop) : List D → Hs → Prop := fun ds S => Wp X (op ds S) Q
theorem k_ij : ijK X op Q ds S = Wp X (op ds S) Q := nr rfl
theorem v_rng1 : Wp X (mRng1 fl l S) Q = Wp X (fl l S) (ijK X oRng1 Q) := by unfold mRng1; rw [v_bind]; first | rfl | (congr 1; funext _ _; exact v_ok)
theorem v_rng2 : Wp X (mRng2 fl l S) Q = Wp X (fl l S) (ijK X oRng2 Q) := by unfold mRng2; rw [v_bind]; first | rfl | (congr 1; funext _ _; exact v_ok)
theorem v_enum : Wp X (mEnum fl l S) Q = Wp X (fl l S) (ijK X oEnum Q) := by unfold mEnum; rw [v_bind]; first | rfl | (congr 1; funext _ _; exact v_ok)
theorem v_zip : Wp X (mZip fl l S) Q = Wp X (fl l S) (ijK X oZip Q) := by unfold mZip; rw [v_bind]; first | rfl | (congr 1; funext _ _; exact v_ok)
end
section
variable {Q : Ls → Hs → Prop}
theorem v_gN : Wp X (gN i d l S) Q = Q (l.set i (some d)) S := v_ok
theorem v_gsN : Wp X (gsN [] l S) Q = Q l S := v_ok
def gcK (X : XP) (gs : MGs) (ds : List D) (Q : Ls → Hs → Prop) : Ls → Hs → Prop := fun l1 S => Wp X (gs ds l1 S) Q
theorem v_gsC : Wp X (gsC gg gs (d :: ds) l S) Q = Wp X (gg d l S) (gcK X gs ds Q) := by show Wp X (R.bind _ _) Q = _; rw [v_bind]; first | rfl | (congr 1; funext _ _; exact v_ok)
theorem k_gc : gcK X gs ds Q l S = Wp X (gs ds l S) Q := nr rfl
theorem v_gT : Wp X (gT n gs (.tup ds) l S) Q = (ds.length = n ∧ Wp X (gs ds l S) Q) := by
  unfold gT; by_cases h : ds.length = n
  · simp [h]
  · simp [h, v_bad]
theorem v_gTw : Wp X (gT n gs (.wt ds) l S) Q = (ds.length = n ∧ Wp X (gs ds l S) Q) := by
  unfold gT; by_cases h : ds.length = n
  · simp [h]
  · simp [h, v_bad]
def gsbK (X : XP) (g : M) (d : D) (l : Ls) (Q : Ls → Hs → Prop) : D → Hs → Prop := fun x S => Wp X (g l S) fun y S2 => Wp X (oSet x y d S2) fun _ S3 => Q l S3
def gsbK2 (X : XP) (x d : D) (l : Ls) (Q : Ls → Hs → Prop) : D → Hs → Prop := fun y S2 => Wp X (oSet x y d S2) fun _ S3 => Q l S3
def gsbK3 (l : Ls) (Q : Ls → Hs → Prop) : Unit → Hs → Prop := fun _ S3 => Q l S3
theorem v_gSb : Wp X (gSb f g d l S) Q = Wp X (f l S) (gsbK X g d l Q) := by
  unfold gSb; rw [v_bind]; congr 1; funext x S1; unfold bdK gsbK; rw [v_bind]; congr 1; funext y S2; unfold bdK; rw [v_bind]; first | rfl | (congr 1; funext _ _; exact v_ok)
theorem k_gsb : gsbK X g d l Q x S = Wp X (g l S) (gsbK2 X x d l Q) := nr rfl
theorem k_gsb2 : gsbK2 X x d l Q y S = Wp X (oSet x y d S) (gsbK3 l Q) := nr rfl
theorem k_gsb3 {u : Unit} : gsbK3 l Q u S = Q l S := nr rfl
end
theorem v_ite {p : Prop} [Decidable p] {A B : Prop} : (if p then A else B) = ((p → A) ∧ (¬ p → B)) := by
  by_cases h : p <;> simp [h]
end
section
variable {X : XP} {f g h : M} {l : Ls} {S : Hs} {op2 : D → D → Hs → R D} {x y z : D} {it : MI} {gl : CG} {tt : MB} {tk tv : M} {vs : List Nat}
section
variable {Q : F → Hs → Prop}
def agK (X : XP) (op : D → D → Hs → R D) (g h : M) (l : Ls) (Q : F → Hs → Prop) : D → Hs → Prop := fun x S1 => Wp X (g l S1) fun y S2 => match dGet x y S2 with
  | some (some z) => Wp X (h l S2) fun w S3 => Wp X (op z w S3) fun d S4 => isDic x S4 = true ∧ Wp X (oSet x y d S4) fun _ S5 => Q (.nx l) S5
  | _ => False
def agK2 (X : XP) (op : D → D → Hs → R D) (h : M) (x : D) (l : Ls) (Q : F → Hs → Prop) : D → Hs → Prop := fun y S2 => match dGet x y S2 with
  | some (some z) => Wp X (h l S2) fun w S3 => Wp X (op z w S3) fun d S4 => isDic x S4 = true ∧ Wp X (oSet x y d S4) fun _ S5 => Q (.nx l) S5
  | _ => False
def agK3 (X : XP) (op : D → D → Hs → R D) (x y z : D) (l : Ls) (Q : F → Hs → Prop) : D → Hs → Prop := fun w S3 => Wp X (op z w S3) fun d S4 => isDic x S4 = true ∧ Wp X (oSet x y d S4) fun _ S5 => Q (.nx l) S5
def agK4 (X : XP) (x y : D) (l : Ls) (Q : F → Hs → Prop) : D → Hs → Prop := fun d S4 => isDic x S4 = true ∧ Wp X (oSet x y d S4) fun _ S5 => Q (.nx l) S5
def agK5 (l : Ls) (Q : F → Hs → Prop) : Unit → Hs → Prop := fun _ S5 => Q (.nx l) S5
theorem v_augI : Wp X (mAugI op2 f g h l S) Q = Wp X (f l S) (agK X op2 g h l Q) := by
  unfold mAugI; rw [v_bind]; congr 1; funext x S1; unfold bdK agK; simp only [v_bind]; congr 1; funext y S2; unfold bdK; simp only []
  cases dGet x y S2 with
  | none => first | rfl | exact v_bad | exact v_ok
  | some o =>
    cases o with
    | none => first | rfl | exact v_bad | exact v_ok
    | some z =>
      simp only [v_bind]; congr 1; funext w S3; unfold bdK; simp only [v_bind]; congr 1; funext d S4; unfold bdK; simp only []
      by_cases hh : isDic x S4 = true
      · simp only [hh, if_true, true_and, v_bind]; first | rfl | (congr 1; funext _ _; exact v_ok)
      · simp [hh, v_bad]
theorem k_ag : agK X op2 g h l Q x S = Wp X (g l S) (agK2 X op2 h x l Q) := nr rfl
theorem k_ag2 : agK2 X op2 h x l Q y S = match dGet x y S with | some (some z) => Wp X (h l S) (agK3 X op2 x y z l Q) | _ => False := nr rfl
theorem k_ag3 {w : D} : agK3 X op2 x y z l Q w S = Wp X (op2 z w S) (agK4 X x y l Q) := nr rfl
theorem k_ag4 {w : D} : agK4 X x y l Q w S = (isDic x S = true ∧ Wp X (oSet x y w S) (agK5 l Q)) := nr rfl
theorem k_ag5 {u : Unit} : agK5 l Q u S = Q (.nx l) S := nr rfl
def dlK (X : XP) (g : M) (l : Ls) (Q : F → Hs → Prop) : D → Hs → Prop := fun x S1 => Wp X (g l S1) fun y S2 => Wp X (oDel x y S2) fun _ S3 => Q (.nx l) S3
def dlK2 (X : XP) (x : D) (l : Ls) (Q : F → Hs → Prop) : D → Hs → Prop := fun y S2 => Wp X (oDel x y S2) fun _ S3 => Q (.nx l) S3
theorem v_del : Wp X (mDel f g l S) Q = Wp X (f l S) (dlK X g l Q) := by
  unfold mDel; rw [v_bind]; congr 1; funext x S1; unfold bdK dlK; rw [v_bind]; congr 1; funext y S2; unfold bdK; rw [v_bind]; first | rfl | (congr 1; funext _ _; exact v_ok)
theorem k_dl : dlK X g l Q x S = Wp X (g l S) (dlK2 X x l Q) := nr rfl
theorem k_dl2 : dlK2 X x l Q y S = Wp X (oDel x y S) (agK5 l Q) := nr rfl
end
variable {Q : D → Hs → Prop}
def d3K (X : XP) (op : D → D → D → Hs → R D) (g h : M) (l : Ls) (Q : D → Hs → Prop) : D → Hs → Prop := fun x S1 => hasTy "dict" x S1 = true ∧ Wp X (g l S1) fun y S2 => Wp X (h l S2) fun z S3 => Wp X (op x y z S3) Q
def d3K2 (X : XP) (op : D → D → D → Hs → R D) (h : M) (x : D) (l : Ls) (Q : D → Hs → Prop) : D → Hs → Prop := fun y S2 => Wp X (h l S2) fun z S3 => Wp X (op x y z S3) Q
def d3K3 (X : XP) (op : D → D → D → Hs → R D) (x y : D) (Q : D → Hs → Prop) : D → Hs → Prop := fun z S3 => Wp X (op x y z S3) Q
theorem v_setd : Wp X (mSetd f g h l S) Q = Wp X (f l S) (d3K X oSetd g h l Q) := by
  unfold mSetd; rw [v_bind]; congr 1; funext x S1; unfold bdK d3K
  by_cases hh : hasTy "dict" x S1 = true
  · simp only [hh, true_and, if_true, v_bind]; congr 1; funext y S2; unfold bdK; rw [v_bind]; first | rfl | (congr 1; funext _ _; exact v_ok)
  · simp [hh, v_bad]
theorem v_pop2 : Wp X (mPop2 f g h l S) Q = Wp X (f l S) (d3K X oPop2 g h l Q) := by
  unfold mPop2; rw [v_bind]; congr 1; funext x S1; unfold bdK d3K
  by_cases hh : hasTy "dict" x S1 = true
  · simp only [hh, true_and, if_true, v_bind]; congr 1; funext y S2; unfold bdK; rw [v_bind]; first | rfl | (congr 1; funext _ _; exact v_ok)
  · simp [hh, v_bad]
variable {op3 : D → D → D → Hs → R D}
theorem k_d3 : d3K X op3 g h l Q x S = (hasTy "dict" x S = true ∧ Wp X (g l S) (d3K2 X op3 h x l Q)) := nr rfl
theorem k_d32 : d3K2 X op3 h x l Q y S = Wp X (h l S) (d3K3 X op3 x y Q) := nr rfl
theorem k_d33 : d3K3 X op3 x y Q z S = Wp X (op3 x y z S) Q := nr rfl
def g1K (X : XP) (g : M) (l : Ls) (Q : D → Hs → Prop) : D → Hs → Prop := fun x S => hasTy "dict" x S = true ∧ Wp X (g l S) fun y S2 => match dGet x y S2 with
  | some (some d) => Q d S2
  | some none => Q .non S2
  | none => False
def g1K2 (x : D) (Q : D → Hs → Prop) : D → Hs → Prop := fun y S2 => match dGet x y S2 with
  | some (some d) => Q d S2
  | some none => Q .non S2
  | none => False
theorem v_get1 : Wp X (mGet1 f g l S) Q = Wp X (f l S) (g1K X g l Q) := by
  unfold mGet1; rw [v_bind]; congr 1; funext x S1; unfold bdK g1K
  by_cases hh : hasTy "dict" x S1 = true
  · simp only [hh, true_and, if_true, v_bind]; congr 1; funext y S2; unfold bdK; simp only []
    cases dGet x y S2 with
    | none => first | rfl | exact v_bad | exact v_ok
    | some o => cases o <;> first | rfl | exact v_bad | exact v_ok
  · simp [hh, v_bad]
theorem k_g1 : g1K X g l Q x S = (hasTy "dict" x S = true ∧ Wp X (g l S) (g1K2 x Q)) := nr rfl
theorem k_g12 : g1K2 x Q y S = match dGet x y S with | some (some d) => Q d S | some none => Q .non S | none => False := nr rfl
variable {opr : Int → Int → Hs → R D}
def rgK (X : XP) (op : Int → Int → Hs → R D) (Q : D → Hs → Prop) : D → Hs → Prop := fun x S => Wp X (rg1 op [x] S) Q
theorem v_rg1 : Wp X (mRg1 opr f l S) Q = Wp X (f l S) (rgK X opr Q) := by unfold mRg1; rw [v_bind]; first | rfl | (congr 1; funext _ _; exact v_ok)
theorem k_rg {n : Int} : rgK X opr Q (.int n) S = Wp X (opr 0 n S) Q := nr rfl
def rg2K (X : XP) (op : Int → Int → Hs → R D) (g : M) (l : Ls) (Q : D → Hs → Prop) : D → Hs → Prop := fun x S => Wp X (g l S) fun y S2 => Wp X (rg1 op [x, y] S2) Q
def rg2K2 (X : XP) (op : Int → Int → Hs → R D) (x : D) (Q : D → Hs → Prop) : D → Hs → Prop := fun y S2 => Wp X (rg1 op [x, y] S2) Q
theorem v_rg2 : Wp X (mRg2 opr f g l S) Q = Wp X (f l S) (rg2K X opr g l Q) := by
  unfold mRg2; rw [v_bind]; congr 1; funext x S1; unfold bdK rg2K; rw [v_bind]; first | rfl | (congr 1; funext _ _; exact v_ok)
theorem k_rg2 : rg2K X opr g l Q x S = Wp X (g l S) (rg2K2 X opr x Q) := nr rfl
theorem k_rg22 {m n : Int} : rg2K2 X opr (.int m) Q (.int n) S = Wp X (opr m n S) Q := nr rfl
theorem v_dicK : Wp X (mDicK l S) Q = Q (.ref S.length) (S ++ [.dic []]) := v_ok
theorem v_dicT : Wp X (mDicT l S) Q = Q (.ref S.length) (S ++ [.dit []]) := v_ok
def dcK (X : XP) (gl : CG) (tt : MB) (tk tv : M) (l : Ls) (Q : D → Hs → Prop) : J → Hs → Prop := fun j S1 => Wp X (dcLoop j gl tt tk tv l S1.length 0 (S1 ++ [.dic []])) Q
theorem v_dc : Wp X (mDc it gl tt tk tv vs l S) Q = Wp X (it l S) (dcK X gl tt tk tv (wipeL l vs) Q) := by unfold mDc; rw [v_bind]; first | rfl | (congr 1; funext _ _; exact v_ok)
theorem k_dc {j : J} : dcK X gl tt tk tv l Q j S = Wp X (dcLoop j gl tt tk tv l S.length 0 (S ++ [.dic []])) Q := nr rfl
end
theorem ofString_inj {a b : String} : (Str.ofString a = Str.ofString b) = (a = b) := by
  rw [Str.ofString_eq_toList, Str.ofString_eq_toList, Str.mk.injEq]
  apply propext
  constructor
  · intro h
    have h := List.toArray_inj h
    have h2 : ∀ {xs ys : List Char}, xs.map Char.toNat = ys.map Char.toNat → xs = ys := by
      intro xs
      induction xs with
      | nil => intro ys e; cases ys with | nil => rfl | cons _ _ => cases e
      | cons x xs ih =>
        intro ys e
        cases ys with
        | nil => cases e
        | cons y ys =>
          simp only [List.map_cons, List.cons.injEq] at e
          rw [Char.toNat_inj.mp e.1, ih e.2]
    exact String.toList_inj.mp (h2 h)
  · rintro rfl; rfl
theorem beq_lit {a b : String} : (Str.ofString a == Str.ofString b) = (a == b) := by
  rw [Bool.eq_iff_iff]; simp [ofString_inj]
/-! ### the body of a def -/
def enK (Q : D → Hs → Prop) : F → Hs → Prop := fun r S => match r with
  | .nx _ => Q .non S
  | .rt d => Q d S
  | _ => False
theorem k_en_rt {Q : D → Hs → Prop} {d : D} {S : Hs} : enK Q (.rt d) S = Q d S := nr rfl
theorem k_en_nx {Q : D → Hs → Prop} {l : Ls} {S : Hs} : enK Q (.nx l) S = Q .non S := nr rfl
theorem wp_def {np nl : Nat} {b : MS} {ds : List D} {S : Hs} {X : XP} {Q : D → Hs → Prop} (hl : ds.length = np) (h : Wp (fun c fs _ S => X c fs [] S) (b (ds.map some ++ List.replicate nl none) S) (enK Q)) : Wp X (mDef np nl b ds S) Q := by
  unfold mDef
  rw [if_pos hl]
  generalize b (ds.map some ++ List.replicate nl none) S = r at h
  cases r with
  | ok f S1 => cases f <;> exact ⟨h.un⟩
  | exc c fs l S1 => exact ⟨h.un⟩
  | bad => exact ⟨h.un⟩
theorem wp_def0 {np nl : Nat} {b : MS} {ds : List D} {S : Hs} {Q : D → Hs → Prop} (hl : ds.length = np) (h : Wp NoX (b (ds.map some ++ List.replicate nl none) S) (enK Q)) : Wp NoX (mDef np nl b ds S) Q := wp_def hl h
theorem atX_no {l : Ls} : atX NoX l = NoX := nr rfl
/-! ### loops -/
def tuK (I : Ls → Hs → Prop) (Q : F → Hs → Prop) : F → Hs → Prop := fun r S => match r with
  | .nx l => I l S
  | .ct l => I l S
  | .bk l => Q (.nx l) S
  | .rt d => Q (.rt d) S
section
variable {X : XP} {I : Ls → Hs → Prop} {Q : F → Hs → Prop} {l : Ls} {S : Hs} {d : D}
theorem k_tu_nx : tuK I Q (.nx l) S = I l S := nr rfl
theorem k_tu_ct : tuK I Q (.ct l) S = I l S := nr rfl
theorem k_tu_bk : tuK I Q (.bk l) S = Q (.nx l) S := nr rfl
theorem k_tu_rt : tuK I Q (.rt d) S = Q (.rt d) S := nr rfl
theorem wp_fLoop {j : J} {gg : MG} {b : MS} (N : Nat) (Inv : Nat → Ls → Hs → Prop) (hend : ∀ l S, Inv N l S → itGo j N S = some none)
    (hs : ∀ k l S, k < N → Inv k l S → ∃ d, itGo j k S = some (some d) ∧ Wp X (gg d l S) fun l1 S1 => Wp X (b l1 S1) (tuK (Inv (k + 1)) Q))
    (hd : ∀ l S, Inv N l S → Q (.nx l) S) : ∀ m k l S, k + m = N → Inv k l S → Wp X (fLoop j gg b k l S) Q
  | 0, k, l, S, e, h => by
    have hk : k = N := by omega
    subst hk
    rw [fLoop_eq, hend l S h]
    exact ⟨hd l S h⟩
  | m + 1, k, l, S, e, h => by
    obtain ⟨d, e1, h1⟩ := hs k l S (by omega) h
    rw [fLoop_eq, e1]
    simp only [v_bind]
    refine h1.mono (fun _ _ _ _ h => h) fun l1 S1 h2 => ?_
    unfold bdK
    rw [v_bind]
    refine h2.mono (fun _ _ _ _ h => h) fun r S2 h3 => ?_
    cases r with
    | nx l2 => exact wp_fLoop N Inv hend hs hd m (k + 1) l2 S2 (by omega) h3
    | ct l2 => exact wp_fLoop N Inv hend hs hd m (k + 1) l2 S2 (by omega) h3
    | bk l2 => exact ⟨h3⟩
    | rt d => exact ⟨h3⟩
theorem wp_rng {lo : Int} {n : Nat} {gg : MG} {b : MS} (Inv : Nat → Ls → Hs → Prop) (h0 : Inv 0 l S)
    (hs : ∀ k l S, k < n → Inv k l S → Wp X (gg (.int (lo + k)) l S) fun l1 S1 => Wp X (b l1 S1) (tuK (Inv (k + 1)) Q)) (hd : ∀ l S, Inv n l S → Q (.nx l) S) : Wp X (fLoop (.rng lo n) gg b 0 l S) Q :=
  wp_fLoop n Inv (fun l S h => by simp [itGo]) (fun k l S hk h => ⟨_, by simp [itGo, hk], hs k l S hk h⟩) hd n 0 l S (by omega) h0
theorem split_at {α : Type} {ds : List α} {k : Nat} {d : α} (h : ds[k]? = some d) : ds = ds.take k ++ d :: ds.drop (k + 1) := by
  obtain ⟨hk, rfl⟩ := List.getElem?_eq_some_iff.mp h
  simp
theorem take_at {α : Type} {ds : List α} {k : Nat} {d : α} (h : ds[k]? = some d) : ds.take (k + 1) = ds.take k ++ [d] := by
  rw [List.take_add_one, h]; rfl
/-- over a tuple: the invariant speaks of the items that were gone through -/
theorem wp_tup {ds : List D} {gg : MG} {b : MS} (Inv : List D → Ls → Hs → Prop) (h0 : Inv [] l S)
    (hs : ∀ pre d post l S, ds = pre ++ d :: post → Inv pre l S → Wp X (gg d l S) fun l1 S1 => Wp X (b l1 S1) (tuK (Inv (pre ++ [d])) Q)) (hd : ∀ l S, Inv ds l S → Q (.nx l) S) : Wp X (fLoop (.tup ds) gg b 0 l S) Q := by
  refine wp_fLoop ds.length (fun k l S => Inv (ds.take k) l S) (fun l S h => by simp [itGo]) (fun k l S hk h => ?_) (fun l S h => hd l S (by simpa using h)) ds.length 0 l S (by omega) h0
  have e : ds[k]? = some ds[k] := List.getElem?_eq_getElem hk
  refine ⟨ds[k], by simp [itGo, e], ?_⟩
  have := hs _ _ _ l S (split_at e) h
  rwa [← take_at e] at this
/-- over a list that stays as it is while the loop goes on -/
theorem wp_lst {i : Nat} {ds : List D} {gg : MG} {b : MS} (Inv : List D → Ls → Hs → Prop) (hq : ∀ pre l S, Inv pre l S → seqAt S i = some ds) (h0 : Inv [] l S)
    (hs : ∀ pre d post l S, ds = pre ++ d :: post → Inv pre l S → Wp X (gg d l S) fun l1 S1 => Wp X (b l1 S1) (tuK (Inv (pre ++ [d])) Q)) (hd : ∀ l S, Inv ds l S → Q (.nx l) S) : Wp X (fLoop (.lst i) gg b 0 l S) Q := by
  refine wp_fLoop ds.length (fun k l S => Inv (ds.take k) l S) (fun l S h => by simp [itGo, hq _ _ _ h]) (fun k l S hk h => ?_) (fun l S h => hd l S (by simpa using h)) ds.length 0 l S (by omega) h0
  have e : ds[k]? = some ds[k] := List.getElem?_eq_getElem hk
  refine ⟨ds[k], by simp [itGo, hq _ _ _ h, e], ?_⟩
  have := hs _ _ _ l S (split_at e) h
  rwa [← take_at e] at this
/-- while, by a measure -/
theorem wp_while {c : MB} {b : MS} (Inv : Nat → Ls → Hs → Prop)
    (hs : ∀ m l S, Inv m l S → Wp X (c l S) fun t S1 => if t = true then Wp X (b l S1) (tuK (fun l2 S2 => ∃ m', m' < m ∧ Inv m' l2 S2) Q) else Q (.nx l) S1) : ∀ m l S, Inv m l S → Wp X (mWhile c b l S) Q := by
  intro m
  induction m using Nat.strongRecOn with
  | _ m ih =>
    intro l S h
    rw [mWhile_eq, v_bind]
    refine (hs m l S h).mono (fun _ _ _ _ h => h) fun t S1 h1 => ?_
    unfold bdK
    cases t with
    | false => exact ⟨h1⟩
    | true =>
      simp only [if_true] at h1 ⊢
      rw [v_bind]
      refine h1.mono (fun _ _ _ _ h => h) fun r S2 h2 => ?_
      unfold bdK
      cases r with
      | nx l2 => obtain ⟨m', hm, h3⟩ := h2; exact ih m' hm l2 S2 h3
      | ct l2 => obtain ⟨m', hm, h3⟩ := h2; exact ih m' hm l2 S2 h3
      | bk l2 => exact ⟨h2⟩
      | rt d => exact ⟨h2⟩
end
/-! ### list comprehensions -/
section
variable {X : XP} {Q : D → Hs → Prop} {l : Ls} {S : Hs} {j : J} {gl : CG} {tt : MB} {te : M} {it : MI} {vs : List Nat}
def lcK (X : XP) (gl : CG) (tt : MB) (te : M) (l : Ls) (Q : D → Hs → Prop) : J → Hs → Prop := fun j S1 => Wp X (cLoop j gl tt te l S1.length 0 (S1 ++ [.lst []])) Q
theorem v_lc : Wp X (mLc it gl tt te vs l S) Q = Wp X (it l S) (lcK X gl tt te (wipeL l vs) Q) := by unfold mLc; rw [v_bind]; rfl
theorem k_lc : lcK X gl tt te l Q j S = Wp X (cLoop j gl tt te l S.length 0 (S ++ [.lst []])) Q := nr rfl
/-- one turn of a comprehension -/
def CTurn (gl : CG) (tt : MB) (te : M) (l : Ls) (n : Nat) (d : D) (S : Hs) (acc : List D) (I : List D → Hs → Prop) : Prop :=
  ∃ l1, gl d l = some l1 ∧ Wp NoX (tt l1 S) fun t S2 => if t = true then Wp NoX (te l1 S2) fun y S3 => S3[n]? = some (.lst acc) ∧ acc.length < sizeLine ∧ I (acc ++ [y]) (S3.set n (.lst (acc ++ [y]))) else I acc S2
theorem wp_cLoop {n : Nat} (N : Nat) (Inv : Nat → List D → Hs → Prop) (hend : ∀ acc S, Inv N acc S → itGo j N S = some none)
    (hs : ∀ k acc S, k < N → Inv k acc S → ∃ d, itGo j k S = some (some d) ∧ CTurn gl tt te l n d S acc (Inv (k + 1)))
    (hd : ∀ acc S, Inv N acc S → Q (.ref n) S) : ∀ m k acc S, k + m = N → Inv k acc S → Wp X (cLoop j gl tt te l n k S) Q
  | 0, k, acc, S, e, h => by
    have hk : k = N := by omega
    subst hk
    rw [cLoop_eq]
    simp only [cStep, hend acc S h]
    exact ⟨hd acc S h⟩
  | m + 1, k, acc, S, e, h => by
    obtain ⟨d, e1, l1, e2, h1⟩ := hs k acc S (by omega) h
    obtain ⟨t, S2, e3, h2⟩ := h1.ex
    rw [cLoop_eq]
    cases t with
    | false =>
      simp only [cStep, e1, e2, e3]
      exact wp_cLoop N Inv hend hs hd m (k + 1) acc S2 (by omega) h2
    | true =>
      obtain ⟨y, S3, e4, e5, e6, h3⟩ := Wp.ex h2
      simp only [cStep, e1, e2, e3, e4, e5, e6, if_true]
      exact wp_cLoop N Inv hend hs hd m (k + 1) _ _ (by omega) h3
theorem wp_lcRng {n : Nat} {lo : Int} {m : Nat} (Inv : Nat → List D → Hs → Prop) (h0 : Inv 0 [] S) (hs : ∀ k acc S, k < m → Inv k acc S → CTurn gl tt te l n (.int (lo + k)) S acc (Inv (k + 1)))
    (hd : ∀ acc S, Inv m acc S → Q (.ref n) S) : Wp X (cLoop (.rng lo m) gl tt te l n 0 S) Q :=
  wp_cLoop m Inv (fun acc S h => by simp [itGo]) (fun k acc S hk h => ⟨_, by simp [itGo, hk], hs k acc S hk h⟩) hd m 0 [] S (by omega) h0
theorem wp_lcTup {n : Nat} {ds : List D} (Inv : List D → List D → Hs → Prop) (h0 : Inv [] [] S) (hs : ∀ pre d post acc S, ds = pre ++ d :: post → Inv pre acc S → CTurn gl tt te l n d S acc (Inv (pre ++ [d])))
    (hd : ∀ acc S, Inv ds acc S → Q (.ref n) S) : Wp X (cLoop (.tup ds) gl tt te l n 0 S) Q := by
  refine wp_cLoop ds.length (fun k acc S => Inv (ds.take k) acc S) (fun acc S h => by simp [itGo]) (fun k acc S hk h => ?_) (fun acc S h => hd acc S (by simpa using h)) ds.length 0 [] S (by omega) h0
  have e : ds[k]? = some ds[k] := List.getElem?_eq_getElem hk
  refine ⟨ds[k], by simp [itGo, e], ?_⟩
  have := hs _ _ _ acc S (split_at e) h
  rwa [← take_at e] at this
theorem wp_lcLst {n i : Nat} {ds : List D} (Inv : List D → List D → Hs → Prop) (hq : ∀ pre acc S, Inv pre acc S → seqAt S i = some ds) (h0 : Inv [] [] S) (hs : ∀ pre d post acc S, ds = pre ++ d :: post → Inv pre acc S → CTurn gl tt te l n d S acc (Inv (pre ++ [d])))
    (hd : ∀ acc S, Inv ds acc S → Q (.ref n) S) : Wp X (cLoop (.lst i) gl tt te l n 0 S) Q := by
  refine wp_cLoop ds.length (fun k acc S => Inv (ds.take k) acc S) (fun acc S h => by simp [itGo, hq _ _ _ h]) (fun k acc S hk h => ?_) (fun acc S h => hd acc S (by simpa using h)) ds.length 0 [] S (by omega) h0
  have e : ds[k]? = some ds[k] := List.getElem?_eq_getElem hk
  refine ⟨ds[k], by simp [itGo, hq _ _ _ h, e], ?_⟩
  have := hs _ _ _ acc S (split_at e) h
  rwa [← take_at e] at this
/-- one turn of a dict comprehension -/
def DTurn (gl : CG) (tt : MB) (tk tv : M) (l : Ls) (n : Nat) (d : D) (S : Hs) (acc : List (Key × D)) (I : List (Key × D) → Hs → Prop) : Prop :=
  ∃ l1, gl d l = some l1 ∧ Wp NoX (tt l1 S) fun t S2 => if t = true then Wp NoX (tk l1 S2) fun y S3 => Wp NoX (tv l1 S3) fun z S4 => S4[n]? = some (.dic acc) ∧ acc.length < sizeLine ∧ ∃ k, y.key = some k ∧ I (setK acc k z) (S4.set n (.dic (setK acc k z))) else I acc S2
theorem wp_dcLoop {n : Nat} {tk tv : M} (N : Nat) (Inv : Nat → List (Key × D) → Hs → Prop) (hend : ∀ acc S, Inv N acc S → itGo j N S = some none)
    (hs : ∀ k acc S, k < N → Inv k acc S → ∃ d, itGo j k S = some (some d) ∧ DTurn gl tt tk tv l n d S acc (Inv (k + 1)))
    (hd : ∀ acc S, Inv N acc S → Q (.ref n) S) : ∀ m k acc S, k + m = N → Inv k acc S → Wp X (dcLoop j gl tt tk tv l n k S) Q
  | 0, k, acc, S, e, h => by
    have hk : k = N := by omega
    subst hk
    rw [dcLoop_eq]
    simp only [dcStep, hend acc S h]
    exact ⟨hd acc S h⟩
  | m + 1, k, acc, S, e, h => by
    obtain ⟨d, e1, l1, e2, h1⟩ := hs k acc S (by omega) h
    obtain ⟨t, S2, e3, h2⟩ := h1.ex
    rw [dcLoop_eq]
    cases t with
    | false =>
      simp only [dcStep, e1, e2, e3]
      exact wp_dcLoop N Inv hend hs hd m (k + 1) acc S2 (by omega) h2
    | true =>
      obtain ⟨y, S3, e4, h3⟩ := Wp.ex h2
      obtain ⟨z, S4, e4', e5, e6, k0, ek, h4⟩ := Wp.ex h3
      simp only [dcStep, e1, e2, e3, e4, e4', e5, e6, ek, if_true]
      exact wp_dcLoop N Inv hend hs hd m (k + 1) _ _ (by omega) h4
theorem wp_dcRng {n : Nat} {lo : Int} {m : Nat} {tk tv : M} (Inv : Nat → List (Key × D) → Hs → Prop) (h0 : Inv 0 [] S) (hs : ∀ k acc S, k < m → Inv k acc S → DTurn gl tt tk tv l n (.int (lo + k)) S acc (Inv (k + 1)))
    (hd : ∀ acc S, Inv m acc S → Q (.ref n) S) : Wp X (dcLoop (.rng lo m) gl tt tk tv l n 0 S) Q :=
  wp_dcLoop m Inv (fun acc S h => by simp [itGo]) (fun k acc S hk h => ⟨_, by simp [itGo, hk], hs k acc S hk h⟩) hd m 0 [] S (by omega) h0
end
/-! ### what stays -/
/-- only what stands in X may have changed -/
def Kp (X : List Nat) (S S' : Hs) : Prop := S.length ≤ S'.length ∧ ∀ i, i < S.length → i ∉ X → S'[i]? = S[i]?
section
variable {A B : List Nat} {S S1 S2 g : Hs} {i n : Nat} {o : O}
theorem Kp.refl : Kp A S S := ⟨Nat.le_refl _, fun _ _ _ => rfl⟩
theorem Kp.trans (a : Kp A S S1) (b : Kp A S1 S2) : Kp A S S2 := ⟨Nat.le_trans a.1 b.1, fun i h hn => (b.2 i (Nat.lt_of_lt_of_le h a.1) hn).trans (a.2 i h hn)⟩
theorem Kp.sub (a : Kp A S S1) (h : ∀ i ∈ A, i < S.length → i ∈ B) : Kp B S S1 := ⟨a.1, fun i hi hn => a.2 i hi fun hm => hn (h i hm hi)⟩
theorem Kp.le (a : Kp A S S1) : S.length ≤ S1.length := a.1
theorem Kp.get (a : Kp A S S1) (h : S[i]? = some o) (hn : i ∉ A) : S1[i]? = some o := (a.2 i (Real.lt h) hn).trans h
theorem Kp.new : Kp A S (S ++ g) := ⟨by simp, fun i h _ => List.getElem?_append_left h⟩
theorem Kp.app (a : Kp A S S1) : Kp A S (S1 ++ g) := a.trans Kp.new
theorem Kp.set (h : i ∈ A) : Kp A S (S.set i o) := ⟨by simp, fun k hk hn => List.getElem?_set_ne (fun e => by subst e; exact hn h)⟩
/-- what is newer than S may change -/
theorem Kp.setNew (a : Kp A S S1) (h : S.length ≤ i) : Kp A S (S1.set i o) := ⟨by rw [List.length_set]; exact a.1, fun k hk hn => (List.getElem?_set_ne (by omega)).trans (a.2 k hk hn)⟩
theorem Kp.setIn (a : Kp A S S1) (h : i ∈ A) : Kp A S (S1.set i o) := a.trans (Kp.set h)
/-- a part that was done in between -/
theorem Kp.after (a : Kp A S S1) (b : Kp B S1 S2) (h : ∀ i ∈ B, i < S.length → i ∈ A) : Kp A S S2 := ⟨Nat.le_trans a.1 b.1, fun i hi hn => (b.2 i (Nat.lt_of_lt_of_le hi a.1) (fun hm => hn (h i hm hi))).trans (a.2 i hi hn)⟩
theorem Kp.seqAt (a : Kp A S S1) {ds : List D} (h : seqAt S i = some ds) (hn : i ∉ A) : Ly.seqAt S1 i = some ds := by
  unfold Ly.seqAt seqD at h ⊢
  simp only at h ⊢
  split at h
  · rename_i q; rw [a.get q hn]; exact h
  · rename_i q; rw [a.get q hn]; exact h
  · cases h
end
end Ly
set_option Elab.async false
set_option linter.all false
set_option maxRecDepth 100000
namespace Ly
open PySem PySem.Spec L2
open PyProof.Rows hiding St
/-! ### loops over rows of one kind -/
section
variable {X : XP} {Q : F → Hs → Prop} {l : Ls} {S : Hs} {α : Type} (f : α → D) {xs : List α}
theorem map_split {ds : List D} {pre post : List D} {d : D} (h : xs.map f = pre ++ d :: post) : ∃ ps x qs, xs = ps ++ x :: qs ∧ pre = ps.map f ∧ d = f x ∧ post = qs.map f := by
  rw [List.map_eq_append_iff] at h
  obtain ⟨ps, rest, rfl, rfl, h⟩ := h
  rw [List.map_eq_cons_iff] at h
  obtain ⟨x, qs, rfl, rfl, rfl⟩ := h
  exact ⟨ps, x, qs, rfl, rfl, rfl, rfl⟩
theorem wp_tupM {gg : MG} {b : MS} (Inv : List α → Ls → Hs → Prop) (h0 : Inv [] l S)
    (hs : ∀ pre x post l S, xs = pre ++ x :: post → Inv pre l S → Wp X (gg (f x) l S) fun l1 S1 => Wp X (b l1 S1) (tuK (Inv (pre ++ [x])) Q)) (hd : ∀ l S, Inv xs l S → Q (.nx l) S) : Wp X (fLoop (.tup (xs.map f)) gg b 0 l S) Q := by
  refine wp_fLoop xs.length (fun k l S => Inv (xs.take k) l S) (fun l S h => by simp [itGo]) (fun k l S hk h => ?_) (fun l S h => hd l S (by simpa using h)) xs.length 0 l S (by omega) h0
  have e : xs[k]? = some xs[k] := List.getElem?_eq_getElem hk
  refine ⟨f xs[k], by simp [itGo, e], ?_⟩
  have := hs _ _ _ l S (split_at e) h
  rwa [← take_at e] at this
theorem wp_lstM {i : Nat} {gg : MG} {b : MS} (Inv : List α → Ls → Hs → Prop) (hq : ∀ pre l S, Inv pre l S → seqAt S i = some (xs.map f)) (h0 : Inv [] l S)
    (hs : ∀ pre x post l S, xs = pre ++ x :: post → Inv pre l S → Wp X (gg (f x) l S) fun l1 S1 => Wp X (b l1 S1) (tuK (Inv (pre ++ [x])) Q)) (hd : ∀ l S, Inv xs l S → Q (.nx l) S) : Wp X (fLoop (.lst i) gg b 0 l S) Q := by
  refine wp_fLoop xs.length (fun k l S => Inv (xs.take k) l S) (fun l S h => by simp [itGo, hq _ _ _ h]) (fun k l S hk h => ?_) (fun l S h => hd l S (by simpa using h)) xs.length 0 l S (by omega) h0
  have e : xs[k]? = some xs[k] := List.getElem?_eq_getElem hk
  refine ⟨f xs[k], by simp [itGo, hq _ _ _ h, e], ?_⟩
  have := hs _ _ _ l S (split_at e) h
  rwa [← take_at e] at this
theorem wp_tup0 {gg : MG} {b : MS} (h : Q (.nx l) S) : Wp X (fLoop (.tup []) gg b 0 l S) Q := by
  rw [fLoop_eq]; exact ⟨h⟩
theorem wp_tup1 {gg : MG} {b : MS} {d : D} (h : Wp X (gg d l S) fun l1 S1 => Wp X (b l1 S1) (tuK (fun l2 S2 => Q (.nx l2) S2) Q)) : Wp X (fLoop (.tup [d]) gg b 0 l S) Q := by
  refine wp_tup (fun pre l' S' => (pre = [] ∧ l' = l ∧ S' = S) ∨ (pre = [d] ∧ Q (.nx l') S')) (.inl ⟨rfl, rfl, rfl⟩) ?_ ?_
  · intro pre x post l' S' e hI
    rcases hI with ⟨rfl, rfl, rfl⟩ | ⟨rfl, _⟩
    · simp only [List.nil_append, List.cons.injEq] at e
      obtain ⟨rfl, _⟩ := e
      refine h.mono (fun _ _ _ _ h => h) fun l1 S1 h1 => h1.mono (fun _ _ _ _ h => h) fun r S2 h2 => ?_
      cases r with
      | nx l2 => exact .inr ⟨rfl, h2⟩
      | ct l2 => exact .inr ⟨rfl, h2⟩
      | bk l2 => exact h2
      | rt d => exact h2
    · simp at e
  · intro l' S' hI
    rcases hI with ⟨e, _⟩ | ⟨_, h⟩
    · cases e
    · exact h
variable {P : D → Hs → Prop} {gl : CG} {tt : MB} {te : M}
theorem wp_lcTupM {n : Nat} (Inv : List α → List D → Hs → Prop) (h0 : Inv [] [] S) (hs : ∀ pre x post acc S, xs = pre ++ x :: post → Inv pre acc S → CTurn gl tt te l n (f x) S acc (Inv (pre ++ [x])))
    (hd : ∀ acc S, Inv xs acc S → P (.ref n) S) : Wp X (cLoop (.tup (xs.map f)) gl tt te l n 0 S) P := by
  refine wp_cLoop xs.length (fun k acc S => Inv (xs.take k) acc S) (fun acc S h => by simp [itGo]) (fun k acc S hk h => ?_) (fun acc S h => hd acc S (by simpa using h)) xs.length 0 [] S (by omega) h0
  have e : xs[k]? = some xs[k] := List.getElem?_eq_getElem hk
  refine ⟨f xs[k], by simp [itGo, e], ?_⟩
  have := hs _ _ _ acc S (split_at e) h
  rwa [← take_at e] at this
theorem wp_lcLstM {n i : Nat} (Inv : List α → List D → Hs → Prop) (hq : ∀ pre acc S, Inv pre acc S → seqAt S i = some (xs.map f)) (h0 : Inv [] [] S) (hs : ∀ pre x post acc S, xs = pre ++ x :: post → Inv pre acc S → CTurn gl tt te l n (f x) S acc (Inv (pre ++ [x])))
    (hd : ∀ acc S, Inv xs acc S → P (.ref n) S) : Wp X (cLoop (.lst i) gl tt te l n 0 S) P := by
  refine wp_cLoop xs.length (fun k acc S => Inv (xs.take k) acc S) (fun acc S h => by simp [itGo, hq _ _ _ h]) (fun k acc S hk h => ?_) (fun acc S h => hd acc S (by simpa using h)) xs.length 0 [] S (by omega) h0
  have e : xs[k]? = some xs[k] := List.getElem?_eq_getElem hk
  refine ⟨f xs[k], by simp [itGo, hq _ _ _ h, e], ?_⟩
  have := hs _ _ _ acc S (split_at e) h
  rwa [← take_at e] at this
/-- [e for x in xs if c], where neither e nor c changes anything that stands: what is kept -/
theorem lc_pure {j : J} (g : α → Option D) (hj : ∀ S', Kp [] S S' → ∀ k, k ≤ xs.length → itGo j k S' = some ((xs[k]?).map f)) (hx : xs.length ≤ 1000000)
    (hs : ∀ x ∈ xs, ∀ S', Kp [] S S' → ∃ l1, gl (f x) l = some l1 ∧ Wp NoX (tt l1 S') fun t S2 => Kp [] S' S2 ∧ if t = true then Wp NoX (te l1 S2) fun y S3 => Kp [] S2 S3 ∧ g x = some y else g x = none)
    (hd : ∀ S', S'[S.length]? = some (.lst (xs.filterMap g)) → Kp [] S S' → P (.ref S.length) S') : Wp X (cLoop j gl tt te l S.length 0 (S ++ [.lst []])) P := by
  refine wp_cLoop xs.length (fun k acc S' => acc = (xs.take k).filterMap g ∧ S'[S.length]? = some (.lst acc) ∧ Kp [] S S') (fun acc S' h => ?_) (fun k acc S' hk h => ?_) (fun acc S' h => ?_) xs.length 0 [] _ (by omega) ⟨by simp, by simp, Kp.new⟩
  · rw [hj S' h.2.2 _ (Nat.le_refl _), List.getElem?_eq_none (Nat.le_refl _)]; rfl
  · obtain ⟨rfl, h1, h2⟩ := h
    have e : xs[k]? = some xs[k] := List.getElem?_eq_getElem hk
    obtain ⟨l1, e1, h3⟩ := hs xs[k] (List.getElem_mem hk) S' h2
    refine ⟨f xs[k], by rw [hj S' h2 _ (Nat.le_of_lt hk), e]; rfl, l1, e1, ?_⟩
    refine h3.mono (fun _ _ _ _ h => h) ?_
    rintro t S2 ⟨k1, h4⟩
    rw [take_at e, List.filterMap_append]
    have hb : ((xs.take k).filterMap g).length < sizeLine := by
      refine line_big (Nat.le_trans (List.length_filterMap_le _ _) ?_)
      simp; omega
    cases t with
    | false =>
      simp only [Bool.false_eq_true, if_false] at h4 ⊢
      simp only [List.filterMap_cons, h4, List.filterMap_nil, List.append_nil]
      exact ⟨trivial, k1.get h1 (by simp), h2.trans k1⟩
    | true =>
      simp only [if_true] at h4 ⊢
      refine h4.mono (fun _ _ _ _ h => h) ?_
      rintro y S3 ⟨k2, h5⟩
      have h6 := k2.get (k1.get h1 (by simp)) (by simp)
      simp only [List.filterMap_cons, h5, List.filterMap_nil]
      exact ⟨h6, hb, trivial, get_put h6, ((h2.trans k1).trans k2).setNew (Nat.le_refl _)⟩
  · obtain ⟨rfl, h1, h2⟩ := h
    exact hd S' (by simpa using h1) h2
end
end Ly
set_option Elab.async false
set_option linter.all false
set_option maxRecDepth 100000
namespace Ly
open PySem PySem.Spec L2
open PyProof.Rows hiding St
/-! ### written dicts -/
section
variable {X : XP} {Q : D → Hs → Prop} {h : MP} {l : Ls} {S : Hs}
def dsK (n : Nat) (Q : D → Hs → Prop) : List (D × D) → Hs → Prop := fun ps S1 => ∃ kvs, keysP ps = some kvs ∧ S1[n]? = some (.dic []) ∧ kvs.length ≤ 15 ∧ Q (.ref n) (S1.set n (.dic (mergeD [] kvs)))
theorem v_disp (H : Wp X (h l (S ++ [.dic []])) (dsK S.length Q)) : Wp X (mDisp h l S) Q := by
  unfold mDisp
  rw [v_bind]
  refine H.mono (fun _ _ _ _ h => h) ?_
  rintro ps S1 ⟨kvs, e1, e2, e3, e4⟩
  unfold bdK
  simp only [e1, e2, e3, if_true]
  exact ⟨e4⟩
variable {Q : List (D × D) → Hs → Prop} {f g : M}
theorem v_dpNil : Wp X (dpNil l S) Q = Q [] S := v_ok
def dpK (X : XP) (g : M) (h : MP) (l : Ls) (Q : List (D × D) → Hs → Prop) : D → Hs → Prop := fun x S1 => Wp X (g l S1) fun y S2 => Wp X (h l S2) fun r S3 => Q ((x, y) :: r) S3
def dpK2 (X : XP) (h : MP) (x : D) (l : Ls) (Q : List (D × D) → Hs → Prop) : D → Hs → Prop := fun y S2 => Wp X (h l S2) fun r S3 => Q ((x, y) :: r) S3
def dpK3 (x y : D) (Q : List (D × D) → Hs → Prop) : List (D × D) → Hs → Prop := fun r S3 => Q ((x, y) :: r) S3
theorem v_dpCons : Wp X (dpCons f g h l S) Q = Wp X (f l S) (dpK X g h l Q) := by
  unfold dpCons; rw [v_bind]; congr 1; funext x S1; unfold bdK dpK; rw [v_bind]; congr 1; funext y S2; unfold bdK; rw [v_bind]; congr 1; funext r S3; exact v_ok
theorem k_dp {x : D} : dpK X g h l Q x S = Wp X (g l S) (dpK2 X h x l Q) := nr rfl
theorem k_dp2 {x y : D} : dpK2 X h x l Q y S = Wp X (h l S) (dpK3 x y Q) := nr rfl
theorem k_dp3 {x y : D} {ps : List (D × D)} : dpK3 x y Q ps S = Q ((x, y) :: ps) S := nr rfl
end
theorem disp_end {ps : List (D × D)} {kvs : List (Key × D)} {Q : D → Hs → Prop} {S : Hs} (h1 : keysP ps = some kvs) (h2 : kvs.length ≤ 15) (h3 : mergeD [] kvs = kvs) (hQ : Q (.ref S.length) (S ++ [.dic kvs])) : dsK S.length Q ps (S ++ [.dic []]) := by
  refine ⟨kvs, h1, by simp, h2, ?_⟩
  have : (S ++ [O.dic []]).set S.length (.dic (mergeD [] kvs)) = S ++ [.dic kvs] := by
    rw [h3, List.set_append_right _ _ (Nat.le_refl _), Nat.sub_self]; rfl
  rw [this]; exact hQ
/-! ### instances -/
section
variable {X : XP} {cs : List Addr} {f m : Str} {o e : M} {l : Ls} {S S1 : Hs} {i : Nat} {C : Addr} {fs : List (Str × D)} {d x y : D} {ds : List D} {g : ML} {md : MD} {tbl : List (Addr × MD)} {op : D → D → Hs → R D}
section
variable {Q : D → Hs → Prop}
def flK (cs : List Addr) (f : Str) (Q : D → Hs → Prop) : D → Hs → Prop := fun x S1 => match x with
  | .ref i => match S1[i]? with
    | some (.ins C fs) => C ∈ cs ∧ (match fs.lookup f with
      | some d => Q d S1
      | none => False)
    | _ => False
  | _ => False
theorem v_fld : Wp X (mFld cs f o l S) Q = Wp X (o l S) (flK cs f Q) := by
  unfold mFld; rw [v_bind]; congr 1; funext x S1; unfold bdK flK
  cases x with
  | ref i =>
    simp only []
    cases S1[i]? with
    | none => exact v_bad
    | some u =>
      cases u with
      | ins C fs =>
        simp only []
        by_cases h : C ∈ cs
        · simp only [h, if_true, true_and]; cases fs.lookup f <;> first | exact v_ok | exact v_bad
        · simp only [h, if_false, false_and]; exact v_bad
      | _ => exact v_bad
  | _ => exact v_bad
theorem k_fl (h : S[i]? = some (.ins C fs)) : flK cs f Q (.ref i) S = (C ∈ cs ∧ (match fs.lookup f with | some d => Q d S | none => False)) := by simp only [flK, h]
def meK2 (X : XP) (md : MD) (i : Nat) (l : Ls) (Q : D → Hs → Prop) : List D → Hs → Prop := fun ds S2 => Wp (atX X l) (md (.ref i :: ds) S2) Q
def meK (X : XP) (tbl : List (Addr × MD)) (m : Str) (g : ML) (l : Ls) (Q : D → Hs → Prop) : D → Hs → Prop := fun x S1 => match x with
  | .ref i => match S1[i]? with
    | some (.ins C fs) => (match tbl.lookup C with
      | some md => fs.lookup m = none ∧ Wp X (g l S1) (meK2 X md i l Q)
      | none => False)
    | _ => False
  | _ => False
theorem v_meth : Wp X (mMeth tbl m o g l S) Q = Wp X (o l S) (meK X tbl m g l Q) := by
  unfold mMeth; rw [v_bind]; congr 1; funext x S1; unfold bdK meK
  cases x with
  | ref i =>
    simp only []
    cases S1[i]? with
    | none => exact v_bad
    | some u =>
      cases u with
      | ins C fs =>
        simp only []
        cases tbl.lookup C with
        | none => exact v_bad
        | some md =>
          simp only [Option.isNone_iff_eq_none]
          by_cases h : fs.lookup m = none
          · simp only [h, if_true, true_and]; rw [v_bind]; congr 1; funext ds S2; unfold bdK meK2; rw [v_at]
          · simp only [h, if_false, false_and]; exact v_bad
      | _ => exact v_bad
  | _ => exact v_bad
theorem k_me (h : S[i]? = some (.ins C fs)) : meK X tbl m g l Q (.ref i) S = (match tbl.lookup C with | some md => fs.lookup m = none ∧ Wp X (g l S) (meK2 X md i l Q) | none => False) := by simp only [meK, h]
theorem k_me2 : meK2 X md i l Q ds S = Wp (atX X l) (md (.ref i :: ds) S) Q := nr rfl
def mkK (X : XP) (C : Addr) (md : MD) (l : Ls) (Q : D → Hs → Prop) : List D → Hs → Prop := fun ds S1 => Wp (atX X l) (md (.ref S1.length :: ds) (S1 ++ [.ins C []])) fun d S2 => d = .non ∧ Q (.ref S1.length) S2
theorem v_make : Wp X (mMake C md g l S) Q = Wp X (g l S) (mkK X C md l Q) := by
  unfold mMake; rw [v_bind]; congr 1; funext ds S1; unfold bdK mkK; rw [v_bind, v_at]; congr 1; funext d S2; unfold bdK
  cases d with
  | non => simp only [v_ok, true_and]
  | _ => simp only [v_bad, reduceCtorEq, false_and]
theorem k_mk : mkK X C md l Q ds S = Wp (atX X l) (md (.ref S.length :: ds) (S ++ [.ins C []])) fun d S2 => d = .non ∧ Q (.ref S.length) S2 := nr rfl
theorem look1 {α β : Type} [BEq α] [LawfulBEq α] {a : α} {b : β} {r : List (α × β)} : ((a, b) :: r).lookup a = some b := by rw [List.lookup_cons, beq_self_eq_true]
end
section
variable {Q : F → Hs → Prop}
def fsK (X : XP) (cs : List Addr) (f : Str) (o : M) (l : Ls) (Q : F → Hs → Prop) : D → Hs → Prop := fun d S1 => Wp X (o l S1) fun x S2 => match x with
  | .ref i => match S2[i]? with
    | some (.ins C fs) => C ∈ cs ∧ fs.length < 1000 ∧ Q (.nx l) (S2.set i (.ins C (putD f d fs)))
    | _ => False
  | _ => False
def fsK2 (cs : List Addr) (f : Str) (d : D) (l : Ls) (Q : F → Hs → Prop) : D → Hs → Prop := fun x S2 => match x with
  | .ref i => match S2[i]? with
    | some (.ins C fs) => C ∈ cs ∧ fs.length < 1000 ∧ Q (.nx l) (S2.set i (.ins C (putD f d fs)))
    | _ => False
  | _ => False
theorem v_fldset : Wp X (mFldSet cs f e o l S) Q = Wp X (e l S) (fsK X cs f o l Q) := by
  unfold mFldSet; rw [v_bind]; congr 1; funext d S1; unfold bdK fsK; rw [v_bind]; congr 1; funext x S2; unfold bdK
  cases x with
  | ref i =>
    simp only []
    cases S2[i]? with
    | none => exact v_bad
    | some u =>
      cases u with
      | ins C fs =>
        simp only []
        by_cases h : C ∈ cs
        · by_cases h2 : fs.length < 1000
          · simp only [h, h2, and_self, if_true, true_and]; exact v_ok
          · simp only [h, h2, and_false, if_false, false_and]; exact v_bad
        · simp only [h, if_false, false_and]; exact v_bad
      | _ => exact v_bad
  | _ => exact v_bad
theorem k_fs : fsK X cs f o l Q d S = Wp X (o l S) (fsK2 cs f d l Q) := nr rfl
theorem k_fs2 (h : S[i]? = some (.ins C fs)) : fsK2 cs f d l Q (.ref i) S = (C ∈ cs ∧ fs.length < 1000 ∧ Q (.nx l) (S.set i (.ins C (putD f d fs)))) := by simp only [fsK2, h]
def faK3 (C : Addr) (f : Str) (i : Nat) (l : Ls) (Q : F → Hs → Prop) : D → Hs → Prop := fun z S3 => match S3[i]? with
  | some (.ins C' fs') => C' = C ∧ fs'.length < 1000 ∧ Q (.nx l) (S3.set i (.ins C (putD f z fs')))
  | _ => False
def faK2 (X : XP) (op : D → D → Hs → R D) (C : Addr) (f : Str) (i : Nat) (d0 : D) (l : Ls) (Q : F → Hs → Prop) : D → Hs → Prop := fun d S2 => Wp X (op d0 d S2) (faK3 C f i l Q)
def faK (X : XP) (cs : List Addr) (f : Str) (op : D → D → Hs → R D) (e : M) (l : Ls) (Q : F → Hs → Prop) : D → Hs → Prop := fun x S1 => match x with
  | .ref i => match S1[i]? with
    | some (.ins C fs) => C ∈ cs ∧ (match fs.lookup f with
      | some d0 => Wp X (e l S1) (faK2 X op C f i d0 l Q)
      | none => False)
    | _ => False
  | _ => False
theorem v_fldaug : Wp X (mFldAug cs f op o e l S) Q = Wp X (o l S) (faK X cs f op e l Q) := by
  unfold mFldAug; rw [v_bind]; congr 1; funext x S1; unfold bdK faK
  cases x with
  | ref i =>
    simp only []
    cases S1[i]? with
    | none => exact v_bad
    | some u =>
      cases u with
      | ins C fs =>
        simp only []
        by_cases h : C ∈ cs
        · simp only [h, if_true, true_and]
          cases fs.lookup f with
          | none => exact v_bad
          | some d0 =>
            simp only []
            rw [v_bind]; congr 1; funext d S2; unfold bdK faK2; rw [v_bind]; congr 1; funext z S3; unfold bdK faK3; dsimp only
            cases S3[i]? with
            | none => exact v_bad
            | some u =>
              cases u with
              | ins C' fs' =>
                simp only []
                by_cases h : C' = C
                · by_cases h2 : fs'.length < 1000
                  · simp only [h, h2, and_self, if_true, true_and]; exact v_ok
                  · simp only [h, h2, and_false, if_false, false_and, and_false]; exact v_bad
                · simp only [h, if_false, false_and]; exact v_bad
              | _ => exact v_bad
        · simp only [h, if_false, false_and]; exact v_bad
      | _ => exact v_bad
  | _ => exact v_bad
theorem k_fa (h : S[i]? = some (.ins C fs)) : faK X cs f op e l Q (.ref i) S = (C ∈ cs ∧ (match fs.lookup f with | some d0 => Wp X (e l S) (faK2 X op C f i d0 l Q) | none => False)) := by simp only [faK, h]
theorem k_fa2 {d0 : D} : faK2 X op C f i d0 l Q d S = Wp X (op d0 d S) (faK3 C f i l Q) := nr rfl
theorem k_fa3 {C' : Addr} (h : S[i]? = some (.ins C' fs)) : faK3 C f i l Q d S = (C' = C ∧ fs.length < 1000 ∧ Q (.nx l) (S.set i (.ins C (putD f d fs)))) := by simp only [faK3, h]
end
end
end Ly
set_option Elab.async false
set_option linter.all false
set_option maxRecDepth 100000
namespace Ly
open PySem PySem.Spec L2
open PyProof.Rows hiding St
/-! ### all, any of a list of truths; x.bit_length(); d.pop(k) -/
def boolsD : List D → Option (List Bool)
  | [] => some []
  | .bl i :: r => (boolsD r).map (i :: ·)
  | _ => none
theorem bools_V {K : PySem.W.Frag} {pi : Nat → Addr} {n : Nat} {H : Hp} {ds : List D} {vs : List V} {ns : List Bool} (r : Reps K pi n H ds vs) (h : boolsD ds = some ns) : vs = ns.map V.bl := by
  induction ds generalizing vs ns with
  | nil => cases r; simp [boolsD] at h; subst h; rfl
  | cons d ds ih =>
    cases r with
    | cons r s =>
      cases r <;> simp [boolsD] at h
      obtain ⟨ms, h1, rfl⟩ := h
      rw [ih s h1]; rfl
theorem boolsD_map (bs : List Bool) : boolsD (bs.map D.bl) = some bs := by
  induction bs with
  | nil => rfl
  | cons b bs ih => simp [boolsD, ih]
def bAll : List D → Hs → R D
  | [x], S => match (seqD x S).bind boolsD with
    | some bs => .ok (.bl (bs.all id)) S
    | _ => .bad
  | _, _ => .bad
def bAny : List D → Hs → R D
  | [x], S => match (seqD x S).bind boolsD with
    | some bs => .ok (.bl (bs.any id)) S
    | _ => .bad
  | _, _ => .bad
section
variable {K : PySem.W.Frag} {E : St → XK}
theorem ok_all : CallOk K E (rAll K) bAll := by
  intro p S H ds vs Q R r h
  unfold bAll at h
  split at h
  · split at h
    · rename_i ns e
      rw [Option.bind_eq_some_iff] at e
      obtain ⟨ds, e1, e2⟩ := e
      cases r with
      | cons r0 rs =>
      cases rs
      obtain ⟨a, vs, rfl, hs, r⟩ := seq_V R r0 e1
      rw [bools_V r e2] at hs
      exact ⟨a, ns, rfl, hs, h.val R (.bl _)⟩
    · exact h.elim
  · exact h.elim
theorem ok_any : CallOk K E (rAny K) bAny := by
  intro p S H ds vs Q R r h
  unfold bAny at h
  split at h
  · split at h
    · rename_i ns e
      rw [Option.bind_eq_some_iff] at e
      obtain ⟨ds, e1, e2⟩ := e
      cases r with
      | cons r0 rs =>
      cases rs
      obtain ⟨a, vs, rfl, hs, r⟩ := seq_V R r0 e1
      rw [bools_V r e2] at hs
      exact ⟨a, ns, rfl, hs, h.val R (.bl _)⟩
    · exact h.elim
  · exact h.elim
end
section
variable {X : Cx} {E : St → XK} {e o : Expr} {f g : M} {fl : ML} {p pos apos cpos : Pos}
theorem c_all (hc : X.calm = true) (hm : X.mg "all" = none) (ha : LM X E [e] fl) (hg : Gl X "all" := by rfl) (he : starEach [e] X.env = (false, eval e X.env) :: starEach [] X.env := by rfl) : EM X E (.Call (.Name "all" p) [e] [] pos) (mCall bAll fl) := e_callB (cr_all hc) ok_all hg hm (by decide +kernel) ha (by decide) (by decide) he (by rfl)
theorem c_any (hc : X.calm = true) (hm : X.mg "any" = none) (ha : LM X E [e] fl) (hg : Gl X "any" := by rfl) (he : starEach [e] X.env = (false, eval e X.env) :: starEach [] X.env := by rfl) : EM X E (.Call (.Name "any" p) [e] [] pos) (mCall bAny fl) := e_callB (cr_any hc) ok_any hg hm (by decide +kernel) ha (by decide) (by decide) he (by rfl)
def oBits : D → Hs → R D
  | .int i, S => .ok (.int (Builtin.Int.intBits i : Nat)) S
  | _, _ => .bad
theorem e_bits (ho : EM X E o f) (hbase : attributeBase o "bit_length" X.env (eval o X.env) = eval o X.env := by rfl) (hline : (apos.endLine == pos.line) = true := by rfl) : EM X E (.Call (.Attribute o "bit_length" apos) [] [] pos) (mUn oBits f) :=
  ⟨(pe_bits ho.pe hbase hline).weak fun s H Q ⟨p, l, S, R, L, h⟩ => T.of R L h fun p1 S1 H1 d v R1 x1 L1 r1 h1 => by
    unfold oBits at h1
    split at h1
    · cases r1; exact ⟨_, rfl, h1.val R1 (.int _)⟩
    · exact h1.elim⟩
def oPop1 (x y : D) (S : Hs) : R D := match x with
  | .ref i => match S[i]?, y.key with
    | some (.dic kvs), some k => (match getK kvs k with
      | some d => .ok d (S.set i (.dic (dropD kvs k)))
      | none => .bad)
    | _, _ => .bad
  | _ => .bad
def mPop1 (f g : M) : M := fun l S => (f l S).bind fun x S1 => if hasTy "dict" x S1 = true then (g l S1).bind fun y S2 => oPop1 x y S2 else .bad
theorem e_pop1 (ho : EM X E o f) (he : EM X E e g) (m : M1 X o "pop" apos e cpos := by exact ⟨rfl, rfl, rfl, rfl⟩) : EM X E (.Call (.Attribute o "pop" apos) [e] [] cpos) (mPop1 f g) :=
  ⟨(pe_dpop1 ho.pe he.pe m).weak fun s H Q ⟨p, l, S, R, L, h⟩ => T.of R L h fun p1 S1 H1 d v R1 x1 L1 r1 h1 => by
    split at h1
    · rename_i ht
      obtain ⟨a, rfl, ia⟩ := isD_V R1 r1 ht
      refine ⟨a, rfl, ia, T.of R1 L1 h1 fun p3 S3 H3 d3 v3 R3 x3 L3 r3 h3 => ?_⟩
      have rd := r1.ext x3 _ _
      unfold oPop1 at h3
      split at h3
      · rename_i i
        cases rd with
        | ref hi =>
        split at h3
        · rename_i kvs k q ek
          obtain ⟨ks, h4, h5, h6⟩ := R3.ob _ _ q
          have gk := getK_V h5 h6 k
          split at h3
          · rename_i dd eg
            rw [eg] at gk
            cases hv : valV ks k with
            | none => rw [hv] at gk; obtain ⟨z, ez, _⟩ := gk; cases ez
            | some v =>
              rw [hv] at gk
              obtain ⟨z, ez, rz⟩ := gk
              cases ez
              have xu : ∀ u, Ext S3.length S3.length p3 p3 H3 (upd H3 (p3 i) u) := fun u => ext_upd (R3.notup hi)
              obtain ⟨g1, g2⟩ := dropD_V h5 h6 k
              have R4 := R3.put hi (u := .dK (dropK ks k)) (o := .dic (dropD kvs k)) ⟨_, upd_same, g1, g2.ext (xu _) _ _⟩
              exact ⟨ks, k, v, h4, key_V r3 ek, hv, Post.ok (Q := QD _ Q) h3 (by rw [List.length_set]; exact xu _) R4 _ (by rw [List.length_set]; exact rz.ext (xu _) _ _)⟩
          · exact h3.elim
        · exact h3.elim
      · exact h3.elim
    · exact h1.elim⟩
end
/-! their Wp -/
section
variable {X : XP} {f g : M} {l : Ls} {S : Hs} {x y : D} {Q : D → Hs → Prop}
def p1K2 (X : XP) (x : D) (Q : D → Hs → Prop) : D → Hs → Prop := fun y S => Wp X (oPop1 x y S) Q
def p1K (X : XP) (g : M) (l : Ls) (Q : D → Hs → Prop) : D → Hs → Prop := fun x S => hasTy "dict" x S = true ∧ Wp X (g l S) (p1K2 X x Q)
theorem v_pop1 : Wp X (mPop1 f g l S) Q = Wp X (f l S) (p1K X g l Q) := by
  unfold mPop1; rw [v_bind]; congr 1; funext x S1; unfold bdK p1K
  by_cases h : hasTy "dict" x S1 = true
  · simp only [h, true_and, if_true, v_bind]; rfl
  · simp [h, v_bad]
theorem k_p1 : p1K X g l Q x S = (hasTy "dict" x S = true ∧ Wp X (g l S) (p1K2 X x Q)) := nr rfl
theorem k_p12 : p1K2 X x Q y S = Wp X (oPop1 x y S) Q := nr rfl
end
theorem oBits_int {i : Int} {S : Hs} : oBits (.int i) S = .ok (.int (Builtin.Int.intBits i : Nat)) S := nr rfl
theorem bAll_lst {S : Hs} {i : Nat} {bs : List Bool} (h : S[i]? = some (.lst (bs.map D.bl))) : bAll [.ref i] S = .ok (.bl (bs.all id)) S := by
  simp [bAll, seqD, h, boolsD_map]
end Ly
set_option Elab.async false
set_option linter.all false
set_option maxRecDepth 100000
set_option maxHeartbeats 4000000
namespace Ly
open PySem PySem.Spec L2
open PyProof.Rows hiding St
/-! ### (..) * n -/
theorem tupMul1 (l : Addr) (items : Array Value) (n : Nat) (dd : Option Addr) (sl : Array (Option Value)) (u : Tok) :
    Meets (Builtin.«tuple.__mul__» ⟨[.ref l, .int 1 u], []⟩) (fun _ R s => s.heap.get? l = some { cls := .type "tuple", dict := dd, data := .seq items n, slots := sl } ∧ R (.ok (.ret (Value.ref l))) s) :=
  .of_wp fun prog w A R s h => by
    obtain ⟨hp, g, d, tk, os⟩ := s
    obtain ⟨hl, h⟩ := h
    have f1 := AutoSeq1.idx_int
    have c0 : (decide ((1 : Int) < -(2 ^ 63)) || decide ((1 : Int) ≥ 2 ^ 63)) = false := by decide
    have c1 : (items.isEmpty || (1 : Int) == 1) = true := by simp
    wp_walk using wpAny_loadPart' hl
    exact ⟨_, rfl, h⟩
theorem tupMul0 (l : Addr) (items : Array Value) (n : Nat) (dd : Option Addr) (sl : Array (Option Value)) (u : Tok) (hi : items.isEmpty = false) :
    Meets (Builtin.«tuple.__mul__» ⟨[.ref l, .int 0 u], []⟩) (fun _ R s => s.heap.get? l = some { cls := .type "tuple", dict := dd, data := .seq items n, slots := sl } ∧
      R (.ok (.ret (Value.ref s.heap.objs.size))) { s with heap := s.heap.push { cls := Value.type "tuple", data := Data.seq #[] }, toks := s.toks }) :=
  .of_wp fun prog w A R s h => by
    obtain ⟨hp, g, d, tk, os⟩ := s
    obtain ⟨hl, h⟩ := h
    have f1 := AutoSeq1.idx_int
    have c1 : (items.isEmpty || (0 : Int) == 1) = false := by rw [hi]; rfl
    have c2 : (decide ((0 : Int) ≤ 0) || items.isEmpty) = true := by simp
    wp_walk using wpAny_loadPart' hl
    repeat (first
      | (refine wpAny_ite_false (decide_eq_false (by rw [c1]; exact Bool.false_ne_true)) ?_; wp_walk using wpAny_loadPart' hl)
      | (refine wpAny_ite_true (decide_eq_true c2) ?_; wp_walk using wpAny_loadPart' hl))
    exact ⟨_, rfl, h⟩
def rRepT1 (K : PySem.W.Frag) : R2 := fun x y H Q => ∃ l xs, x = .ref l ∧ y = .int 1 ∧ SqT K H l xs ∧ Q (.ref l) H
def rRepT0 (K : PySem.W.Frag) : R2 := fun x y H Q => ∃ l xs, x = .ref l ∧ y = .int 0 ∧ SqT K H l xs ∧ xs ≠ [] ∧ ∀ p, H p = none → Q (.ref p) (upd H p (.tup []))
section
variable {X : Cx}
theorem op_repT1 : OpR X (binaryOp .Mult) (rRepT1 X.K) := by
  intro pins s σ H x y v u Q I rx ry h
  obtain ⟨l, xs, rfl, rfl, hT, q⟩ := h
  cases rx
  obtain ⟨t, rfl⟩ := ry
  obtain ⟨its, r, ⟨⟨cls, dd, data, sl⟩, ho, hc, n, hd⟩, hs⟩ := I.tuple hT
  simp only at hc hd
  subst hc hd
  refine wpAny_binaryOp_repeat_ref (T := "tuple") (U := "int") (by decide) ⟨_, ho, rfl⟩ (fun s' => typeIs_int s' 1 t) noFill_tuple_mul F.fills_int_mul F.slot_int_rmul repeat_tuple F.slot_int_index.lookup
    (call_meets F.slot_int_rmul (typeIs_int s 1 t) F.entry_int_rmul (F.args_int_rmul_2 _ _) (int_rmul_tuple 1 t l its.toArray n dd sl)
      ⟨ho, rfl, ⟨_, ho, rfl⟩, call_meets F.slot_tuple_mul ⟨_, ho, rfl⟩ F.entry_tuple_mul (F.args_tuple_mul_2 _ _) (tupMul1 l its.toArray n dd sl t) ⟨ho, ?_⟩⟩)
  exact ⟨.ref l, _, I, rfl, q⟩
theorem op_repT0 : OpR X (binaryOp .Mult) (rRepT0 X.K) := by
  intro pins s σ H x y v u Q I rx ry h
  obtain ⟨l, xs, rfl, rfl, hT, hne, q⟩ := h
  cases rx
  obtain ⟨t, rfl⟩ := ry
  obtain ⟨its, r, ⟨⟨cls, dd, data, sl⟩, ho, hc, n, hd⟩, hs⟩ := I.tuple hT
  simp only at hc hd
  subst hc hd
  have hle : its.length = xs.length := r.length.symm
  have hn : its ≠ [] := fun e => hne (by
    rw [e] at hle
    exact List.eq_nil_of_length_eq_zero hle.symm)
  have hi : its.toArray.isEmpty = false := by
    cases its with
    | nil => exact absurd rfl hn
    | cons a b => rfl
  refine wpAny_binaryOp_repeat_ref (T := "tuple") (U := "int") (by decide) ⟨_, ho, rfl⟩ (fun s' => typeIs_int s' 0 t) noFill_tuple_mul F.fills_int_mul F.slot_int_rmul repeat_tuple F.slot_int_index.lookup
    (call_meets F.slot_int_rmul (typeIs_int s 0 t) F.entry_int_rmul (F.args_int_rmul_2 _ _) (int_rmul_tuple 0 t l its.toArray n dd sl)
      ⟨ho, rfl, ⟨_, ho, rfl⟩, call_meets F.slot_tuple_mul ⟨_, ho, rfl⟩ F.entry_tuple_mul (F.args_tuple_mul_2 _ _) (tupMul0 l its.toArray n dd sl t hi) ⟨ho, ?_⟩⟩)
  refine ⟨.ref s.heap.objs.size, _, I.laid (t' := s.toks) (o := .tup []) (fun b ob q => Heap.get?_push_of_some _ q) (Nat.le_refl _) ?_, rfl, q _ (I.hok.fresh (Nat.le_refl _))⟩
  exact ⟨by simp, [], .nil, IsTup.new _ _⟩
end
def oMulT : D → D → Hs → R D
  | .tup xs, .int k, S => if xs ≠ [] ∧ 0 ≤ k ∧ k ≤ 1000 ∧ xs.length ≤ 1000 then .ok (.tup (List.replicate k.toNat xs).flatten) S else .bad
  | _, _, _ => .bad
section
variable {X : Cx} {E : St → XK} {a b : Expr} {f g : M} {pos : Pos}
theorem reps_rep {K : PySem.W.Frag} {p : Nat → Addr} {n : Nat} {H : Hp} {ds : List D} {vs : List V} (r : Reps K p n H ds vs) : ∀ m : Nat, Reps K p n H (List.replicate m ds).flatten (List.replicate m vs).flatten
  | 0 => .nil
  | m + 1 => by
    rw [List.replicate_succ, List.replicate_succ, List.flatten_cons, List.flatten_cons]; exact r.append (reps_rep r m)
theorem ok_mulT {K : PySem.W.Frag} {E : St → XK} : OpOk K E (orR (rRepT K) (orR (rRepT1 K) (rRepT0 K))) oMulT := by
  intro p S H x y v u Q R rx ry h
  unfold oMulT at h
  split at h
  · split at h
    · rename_i xs k hc
      obtain ⟨hne, h0, h1, h2⟩ := hc
      cases ry
      cases rx with
      | tup t r =>
        rename_i a vs
        have hne2 : vs ≠ [] := fun e => hne (by
          have := r.len; rw [e] at this
          exact List.eq_nil_of_length_eq_zero this)
        have hl2 : vs.length ≤ 1000 := by rw [← r.len]; exact h2
        rcases (show k = 0 ∨ k = 1 ∨ 2 ≤ k by omega) with hk | hk | hk
        · subst hk
          exact .inr (.inr ⟨_, _, rfl, rfl, SqT.of t, hne2, fun q hq => h.valT R .nil hq⟩)
        · subst hk
          refine .inr (.inl ⟨_, _, rfl, rfl, SqT.of t, ?_⟩)
          have e : (List.replicate (1 : Int).toNat xs).flatten = xs := by simp
          rw [e] at h
          exact h.val R (.tup t r)
        · exact .inl ⟨_, _, _, rfl, rfl, SqT.of t, hne2, hk, h1, hl2, fun q hq => h.valT R (reps_rep r _) hq⟩
    · exact h.elim
  · exact h.elim
theorem e_mulT (ha : EM X E a f) (hb : EM X E b g) : EM X E (.BinOp a .Mult b pos) (mBin oMulT f g) := e_bin (OpR.or op_repT (OpR.or op_repT1 op_repT0)) ok_mulT ha hb
end
theorem oMulT_tup {xs : List D} {k : Nat} {S : Hs} (h : xs ≠ []) (h1 : k ≤ 1000) (h2 : xs.length ≤ 1000) : oMulT (.tup xs) (.int (k : Int)) S = .ok (.tup (List.replicate k xs).flatten) S := by
  simp only [oMulT]
  rw [if_pos ⟨h, by omega, by omega, h2⟩, Int.toNat_natCast]
/-! a chain of comparisons as a test -/
section
variable {X : XP} {op op' : D → D → Hs → R D} {f g h : M} {l : Ls} {S : Hs} {x y z d : D} {Q : Bool → Hs → Prop}
def cbK3 (X : XP) (op' : D → D → Hs → R D) (y : D) (Q : Bool → Hs → Prop) : D → Hs → Prop := fun z S => Wp X (op' y z S) (cmK Q)
def cbK2 (X : XP) (op' : D → D → Hs → R D) (h : M) (y : D) (l : Ls) (Q : Bool → Hs → Prop) : D → Hs → Prop := fun d S => match d with
  | .bl true => Wp X (h l S) (cbK3 X op' y Q)
  | .bl false => Q false S
  | _ => False
def cbK1 (X : XP) (op op' : D → D → Hs → R D) (h : M) (x : D) (l : Ls) (Q : Bool → Hs → Prop) : D → Hs → Prop := fun y S => Wp X (op x y S) (cbK2 X op' h y l Q)
def cbK (X : XP) (op op' : D → D → Hs → R D) (g h : M) (l : Ls) (Q : Bool → Hs → Prop) : D → Hs → Prop := fun x S => Wp X (g l S) (cbK1 X op op' h x l Q)
theorem v_chnB : Wp X (mChnB op op' f g h l S) Q = Wp X (f l S) (cbK X op op' g h l Q) := by
  unfold mChnB; rw [v_bind]; congr 1; funext x S1; unfold bdK cbK; rw [v_bind]; congr 1; funext y S2; unfold bdK cbK1; rw [v_bind]; congr 1; funext d S3; unfold bdK cbK2
  cases d with
  | bl b =>
    cases b with
    | true =>
      dsimp only
      rw [v_bind]; congr 1; funext z S4; unfold bdK cbK3; rw [v_bind]; congr 1; funext d S5; unfold bdK cmK
      cases d <;> first | exact v_ok | exact v_bad
    | false => exact v_ok
  | _ => exact v_bad
theorem k_cb : cbK X op op' g h l Q x S = Wp X (g l S) (cbK1 X op op' h x l Q) := nr rfl
theorem k_cb1 : cbK1 X op op' h x l Q y S = Wp X (op x y S) (cbK2 X op' h y l Q) := nr rfl
theorem k_cb2t : cbK2 X op' h y l Q (.bl true) S = Wp X (h l S) (cbK3 X op' y Q) := nr rfl
theorem k_cb2f : cbK2 X op' h y l Q (.bl false) S = Q false S := nr rfl
theorem k_cb3 : cbK3 X op' y Q z S = Wp X (op' y z S) (cmK Q) := nr rfl
end
end Ly
set_option Elab.async false
set_option linter.all false
set_option maxRecDepth 100000
set_option maxHeartbeats 4000000
namespace Ly
open PySem PySem.Spec L2
open PyProof.Rows hiding St
/-! ### dict(enumerate(xs)) -/
def enumK {α : Type} (xs : List α) (n : Nat) : List (Key × α) := match xs with
  | [] => []
  | x :: r => (.inl (n : Int), x) :: enumK r (n + 1)
theorem enumK_len {α : Type} : ∀ (xs : List α) (n : Nat), (enumK xs n).length = xs.length
  | [], _ => rfl
  | _ :: r, n => by simp [enumK, enumK_len r]
theorem enumK_get {α : Type} : ∀ (xs : List α) (n i : Nat), (enumK xs n)[i]? = (xs[i]?).map fun x => (.inl ((n + i : Nat) : Int), x)
  | [], _, _ => by simp [enumK]
  | x :: r, n, 0 => by simp [enumK]
  | x :: r, n, i + 1 => by simp only [enumK, List.getElem?_cons_succ, enumK_get r]; rw [show n + 1 + i = n + (i + 1) by omega]
theorem enumK_keys {α : Type} : ∀ (xs : List α) (n : Nat) (k : Key), k ∈ (enumK xs n).map (·.1) → ∃ j : Nat, n ≤ j ∧ k = .inl (j : Int)
  | [], _, _, h => by simp [enumK] at h
  | x :: r, n, k, h => by
    simp only [enumK, List.map_cons, List.mem_cons] at h
    rcases h with h | h
    · exact ⟨n, Nat.le_refl _, h⟩
    · obtain ⟨j, h1, h2⟩ := enumK_keys r (n + 1) k h
      exact ⟨j, by omega, h2⟩
theorem enumK_nodup {α : Type} : ∀ (xs : List α) (n : Nat), ((enumK xs n).map (·.1)).Nodup
  | [], _ => by simp [enumK]
  | x :: r, n => by
    simp only [enumK, List.map_cons, List.nodup_cons]
    refine ⟨fun h => ?_, enumK_nodup r (n + 1)⟩
    obtain ⟨j, h1, h2⟩ := enumK_keys r (n + 1) _ h
    have := Sum.inl.inj h2
    omega
theorem enumK_KV : ∀ {xs : List V} {its : List Value} (n : Nat), Vals xs its → L2.KV (enumK xs n) (enumK its n) := by
  intro xs its n r
  induction r generalizing n with
  | nil => exact .nil
  | cons h _ ih => exact .cons ⟨rfl, h⟩ (ih (n + 1))
def tDictEnum (K : PySem.W.Frag) (te : TE) : TE := fun σ H Q => te σ H fun v H1 => ∃ (a : Addr) (xs : List V), v = .ref a ∧ SqL K H1 a xs ∧ ∀ q, H1 q = none → Q (.ref q) (upd H1 q (.dK (enumK xs 0)))
section
variable {X : Cx}
theorem pe_dictEnum {e : Expr} {te : TE} {p p2 pos pos2 : Pos} (hc : X.calm = true) (hg : Gl X "dict") (hm : X.mg "dict" = none) (hg2 : Gl X "enumerate") (hm2 : X.mg "enumerate" = none) (he : PE X e te)
    (hs : starEach [e] X.env = (false, eval e X.env) :: starEach [] X.env := by rfl)
    (hs2 : starEach [.Call (.Name "enumerate" p2) [e] [] pos2] X.env = (false, eval (.Call (.Name "enumerate" p2) [e] [] pos2) X.env) :: starEach [] X.env := by rfl) :
    PE X (.Call (.Name "dict" p) [.Call (.Name "enumerate" p2) [e] [] pos2] [] pos) (tDictEnum X.K te) := by
  refine ⟨fun pins s σ H Q I h => ?_⟩
  refine Call_ (ld_blt I hg hm PyProof.Rows.boot_dict (PyProof.Rows.callWith_type1 (args_cons (Call_ (ld_blt I hg2 hm2 boot_enumerate (PyProof.Rows.callWith_type1 (args_cons (thn (he.run pins s σ H _ I h) fun u s1 ⟨v, H1, I1, r1, q1⟩ => args_nil ?_) hs) hs rfl))) hs2) hs2 rfl))
  obtain ⟨a, xs, ev, hq, q⟩ := q1
  subst ev
  obtain rfl : u = Value.ref a := r1
  obtain ⟨its, rv, p', hz⟩ := I1.list hq
  refine call_enumerate_list p'.isList fun h' he hit hsz hk => args_nil ?_
  have I2 : Inv X pins σ H1 { s1 with heap := h' } := I1.kept (t' := s1.toks) hk
  have hl := p'.isList
  have hal : a < s1.heap.objs.size := by obtain ⟨ol, hol, _⟩ := id hl; exact Heap.lt_size hol
  have hl2 : h'.IsList a its.toArray := hl.at fun o x => hk _ o x
  have n1 : s1.heap.objs.size + 1 ≠ s1.heap.objs.size := Nat.succ_ne_self _
  have n2 : a ≠ s1.heap.objs.size + 1 := Nat.ne_of_lt (Nat.lt_succ_of_lt hal)
  have n3 : a ≠ s1.heap.objs.size := Nat.ne_of_lt hal
  have hlen : its.toArray.size = xs.length := by rw [List.size_toArray, ← rv.length]
  refine PySem.call_dict_pairs (s := { s1 with heap := h' }) (knd := mixKind X.prog X.w) (kvs := enumK its 0) (PySem.PairArg.enumerate (s1.heap.objs.size + 1) s1.heap.objs.size a n1 n2 n3 its.toArray) (I1.ok.hd hc) ⟨⟨_, he⟩, hit, hl2⟩ ?_ (by rw [hlen]; exact hz) fun h2 tk hd hk2 => ?_
  · refine ⟨by rw [enumK_len, List.size_toArray], fun i key v hR => ?_⟩
    obtain ⟨⟨t, rfl⟩, hv⟩ := hR
    refine ⟨.inl (i : Int), ?_, kV_is ⟨t, rfl⟩⟩
    rw [enumK_get]
    have : its[i]? = some v := by simpa using hv
    rw [this]; simp
  · rw [merged_nil_of_nodup _ (enumK_nodup its 0)] at hd
    have hbig : (h'.objs.size == sysModules) = false := beq_eq_false_iff_ne.mpr (Nat.ne_of_gt I2.big)
    have I3 : Inv X pins σ (upd H1 h'.objs.size (.dK (enumK xs 0))) { s1 with heap := h2, toks := tk } := I2.turnedNew (t' := tk) (ch := [s1.heap.objs.size + 1, s1.heap.objs.size]) hk2 (fun b hb => by
        have hle : s1.heap.objs.size ≤ b := by
          simp only [List.mem_cons, List.not_mem_nil, or_false] at hb
          rcases hb with z | z
          · rw [z]; exact Nat.le_add_right _ _
          · rw [z]; exact Nat.le_refl _
        exact I1.fpOk hle (I1.hok.fresh hle)) (Nat.le_refl _) (show ObjOk X.prog X.w _ _ _ (.dK (enumK xs 0)) from ⟨by rw [enumK_len]; exact hz, hbig, enumK its 0, enumK_KV 0 rv, hd⟩)
    exact ⟨.ref h'.objs.size, _, I3, rfl, q _ (I2.hok.fresh (Nat.le_refl _))⟩
end
/-! the mirror -/
def enumDs (ds : List D) : List (Key × D) := enumK ds 0
def oDE (x : D) (S : Hs) : R D := match seqD x S with
  | some ds => .ok (.ref S.length) (S ++ [.dic (enumDs ds)])
  | none => .bad
section
variable {X : Cx} {E : St → XK} {e : Expr} {f : M} {p p2 pos pos2 : Pos}
theorem enumK_V {K : PySem.W.Frag} {p : Nat → Addr} {n : Nat} {H : Hp} : ∀ {ds : List D} {vs : List V} (j : Nat), Reps K p n H ds vs → (enumK vs j).map (·.1) = (enumK ds j).map (·.1) ∧ Reps K p n H ((enumK ds j).map (·.2)) ((enumK vs j).map (·.2))
  | [], [], _, _ => ⟨rfl, .nil⟩
  | [], _ :: _, _, r => by cases r
  | _ :: _, [], _, r => by cases r
  | d :: ds, v :: vs, j, r => by
    cases r with
    | cons r0 rs =>
    obtain ⟨h1, h2⟩ := enumK_V (j + 1) rs
    exact ⟨by simp only [enumK, List.map_cons, h1], .cons r0 h2⟩
theorem e_dictEnum (hc : X.calm = true) (hm : X.mg "dict" = none) (hm2 : X.mg "enumerate" = none) (ha : EM X E e f) (hg : Gl X "dict" := by rfl) (hg2 : Gl X "enumerate" := by rfl)
    (hs : starEach [e] X.env = (false, eval e X.env) :: starEach [] X.env := by rfl)
    (hs2 : starEach [.Call (.Name "enumerate" p2) [e] [] pos2] X.env = (false, eval (.Call (.Name "enumerate" p2) [e] [] pos2) X.env) :: starEach [] X.env := by rfl) :
    EM X E (.Call (.Name "dict" p) [.Call (.Name "enumerate" p2) [e] [] pos2] [] pos) (mUn oDE f) :=
  ⟨(pe_dictEnum hc hg hm hg2 hm2 ha.pe hs hs2).weak fun s H Q ⟨p, l, S, R, L, h⟩ => T.of (k := oDE) R L h fun p1 S1 H1 d v R1 x1 L1 r1 h1 => by
    unfold oDE at h1
    split at h1
    · rename_i ds q
      obtain ⟨a, vs, rfl, hs, rv⟩ := seq_V R1 r1 q
      refine ⟨a, vs, rfl, hs, fun q hq => h1.new R1 hq ?_⟩
      obtain ⟨g1, g2⟩ := enumK_V 0 rv
      exact ⟨_, upd_same, g1, g2.ext (ext_new hq) _ _⟩
    · exact h1.elim⟩
end
theorem oDE_lst {S : Hs} {i : Nat} {ds : List D} (h : S[i]? = some (.lst ds)) : oDE (.ref i) S = .ok (.ref S.length) (S ++ [.dic (enumDs ds)]) := by simp [oDE, seqD, h]
end Ly
set_option Elab.async false
set_option linter.all false
set_option maxRecDepth 100000
namespace Ly
open PySem PySem.Spec L2
open PyProof.Rows hiding St
/-! ### o.f as one of several targets -/
def tgFld (K : PySem.W.Frag) (to : TE) (f : Str) : TG := fun v σ H Q => to σ H fun o H1 => ∃ a C dx fs, o = .ref a ∧ H1 a = some (.ins C dx fs) ∧ Cls K C ∧ NoAttr K C f ∧ fs.length < 1000 ∧ Q σ (upd H1 a (.ins C dx (putF f v fs)))
section
variable {X : Cx} {E : St → XK} {o : Expr} {eo : M} {to : TE} {f : Str} {cs : List Addr} {pos : Pos}
theorem pg_fld (ho : PE X o to)
    (ha : ∀ v, assign (.Attribute o f pos) X.env v = (do
      let ov ← holding [v] (eval o X.env)
      standAt pos.atName
      holding [v, ov] (setAttr ov f v)
      release [v, ov] []) := by intro _; rfl) : PG X (.Attribute o f pos) (tgFld X.K to f) := by
  refine ⟨fun pins s σ H v u Q I r h => ?_⟩
  rw [ha]
  refine wpAny_bind (wpAny_holding (thn (ho.run pins s σ H _ I h) fun ov s1 ⟨x, H1, I1, r1, q1⟩ => ?_))
  obtain ⟨a, C, dx, fs, rfl, ea, c, n, l, q2⟩ := q1
  obtain rfl : ov = Value.ref a := r1
  refine wpAny_bind (wpAny_standAt (wpAny_bind (wpAny_holding (setattr_ok I1 ea c n l r fun s3 I3 => ?_))))
  exact wpAny_release ⟨σ, _, I3, q2⟩
def gFld (cs : List Addr) (f : Str) (o : M) : MG := fun d l S => (o l S).bind fun x S2 => match x with
  | .ref i => match S2[i]? with
    | some (.ins C fs) => if C ∈ cs ∧ fs.length < 1000 then .ok l (S2.set i (.ins C (putD f d fs))) else .bad
    | _ => .bad
  | _ => .bad
theorem g_fld (k : FOk X.K cs f) (ho : EM X E o eo)
    (ha : ∀ v, assign (.Attribute o f pos) X.env v = (do
      let ov ← holding [v] (eval o X.env)
      standAt pos.atName
      holding [v, ov] (setAttr ov f v)
      release [v, ov] []) := by intro _; rfl) : GM X E (.Attribute o f pos) (gFld cs f eo) :=
  ⟨(pg_fld ho.pe ha).weak fun v s H Q ⟨p, l, S, d, R, L, r, h⟩ => T.of R L h fun p2 S2 H2 d2 v2 R2 x2 L2 r2 h2 => by
    cases r2 with
    | ref hi =>
      dsimp only at h2
      split at h2
      · rename_i C fs q
        split at h2
        · rename_i hC
          obtain ⟨dx, ks, g1, g2, g3⟩ := R2.ob _ _ q
          have hlt := Real.lt q
          obtain ⟨k1, k2⟩ := fs_put (f := f) (r.ext x2 _ _) g2 g3
          have hks : ks.length = fs.length := by have := congrArg List.length g2; simpa using this
          refine ⟨_, C, dx, ks, rfl, g1, (k C hC.1).1, (k C hC.1).2, by rw [hks]; exact hC.2, ?_⟩
          have xu : Ext S2.length S2.length p2 p2 H2 (upd H2 (p2 _) (.ins C dx (putF f v ks))) := ext_upd (R2.notup hlt)
          have R3 := R2.put hlt (o := .ins C (putD f d fs)) (u := .ins C dx (putF f v ks)) ⟨dx, _, upd_same, k1, k2.ext xu _ _⟩
          have L3 := L2.ext xu
          exact Post.ok h2 (by rw [List.length_set]; exact xu) R3 s (by rw [List.length_set]; exact L3)
        · exact h2.elim
      · exact h2.elim
    | _ => exact h2.elim⟩
end
section
variable {X : XP} {cs : List Addr} {f : Str} {o : M} {l : Ls} {S : Hs} {i : Nat} {C : Addr} {fs : List (Str × D)} {d x : D} {Q : Ls → Hs → Prop}
def gflK (cs : List Addr) (f : Str) (d : D) (l : Ls) (Q : Ls → Hs → Prop) : D → Hs → Prop := fun x S2 => match x with
  | .ref i => match S2[i]? with
    | some (.ins C fs) => C ∈ cs ∧ fs.length < 1000 ∧ Q l (S2.set i (.ins C (putD f d fs)))
    | _ => False
  | _ => False
theorem v_gFld : Wp X (gFld cs f o d l S) Q = Wp X (o l S) (gflK cs f d l Q) := by
  unfold gFld; rw [v_bind]; congr 1; funext x S2; unfold bdK gflK
  cases x with
  | ref i =>
    simp only []
    cases S2[i]? with
    | none => exact v_bad
    | some u =>
      cases u with
      | ins C fs =>
        simp only []
        by_cases h : C ∈ cs
        · by_cases h2 : fs.length < 1000
          · simp only [h, h2, and_self, if_true, true_and]; exact v_ok
          · simp only [h, h2, and_false, if_false, false_and]; exact v_bad
        · simp only [h, if_false, false_and]; exact v_bad
      | _ => exact v_bad
  | _ => exact v_bad
theorem k_gfl (h : S[i]? = some (.ins C fs)) : gflK cs f d l Q (.ref i) S = (C ∈ cs ∧ fs.length < 1000 ∧ Q l (S.set i (.ins C (putD f d fs)))) := by simp only [gflK, h]
end
/-! ### written tuples of numbers and texts -/
theorem flats_vals : ∀ {us : List Value} {ds : List D}, us.map absV = ds.map flatC → (ds.all fun d => (flatC d).isSome) = true → ∃ vs : List V, Vals vs us ∧ ∀ K p n H, Reps K p n H ds vs
  | [], [], _, _ => ⟨[], .nil, fun _ _ _ _ => .nil⟩
  | [], _ :: _, h, _ => by cases h
  | _ :: _, [], h, _ => by cases h
  | u :: us, d :: ds, h, k => by
    simp only [List.map_cons, List.cons.injEq] at h
    simp only [List.all_cons, Bool.and_eq_true] at k
    obtain ⟨vs, h1, h2⟩ := flats_vals h.2 k.2
    cases d with
    | int i =>
      cases u <;> first | (have e := h.1; simp only [absV, flatC] at e; cases e; exact ⟨V.int _ :: vs, .cons ⟨_, rfl⟩ h1, fun K p n H => .cons (.int _) (h2 K p n H)⟩) | (have e := h.1; simp only [absV, flatC] at e; cases e)
    | str i =>
      cases u <;> first | (have e := h.1; simp only [absV, flatC] at e; cases e; exact ⟨V.str _ :: vs, .cons ⟨_, rfl⟩ h1, fun K p n H => .cons (.str _) (h2 K p n H)⟩) | (have e := h.1; simp only [absV, flatC] at e; cases e)
    | _ => simp [flatC] at k
theorem gv_flats {K : PySem.W.Frag} {mg : Str → Option Value} {x : Str} {a : Addr} {od : Option Addr} {its : Array Value} {n : Nat} {sl : Array (Option Value)} {ds : List D} (h : mg x = some (.ref a)) (l : K.lookup a = some ⟨.type "tuple", od, .seq its n, sl⟩)
    (e : its.toList.map absV = ds.map flatC) (k : (ds.all fun d => (flatC d).isSome) = true := by rfl) (hz : ds.length ≤ sizeLine := by decide) : GV K mg x (.wt ds) := by
  obtain ⟨vs, h1, h2⟩ := flats_vals e k
  refine ⟨.ref a, .ref a, h, rfl, fun p m H => .wt (xs := vs) ⟨_, its, n, l, rfl, rfl, ?_, h1⟩ (h2 K p m H)⟩
  have := h1.length
  have e2 := congrArg List.length e
  simp only [List.length_map, Array.length_toList] at this e2
  omega
theorem kv_flats {K : PySem.W.Frag} {a : Addr} {od : Option Addr} {its : Array Value} {n : Nat} {sl : Array (Option Value)} {ds : List D} (l : K.lookup a = some ⟨.type "tuple", od, .seq its n, sl⟩)
    (e : its.toList.map absV = ds.map flatC) (k : (ds.all fun d => (flatC d).isSome) = true := by rfl) (hz : ds.length ≤ sizeLine := by decide) : KV K (.ref a) (.wt ds) := by
  obtain ⟨u, v, h1, h2, h3⟩ := gv_flats (K := K) (mg := fun _ => some (.ref a)) (x := "x") rfl l e k hz
  cases h1
  exact ⟨v, h2, h3⟩
end Ly
set_option Elab.async false
set_option linter.all false
set_option maxRecDepth 100000
set_option maxHeartbeats 4000000
namespace Ly
open PySem PySem.Spec L2
open PyProof.Rows hiding St
/-! ### xs.extend(a tuple) -/
theorem extT (l : Addr) (items : Array Value) (n : Nat) (b : Addr) (items2 : Array Value) (n2 : Nat) (dd : Option Addr) (sl : Array (Option Value)) (hs0 : ¬(!items.isEmpty && Builtin.List.listTooLong (items.size + items2.size)) = true) (hs1 : items.size ≤ sizeLine) (hs2 : items.size + items2.size ≤ sizeLine + 1) :
    Meets (Builtin.«list.extend» ⟨[.ref l, .ref b], []⟩) (fun _ R s => s.heap.get? l = some { cls := .type "list", dict := none, data := .seq items n, slots := #[] } ∧ s.heap.get? b = some { cls := .type "tuple", dict := dd, data := .seq items2 n2, slots := sl } ∧ R (.ok (.ret Value.none)) { s with heap := s.heap.update l (Obj.mapSeq fun x => x ++ items2), toks := s.toks }) :=
  .of_wp fun prog w A R s h => by
    obtain ⟨hp, g, d, tk, os⟩ := s; obtain ⟨hl, hb, h⟩ := h; have f1 := AutoSeq1.idx_int; have f2 := AutoSeq1.sub_tuple_tuple; have f3 := AutoSeq1.sub_list_list; have f4 := AutoSeq1.sub_tuple_list; have f5 := AutoSeq1.sub_list_tuple;
    have hz' : (items ++ items2).size ≤ sizeLine + 1 := by rw [Array.size_append]; exact hs2
    wp_walk using (wpAny_updateSeq hl rfl (hz := hs1) (_hz' := hz')), wpAny_loadPart' hl, wpAny_loadPart' hb; exact ⟨_, rfl, h⟩
def rExtendT (K : PySem.W.Frag) : V → List V → Hp → VK → Prop := fun x vs H Q => ∃ l b xs zs, x = .ref l ∧ vs = [.ref b] ∧ H l = some (.lst xs) ∧ SqT K H b zs ∧ xs.length + zs.length ≤ sizeLine ∧ Q .non (upd H l (.lst (xs ++ zs)))
section
variable {X : Cx}
theorem mt_extendT : MtR X "list.extend" (rExtendT X.K) := by
  intro pins s σ H x vs v us Q I rx rv h
  obtain ⟨l, b, xs, zs, rfl, rfl, hH, hB, hz, q⟩ := h
  cases rx
  obtain ⟨u, rfl, ru⟩ := rv.one
  cases ru
  obtain ⟨z, its, n, r, hl, e⟩ := I.lstM hH
  obtain ⟨its2, r2, ⟨⟨cls, dd, data, sl⟩, ho, hc, n2, hd⟩, hs⟩ := I.tuple hB
  simp only at hc hd
  subst hc hd
  have hl2 : its2.length = zs.length := r2.length.symm
  have hsz : its.toArray.size + its2.toArray.size ≤ sizeLine := by rw [List.size_toArray, List.size_toArray]; omega
  have hlong : ¬ (!its.toArray.isEmpty && Builtin.List.listTooLong (its.toArray.size + its2.toArray.size)) = true := by
    rw [notLongL hsz, Bool.and_false]
    exact Bool.false_ne_true
  refine call_meets F.slot_list_extend ⟨_, e, rfl⟩ F.entry_list_extend (F.args_list_extend_2 _ _)
    (extT l its.toArray n b its2.toArray n2 dd sl hlong (by rw [List.size_toArray]; omega) (by omega)) ⟨e, ho, ?_⟩
  refine ⟨.non, _, I.lset (its' := its ++ its2) hH e (by simp) (r.append r2) ?_, rfl, q⟩
  rw [List.length_append]
  omega
end
def oExtendA (x : D) (ds : List D) (S : Hs) : R D := match x, ds with
  | .ref i, [.ref j] => oExtend (.ref i) [.ref j] S
  | .ref i, [.tup ys] => match S[i]? with
    | some (.lst xs) => if xs.length + ys.length ≤ sizeLine then .ok .non (S.set i (.lst (xs ++ ys))) else .bad
    | _ => .bad
  | _, _ => .bad
theorem ok_extendA {K : PySem.W.Frag} {E : St → XK} : MtOk K E (fun x xs H Q => rExtend x xs H Q ∨ rExtendT K x xs H Q) oExtendA := by
  intro p S H x v ds vs Q R rx r h
  unfold oExtendA at h
  split at h
  · exact .inl (ok_extend p S H _ v _ vs Q R rx r h)
  · split at h
    · rename_i xs q
      split at h
      · rename_i hl
        obtain ⟨us, h1, r1⟩ := R.lst q
        cases rx
        cases r with
        | cons r0 rs =>
        cases rs
        cases r0 with
        | @tup ta td tx t r2 =>
        have hi := Real.lt q
        refine .inr ⟨_, _, us, _, rfl, rfl, h1, SqT.of t, by rw [← r1.len, ← r2.len]; exact hl, h.put R hi ?_ .non⟩
        have x1 : Ext S.length S.length p p H (upd H _ (HO.lst (us ++ tx))) := ext_upd (R.notup hi)
        exact ⟨_, upd_same, (r1.ext x1 _ _).append (r2.ext x1 _ _)⟩
      · exact h.elim
    · exact h.elim
  · exact h.elim
theorem mt_extendA {X : Cx} : MtR X "list.extend" (fun x xs H Q => rExtend x xs H Q ∨ rExtendT X.K x xs H Q) := MtR.or mt_extend mt_extendT
end Ly
set_option Elab.async false
set_option linter.all false
set_option maxRecDepth 100000
namespace Ly
open PySem PySem.Spec L2
open PyProof.Rows hiding St
local macro_rules | `(tactic| simp_arith [$ls,*]) => `(tactic| simp only [Ly.line_le, Ly.atX_no, Ly.v_ok, Ly.v_bad, Ly.v_bind, Ly.k_bd, Ly.v_at, Ly.v_bin, Ly.k_bi, Ly.k_bi2, Ly.v_var, Ly.v_c, Ly.v_un, Ly.k_un, Ly.v_if, Ly.k_ife, Ly.v_and, Ly.k_and, Ly.k_and2, Ly.v_or, Ly.k_or, Ly.k_or2, Ly.v_tup, Ly.k_tup, Ly.v_lst, Ly.k_lst, Ly.v_call, Ly.k_ca, Ly.v_fn, Ly.k_fn, Ly.v_bm, Ly.k_bm, Ly.k_bm2, Ly.v_sl, Ly.k_sl, Ly.k_sl2, Ly.k_sl3, Ly.v_ixK, Ly.k_ixk, Ly.v_inK, Ly.k_ink, Ly.v_notinK, Ly.k_nink, Ly.v_getK2, Ly.k_gk2, Ly.k_gk, Ly.v_get2, Ly.k_g2, Ly.k_g22, Ly.k_g23, Ly.v_nil, Ly.v_cons, Ly.k_co, Ly.k_co2, Ly.v_no, Ly.v_some, Ly.k_so, Ly.k_cm, Ly.v_cmp, Ly.v_tru, Ly.k_tr, Ly.v_notB, Ly.k_no, Ly.v_andB, Ly.k_an, Ly.v_orB, Ly.k_orb, Ly.v_yes, Ly.v_inKB, Ly.k_inkB, Ly.v_notinKB, Ly.k_ninkB, Ly.v_set, Ly.k_st, Ly.v_expr, Ly.k_ex, Ly.v_ret, Ly.k_re, Ly.v_retN, Ly.v_pass, Ly.v_brk, Ly.v_cnt, Ly.v_seq, Ly.k_sq_nx, Ly.k_sq_rt, Ly.k_sq_bk, Ly.k_sq_ct, Ly.v_ifS, Ly.k_ifs, Ly.v_asg, Ly.k_as, Ly.k_as2, Ly.v_aug, Ly.k_au, Ly.v_for, Ly.k_fo, Ly.v_it, Ly.k_it, Ly.k_ij, Ly.v_rng1, Ly.v_rng2, Ly.v_enum, Ly.v_zip, Ly.v_gN, Ly.v_gsN, Ly.v_gsC, Ly.k_gc, Ly.v_gT, Ly.v_gTw, Ly.v_gSb, Ly.k_gsb, Ly.k_gsb2, Ly.k_gsb3, Ly.k_en_rt, Ly.k_en_nx, Ly.k_tu_nx, Ly.k_tu_ct, Ly.k_tu_bk, Ly.k_tu_rt, Ly.v_lc, Ly.k_lc, Ly.v_augI, Ly.k_ag, Ly.k_ag2, Ly.k_ag3, Ly.k_ag4, Ly.k_ag5, Ly.v_del, Ly.k_dl, Ly.k_dl2, Ly.v_setd, Ly.v_pop2, Ly.k_d3, Ly.k_d32, Ly.k_d33, Ly.v_get1, Ly.k_g1, Ly.k_g12, Ly.v_rg1, Ly.k_rg, Ly.v_rg2, Ly.k_rg2, Ly.k_rg22, Ly.v_dicK, Ly.v_dicT, Ly.v_dc, Ly.k_dc, List.getElem?_cons_zero, List.getElem?_cons_succ, List.set_cons_zero, List.set_cons_succ, List.length_cons, List.length_nil, List.map_cons, List.map_nil, List.cons_append, List.nil_append, List.replicate, if_true, if_false, Bool.false_eq_true, Bool.not_true, Bool.not_false, Bool.true_and, Bool.false_and, decide_true, decide_false, decide_eq_true_eq, Nat.zero_add, Nat.reduceAdd, Nat.reduceLeDiff, true_and, and_true, $ls,*])
/-! ### draws of the second kind: a dict with the draws and the place -/
def b_next : MS := (mSeq (mAugI oAddI (mVar 0) (mC (.str "at")) (mC (.int 1)))
    (mSeq (mIfS (mCmp oGt (mBin oIx (mVar 0) (mC (.str "at"))) (mCall bLen (lCons (mBin oIx (mVar 0) (mC (.str "draws"))) lNil))) (mRet (mC (.int 0))) mPass)
    (mRet (mBin oMod (mCall bInt (lCons (mBin oIx (mBin oIx (mVar 0) (mC (.str "draws"))) (mBin oSub (mBin oIx (mVar 0) (mC (.str "at"))) (mC (.int 1)))) lNil)) (mVar 1)))))
def m_next : MD := mDef 2 0 b_next
def nxK (j : Nat) (a : Int) : List (Key × D) := [(.inr "draws", .ref j), (.inr "at", .int a)]
structure Nxt (S : Hs) (i j : Nat) (row : List Int) (a : Int) : Prop where
  d : S[i]? = some (.dic (nxK j a))
  r : S[j]? = some (.lst (row.map D.int))
  ne : i ≠ j
  nn : 0 ≤ a
def NxtA (S : Hs) (i j : Nat) (row : List Int) : Prop := ∃ a, Nxt S i j row a
theorem key_str {x : Str} : (D.str x).key = some (.inr x) := nr rfl
theorem key_int {x : Int} : (D.int x).key = some (.inl x) := nr rfl
theorem nxK_at {j : Nat} {a : Int} : getK (nxK j a) (.inr "at") = some (.int a) := by simp [getK, nxK, ofString_inj]
theorem nxK_draws {j : Nat} {a : Int} : getK (nxK j a) (.inr "draws") = some (.ref j) := by simp [getK, nxK]
theorem nxK_set {j : Nat} {a b : Int} : setK (nxK j a) (.inr "at") (.int b) = nxK j b := by simp [setK, nxK, ofString_inj]
theorem oIx_dic {S : Hs} {i : Nat} {kvs : List (Key × D)} {y d : D} {k : Key} (h : S[i]? = some (.dic kvs)) (hk : y.key = some k) (hg : getK kvs k = some d) : oIx (.ref i) y S = .ok d S := by
  simp [oIx, h, dGet, hk, hg]
theorem dGet_dic {S : Hs} {i : Nat} {kvs : List (Key × D)} {y : D} {k : Key} (h : S[i]? = some (.dic kvs)) (hk : y.key = some k) : dGet (.ref i) y S = some (getK kvs k) := by
  simp [h, dGet, hk]
theorem oSet_dic {S : Hs} {i : Nat} {kvs : List (Key × D)} {y d : D} {k : Key} (h : S[i]? = some (.dic kvs)) (hk : y.key = some k) (hl : kvs.length < sizeLine) : oSet (.ref i) y d S = .ok () (S.set i (.dic (setK kvs k d))) := by
  simp [oSet, h, hk, hl]
theorem isDic_dic {S : Hs} {i : Nat} {kvs : List (Key × D)} (h : S[i]? = some (.dic kvs)) : isDic (.ref i) S = true := by simp [isDic, h]
theorem lenD_lst {S : Hs} {i : Nat} {ds : List D} (h : S[i]? = some (.lst ds)) : lenD (.ref i) S = some ds.length := by simp [lenD, h]
theorem bLen_lst {S : Hs} {i : Nat} {ds : List D} (h : S[i]? = some (.lst ds)) : bLen [.ref i] S = .ok (.int ds.length) S := by simp [bLen, lenD, h]
theorem bLen_tup {S : Hs} {ds : List D} : bLen [.tup ds] S = .ok (.int ds.length) S := nr rfl
theorem oIx_lst {S : Hs} {i : Nat} {ds : List D} {k : Int} {d : D} (h : S[i]? = some (.lst ds)) (h0 : 0 ≤ k) (h1 : k < (ds.length : Int)) (hd : ds[k.toNat]? = some d) : oIx (.ref i) (.int k) S = .ok d S :=
  oIx_seq (by simp [seqD, h]) h0 h1 hd
theorem oGt_int {a b : Int} {S : Hs} : oGt (.int a) (.int b) S = .ok (.bl (decide (b < a))) S := nr rfl
theorem oGe_int {a b : Int} {S : Hs} : oGe (.int a) (.int b) S = .ok (.bl (decide (b ≤ a))) S := nr rfl
theorem oLe_int {a b : Int} {S : Hs} : oLe (.int a) (.int b) S = .ok (.bl (decide (a ≤ b))) S := nr rfl
theorem bInt_int {a : Int} {S : Hs} : bInt [.int a] S = .ok (.int a) S := nr rfl
theorem oAddI_int {a b : Int} {S : Hs} : oAddI (.int a) (.int b) S = .ok (.int (a + b)) S := nr rfl
theorem oMod_int {a b : Int} {S : Hs} (h : 0 < b) : oMod (.int a) (.int b) S = .ok (.int (a % b)) S := by simp [oMod, h]
theorem next_ok {S : Hs} {i j : Nat} {row : List Int} {many : Int} (h : NxtA S i j row) (hm : 0 < many) :
    Wp NoX (m_next [.ref i, .int many] S) fun v S' => ∃ k, v = .int k ∧ 0 ≤ k ∧ k < many ∧ NxtA S' i j row ∧ Kp [i] S S' := by
  obtain ⟨a, h⟩ := h
  refine wp_def0 rfl ?_
  unfold b_next
  have hd := h.d
  have hd2 : (S.set i (.dic (nxK j (a + 1))))[i]? = some (.dic (nxK j (a + 1))) := get_put hd
  have hr2 : (S.set i (.dic (nxK j (a + 1))))[j]? = some (.lst (row.map D.int)) := by rw [List.getElem?_set_ne h.ne]; exact h.r
  have nn := h.nn
  have hK : Kp [i] S (S.set i (.dic (nxK j (a + 1)))) := Kp.set (by simp)
  have hN : NxtA (S.set i (.dic (nxK j (a + 1)))) i j row := ⟨a + 1, hd2, hr2, h.ne, by omega⟩
  simp_arith [dGet_dic hd key_str, nxK_at, oAddI_int, isDic_dic hd, oSet_dic hd key_str (show (nxK j a).length < sizeLine from (by decide : (2:Nat) < sizeLine)), nxK_set, oIx_dic hd2 key_str nxK_at, oIx_dic hd2 key_str nxK_draws, bLen_lst hr2, oGt_int]
  by_cases hl : ((row.map D.int).length : Int) < a + 1
  · simp_arith [hl]
    exact ⟨0, rfl, by omega, hm, hN, hK⟩
  · have hx : oIx (.ref j) (.int (a + 1 - 1)) (S.set i (.dic (nxK j (a + 1)))) = .ok (.int (row.getD a.toNat 0)) (S.set i (.dic (nxK j (a + 1)))) := by
      simp only [List.length_map] at hl
      refine oIx_lst hr2 (by omega) (by simp; omega) ?_
      have e : (a + 1 - 1).toNat = a.toNat := by omega
      have : a.toNat < row.length := by omega
      rw [e]; simp [List.getD, List.getElem?_eq_getElem this]
    simp_arith [hl, oIx_dic hd2 key_str nxK_draws, oIx_dic hd2 key_str nxK_at, oSub_int, hx, bInt_int, oMod_int hm]
    exact ⟨_, rfl, Int.emod_nonneg _ (by omega), Int.emod_lt_of_pos _ hm, hN, hK⟩
/-! ### the draws themselves -/
def lb_dr0 : MS := (mIfS (mCmp oGt (mVar 6) (mC (.int 0))) (mSeq (mExpr (mBM "list" oAppend (mVar 2) (lCons (mBin oMod (mCall bInt (lCons (mVar 6) lNil)) (mC (.int 997))) lNil)))
    (mSet 6 (mBin oFdiv (mVar 6) (mC (.int 997))))) mPass)
noncomputable def lb_dr1 : MS := (mSeq (mSet 5 (mCall bAbs (lCons (mCall bInt (lCons (mBin oIx (mVar 0) (mVar 4)) lNil)) lNil)))
    (mSeq (mSet 3 (mBin oMod (mCall bInt (lCons (mBin oAdd (mBin oAdd (mBin oMul (mVar 3) (mC (.int 48271))) (mBin oMod (mVar 5) (mC (.int 1000003)))) (mVar 4)) lNil)) (mC (.int 65537))))
    (mSeq (mSet 6 (mC (.int 0)))
    (mSeq (mIfS (mCmp oGe (mVar 5) (mBin oPow (mC (.int 10)) (mC (.int 18)))) (mSet 6 (mVar 5)) (mSeq (mExpr (mBM "list" oAppend (mVar 2) (lCons (mBin oMod (mCall bInt (lCons (mVar 5) lNil)) (mC (.int 997))) lNil)))
    (mExpr (mBM "list" oAppend (mVar 2) (lCons (mBin oMod (mBin oMod (mCall bInt (lCons (mBin oAdd (mBin oMul (mVar 3) (mC (.int 69621))) (mC (.int 5))) lNil)) (mC (.int 65521))) (mC (.int 997))) lNil)))))
    (mFor (mRng1 (lCons (mC (.int 60)) lNil)) (gN 7) lb_dr0)))))
noncomputable def lb_dr2 : MS := (mSeq (mSet 3 (mBin oMod (mCall bInt (lCons (mBin oAdd (mBin oAdd (mBin oMul (mVar 3) (mC (.int 16807))) (mVar 4)) (mC (.int 1))) lNil)) (mC (.int 65537))))
    (mExpr (mBM "list" oAppend (mVar 2) (lCons (mBin oMod (mCall bInt (lCons (mVar 3) lNil)) (mC (.int 997))) lNil))))
noncomputable def b_draws : MS := (mSeq (mSet 2 (mLst lNil))
    (mSeq (mSet 3 (mC (.int 7)))
    (mSeq (mFor (mRng1 (lCons (mCall bLen (lCons (mVar 0) lNil)) lNil)) (gN 4) lb_dr1)
    (mSeq (mFor (mRng1 (lCons (mVar 1) lNil)) (gN 4) lb_dr2)
    (mRet (mSl (mVar 2) oNo (oSome (mVar 1))))))))
/-- a list of numbers that is newer than S0 -/
def OutL (S0 : Hs) (q n : Nat) (S : Hs) : Prop := ∃ row : List Int, S[q]? = some (.lst (row.map D.int)) ∧ row.length ≤ n ∧ Kp [] S0 S ∧ S0.length ≤ q
theorem hasTy_lst {S : Hs} {i : Nat} {ds : List D} (h : S[i]? = some (.lst ds)) : hasTy "list" (.ref i) S = true := by simp [hasTy, h]
theorem oAppend_lst {S : Hs} {i : Nat} {ds : List D} {d : D} (h : S[i]? = some (.lst ds)) (hl : ds.length < sizeLine) : oAppend (.ref i) [d] S = .ok .non (S.set i (.lst (ds ++ [d]))) := by simp [oAppend, h, hl]
theorem OutL.push {S0 S : Hs} {q n : Nat} {row : List Int} {v : Int} (h : S[q]? = some (.lst (row.map D.int))) (hl : row.length ≤ n) (k : Kp [] S0 S) (hq : S0.length ≤ q) : OutL S0 q (n + 1) (S.set q (.lst (row.map D.int ++ [.int v]))) :=
  ⟨row ++ [v], by simp [get_put h], by simp; omega, k.setNew hq, hq⟩
theorem OutL.mono {S0 S : Hs} {q n m : Nat} (h : OutL S0 q n S) (hm : n ≤ m) : OutL S0 q m S := by
  obtain ⟨row, a, b, c, d⟩ := h; exact ⟨row, a, by omega, c, d⟩
theorem oFdiv_int {a b : Int} {S : Hs} (h : 0 < b) (h2 : b.natAbs.log2 < 9000) : oFdiv (.int a) (.int b) S = .ok (.int (a / b)) S := by simp [oFdiv, h, h2]
theorem oMul_int {a b : Int} {S : Hs} (h : IntMulOk a b) : oMul (.int a) (.int b) S = .ok (.int (a * b)) S := by simp [oMul, h]
theorem bAbs_int {a : Int} {S : Hs} : bAbs [.int a] S = .ok (.int (if a < 0 then -a else a)) S := nr rfl
theorem dr0_ok {S0 : Hs} {q n : Nat} {x o1 o3 o4 o5 o7 : Option D} {rest : Int} {S : Hs} (hn : n ≤ 100000) (h : OutL S0 q n S) :
    Wp NoX (fLoop (.rng 0 60) (gN 7) lb_dr0 0 [x, o1, some (.ref q), o3, o4, o5, some (.int rest), o7] S) fun r S' => ∃ o6 o7, r = .nx [x, o1, some (.ref q), o3, o4, o5, o6, o7] ∧ OutL S0 q (n + 60) S' := by
  refine wp_rng (fun k l S' => ∃ (rest : Int) (o7 : Option D), l = [x, o1, some (.ref q), o3, o4, o5, some (.int rest), o7] ∧ OutL S0 q (n + k) S') ⟨rest, o7, rfl, h⟩ ?_ ?_
  · rintro k l S' hk ⟨rest, o7, rfl, h⟩
    unfold lb_dr0
    simp_arith [oGt_int]
    obtain ⟨row, h1, h2, h3, h4⟩ := h
    have hb : (row.map D.int).length < sizeLine := by simp only [List.length_map]; exact line_big (by omega)
    by_cases h0 : 0 < rest
    · simp_arith [h0, hasTy_lst h1, bInt_int, oMod_int (show (0:Int) < 997 by decide), oAppend_lst h1 hb, oFdiv_int (show (0:Int) < 997 by decide) (show Nat.log2 997 < 9000 by decide)]
      exact ⟨_, _, rfl, OutL.push h1 h2 h3 h4⟩
    · simp_arith [h0]
      exact ⟨_, _, rfl, row, h1, by omega, h3, h4⟩
  · rintro l S' ⟨rest, o7, rfl, h⟩
    exact ⟨_, _, rfl, h⟩
theorem dr1_ok {S0 : Hs} {q : Nat} {x : D} {o1 : Option D} {ns : List Int} (hx : seqD x S0 = some (ns.map D.int)) (k : Nat) (hk : k < ns.length) (hn : ns.length ≤ 63) {l : Ls} {S : Hs}
    (h : (∃ (mixed : Int) (o4 o5 o6 o7 : Option D), l = [some x, o1, some (.ref q), some (.int mixed), o4, o5, o6, o7]) ∧ OutL S0 q (62 * k) S) :
    Wp NoX (lb_dr1 (l.set 4 (some (.int (0 + k)))) S) fun r S' => ∃ l', r = .nx l' ∧ (∃ (mixed : Int) (o4 o5 o6 o7 : Option D), l' = [some x, o1, some (.ref q), some (.int mixed), o4, o5, o6, o7]) ∧ OutL S0 q (62 * (k + 1)) S' := by
  obtain ⟨⟨mixed, o4, o5, o6, o7, rfl⟩, hO⟩ := h
  obtain ⟨row, h1, h2, h3, h4⟩ := id hO
  have hxS : seqD x S = some (ns.map D.int) := by
    unfold seqD at hx ⊢
    split at hx
    · split at hx <;> first | (rename_i z; rw [h3.get z (by simp)]; exact hx) | cases hx
    · exact hx
    · cases hx
  have hix : oIx x (.int (0 + (k : Int))) S = .ok (.int ns[k]) S := oIx_seq hxS (by omega) (by simp; omega) (by simp [List.getElem?_eq_getElem hk])
  have hb : (row.map D.int).length < sizeLine := by simp only [List.length_map]; exact line_big (by omega)
  have m1 : ∀ c : Int, IntMulOk c 48271 := fun c => mulok_r (by decide)
  have m2 : ∀ c : Int, IntMulOk c 69621 := fun c => mulok_r (by decide)
  unfold lb_dr1
  simp_arith [hix, bInt_int, bAbs_int, oMul_int (m1 _), oMod_int (show (0:Int) < 1000003 by decide), oAdd_int, oMod_int (show (0:Int) < 65537 by decide), pow18, oGe_int]
  generalize hc : (if ns[k] < 0 then -ns[k] else ns[k]) = c
  by_cases h0 : 1000000000000000000 ≤ c
  · simp_arith [h0, rng1 S (show (-1000000000:Int) ≤ 60 by decide) (show (60:Int) ≤ 1000000000 by decide)]
    refine (dr0_ok (by omega) hO).mono (fun _ _ _ _ h => h) ?_
    rintro r S' ⟨o6, o7, rfl, hO'⟩
    exact ⟨_, rfl, ⟨_, _, _, _, _, rfl⟩, hO'.mono (by omega)⟩
  · have g2 : (S.set q (.lst (row.map D.int ++ [D.int (c % 997)])))[q]? = some (.lst (row.map D.int ++ [D.int (c % 997)])) := get_put h1
    have hb2 : (row.map D.int ++ [D.int (c % 997)]).length < sizeLine := by simp only [List.length_map, List.length_append, List.length_singleton]; exact line_big (by omega)
    simp_arith [h0, hasTy_lst h1, oMod_int (show (0:Int) < 997 by decide), bInt_int, oAppend_lst h1 hb, hasTy_lst g2, oMul_int (m2 _), oAdd_int, oMod_int (show (0:Int) < 65521 by decide), oAppend_lst g2 hb2, rng1 _ (show (-1000000000:Int) ≤ 60 by decide) (show (60:Int) ≤ 1000000000 by decide)]
    refine (dr0_ok (S0 := S0) (n := 62 * k + 2) (by omega) ?_).mono (fun _ _ _ _ h => h) ?_
    · have := OutL.push (v := c % 997) h1 h2 h3 h4
      obtain ⟨r2, e1, e2, e3, e4⟩ := this
      have e5 : r2.map D.int = row.map D.int ++ [D.int (c % 997)] := by rw [g2] at e1; simpa using e1.symm
      rw [← e5]
      refine OutL.push (row := r2) (by rw [e5]; exact g2) e2 (by rw [e5]; exact e3) h4
    · rintro r S' ⟨o6, o7, rfl, hO'⟩
      exact ⟨_, rfl, ⟨_, _, _, _, _, rfl⟩, hO'.mono (by omega)⟩
theorem draws_ok {S : Hs} {x : D} {ns : List Int} {many : Int} (hx : seqD x S = some (ns.map D.int)) (hn : ns.length ≤ 63) (h0 : 0 ≤ many) (h1 : many ≤ 10000) :
    Wp NoX (mDef 2 6 b_draws [x, .int many] S) fun v S' => ∃ (q : Nat) (row : List Int), v = .ref q ∧ S'[q]? = some (.lst (row.map D.int)) ∧ S.length ≤ q ∧ Kp [] S S' := by
  refine wp_def0 rfl ?_
  unfold b_draws
  have hlen : bLen [x] (S ++ [.lst []]) = .ok (.int (ns.length : Int)) (S ++ [.lst []]) := by
    have := lenD_seq (seqD_more (g := [.lst []]) hx)
    simp [bLen, this]
  simp_arith [hlen, rng1 (n := (ns.length : Int)) (S ++ [.lst []]) (by omega) (by omega), Int.toNat_natCast]
  refine wp_rng (fun k l S' => (∃ (mixed : Int) (o4 o5 o6 o7 : Option D), l = [some x, some (.int many), some (.ref S.length), some (.int mixed), o4, o5, o6, o7]) ∧ OutL S S.length (62 * k) S') ⟨⟨_, _, _, _, _, rfl⟩, [], by simp, by simp, Kp.new, Nat.le_refl _⟩ ?_ ?_
  · intro k l S' hk h
    simp_arith []
    refine (dr1_ok hx k hk hn h).mono (fun _ _ _ _ h => h) ?_
    rintro r S'' ⟨l', rfl, h⟩
    exact h
  · rintro l S' ⟨⟨mixed, o4, o5, o6, o7, rfl⟩, hO⟩
    simp_arith [rng1 (n := many) S' (by omega) (by omega)]
    refine wp_rng (fun k l S' => (∃ (mixed : Int) (o4 : Option D), l = [some x, some (.int many), some (.ref S.length), some (.int mixed), o4, o5, o6, o7]) ∧ OutL S S.length (62 * ns.length + k) S') ⟨⟨_, _, rfl⟩, hO⟩ ?_ ?_
    · rintro k l S' hk ⟨⟨mixed, o4, rfl⟩, row, e1, e2, e3, e4⟩
      have hb : (row.map D.int).length < sizeLine := by simp only [List.length_map]; exact line_big (by omega)
      unfold lb_dr2
      simp_arith [oMul_int (mulok_r (show Int.natAbs 16807 < 2 ^ 64 by decide)), oAdd_int, bInt_int, oMod_int (show (0:Int) < 65537 by decide), hasTy_lst e1, oMod_int (show (0:Int) < 997 by decide), oAppend_lst e1 hb]
      exact ⟨⟨_, _, rfl⟩, OutL.push e1 e2 e3 e4⟩
    · rintro l S' ⟨⟨mixed, o4, rfl⟩, row, e1, e2, e3, e4⟩
      simp_arith [oSl, e1]
      refine ⟨_, (row.drop (HT.sIx row.length 0 none)).take (HT.sIx row.length row.length (some many) - HT.sIx row.length 0 none), rfl, ?_, ?_, e3.app⟩
      · simp [cutD]
      · have := e3.le; omega
/-! ### rows and programs in the intermediate form, as k60, k61 and k62 draw them -/
inductive Row where
  | const (d : Nat) (n : Int) | copy (d a : Nat) | op (s : Str) (d a b : Nat) | select (d c a b : Nat) | load (d i a : Nat) | store (i a v : Nat) | out (a : Nat)
  | jump (t : Nat) | branch (a t u : Nat) | stop (a : Nat)
abbrev nD (n : Nat) : D := .int (n : Int)
def Row.D : Row → D
  | .const d n => .tup [.str "const", nD d, .int n]
  | .copy d a => .tup [.str "copy", nD d, nD a]
  | .op s d a b => .tup [.str "op", .str s, nD d, nD a, nD b]
  | .select d c a b => .tup [.str "select", nD d, nD c, nD a, nD b]
  | .load d i a => .tup [.str "load", nD d, nD i, nD a]
  | .store i a v => .tup [.str "store", nD i, nD a, nD v]
  | .out a => .tup [.str "out", nD a]
  | .jump t => .tup [.str "jump", nD t]
  | .branch a t u => .tup [.str "branch", nD a, nD t, nD u]
  | .stop a => .tup [.str "stop", nD a]
def signsL : List Str := ["+", "-", "*", "&", "|", "^", "<<", ">>", "==", "<", "<=", "div", "mod"]
/-- na arrays, nb blocks, registers below nr -/
def Row.ok (nr na nb : Nat) : Row → Prop
  | .const d n => d < nr ∧ 0 ≤ n ∧ n ≤ 4294967295
  | .copy d a => d < nr ∧ a < nr
  | .op s d a b => s ∈ signsL ∧ d < nr ∧ a < nr ∧ b < nr
  | .select d c a b => d < nr ∧ c < nr ∧ a < nr ∧ b < nr
  | .load d i a => d < nr ∧ i < na ∧ a < nr
  | .store i a v => i < na ∧ a < nr ∧ v < nr
  | .out a => a < nr
  | .jump t => t < nb
  | .branch a t u => a < nr ∧ t < nb ∧ u < nb
  | .stop a => a < nr
def Row.last : Row → Bool
  | .jump _ => true
  | .branch _ _ _ => true
  | .stop _ => true
  | _ => false
theorem wp_ix {X : XP} {S : Hs} {q : Nat} {ds : List D} {k : Int} {Q : D → Hs → Prop} (h : S[q]? = some (.lst ds)) (h0 : 0 ≤ k) (h1 : k < (ds.length : Int)) (H : ∀ d ∈ ds, Q d S) : Wp X (oIx (.ref q) (.int k) S) Q := by
  have hk : k.toNat < ds.length := by omega
  rw [oIx_lst h h0 h1 (List.getElem?_eq_getElem hk)]
  exact ⟨H _ (List.getElem_mem hk)⟩
theorem nat_of {k : Int} (h : 0 ≤ k) : D.int k = nD k.toNat := by unfold nD; rw [Int.toNat_of_nonneg h]
noncomputable def b_row : MS := (mSeq (mSet 4 (mFn m_next (lCons (mVar 0) (lCons (mC (.int 9)) lNil))))
    (mSeq (mSet 5 (mFn m_next (lCons (mVar 0) (lCons (mC (.int 9)) lNil))))
    (mSeq (mSet 6 (mFn m_next (lCons (mVar 0) (lCons (mC (.int 9)) lNil))))
    (mSeq (mIfS (mTru (mVar 3)) (mRet (mBin oIx (mLst (lCons (mTup (lCons (mC (.str "jump")) (lCons (mFn m_next (lCons (mVar 0) (lCons (mVar 2) lNil))) lNil))) (lCons (mTup (lCons (mC (.str "branch")) (lCons (mVar 5) (lCons (mFn m_next (lCons (mVar 0) (lCons (mVar 2) lNil))) (lCons (mFn m_next (lCons (mVar 0) (lCons (mVar 2) lNil))) lNil))))) (lCons (mTup (lCons (mC (.str "stop")) (lCons (mVar 5) lNil))) lNil)))) (mFn m_next (lCons (mVar 0) (lCons (mC (.int 3)) lNil))))) mPass)
    (mSeq (mSet 7 (mFn m_next (lCons (mVar 0) (lCons (mC (.int 11)) lNil))))
    (mSeq (mIfS (mCmp oLt (mVar 7) (mC (.int 2))) (mRet (mTup (lCons (mC (.str "const")) (lCons (mVar 4) (lCons (mBin oIx (mLst (lCons (mFn m_next (lCons (mVar 0) (lCons (mC (.int 7)) lNil))) (lCons (mBin oSub (mC (.int 4294967295)) (mFn m_next (lCons (mVar 0) (lCons (mC (.int 9)) lNil)))) (lCons (mBin oMul (mFn m_next (lCons (mVar 0) (lCons (mC (.int 900)) lNil))) (mC (.int 4771117))) (lCons (mBin oAdd (mC (.int 31)) (mFn m_next (lCons (mVar 0) (lCons (mC (.int 4)) lNil)))) lNil))))) (mFn m_next (lCons (mVar 0) (lCons (mC (.int 4)) lNil)))) lNil))))) mPass)
    (mSeq (mIfS (mCmp oEq (mVar 7) (mC (.int 2))) (mRet (mTup (lCons (mC (.str "copy")) (lCons (mVar 4) (lCons (mVar 5) lNil))))) mPass)
    (mSeq (mIfS (mCmp oLt (mVar 7) (mC (.int 6))) (mSeq (mSet 8 (mBin oIx (mLst (lCons (mC (.str "+")) (lCons (mC (.str "-")) (lCons (mC (.str "*")) (lCons (mC (.str "&")) (lCons (mC (.str "|")) (lCons (mC (.str "^")) (lCons (mC (.str "<<")) (lCons (mC (.str ">>")) (lCons (mC (.str "==")) (lCons (mC (.str "<")) (lCons (mC (.str "<=")) (lCons (mC (.str "div")) (lCons (mC (.str "mod")) lNil)))))))))))))) (mFn m_next (lCons (mVar 0) (lCons (mC (.int 13)) lNil)))))
    (mRet (mTup (lCons (mC (.str "op")) (lCons (mVar 8) (lCons (mVar 4) (lCons (mVar 5) (lCons (mVar 6) lNil)))))))) mPass)
    (mSeq (mIfS (mCmp oEq (mVar 7) (mC (.int 6))) (mRet (mTup (lCons (mC (.str "select")) (lCons (mVar 4) (lCons (mFn m_next (lCons (mVar 0) (lCons (mC (.int 9)) lNil))) (lCons (mVar 5) (lCons (mVar 6) lNil))))))) mPass)
    (mSeq (mIfS (mAndB (mCmp oLt (mVar 7) (mC (.int 9))) (mCmp oGt (mVar 1) (mC (.int 0)))) (mRet (mBin oIx (mLst (lCons (mTup (lCons (mC (.str "load")) (lCons (mVar 4) (lCons (mFn m_next (lCons (mVar 0) (lCons (mVar 1) lNil))) (lCons (mVar 5) lNil))))) (lCons (mTup (lCons (mC (.str "store")) (lCons (mFn m_next (lCons (mVar 0) (lCons (mVar 1) lNil))) (lCons (mVar 5) (lCons (mVar 6) lNil))))) lNil))) (mBin oSub (mVar 7) (mC (.int 7))))) mPass)
    (mRet (mTup (lCons (mC (.str "out")) (lCons (mVar 5) lNil))))))))))))))
noncomputable def m_row : MD := mDef 4 5 b_row
theorem NxtA.new {S g : Hs} {i j : Nat} {row : List Int} (h : NxtA S i j row) : NxtA (S ++ g) i j row := by
  obtain ⟨a, h⟩ := h
  exact ⟨a, by rw [List.getElem?_append_left (Real.lt h.d)]; exact h.d, by rw [List.getElem?_append_left (Real.lt h.r)]; exact h.r, h.ne, h.nn⟩
theorem NxtA.lt {S : Hs} {i j : Nat} {row : List Int} (h : NxtA S i j row) : i < S.length := by obtain ⟨a, h⟩ := h; exact Real.lt h.d
theorem NxtA.ltj {S : Hs} {i j : Nat} {row : List Int} (h : NxtA S i j row) : j < S.length := by obtain ⟨a, h⟩ := h; exact Real.lt h.r
theorem NxtA.nei {S : Hs} {i j : Nat} {row : List Int} (h : NxtA S i j row) : i ≠ j := by obtain ⟨a, h⟩ := h; exact h.ne
/-- what a part of the law may do that draws -/
def Dr (i j : Nat) (row : List Int) (S S' : Hs) : Prop := NxtA S' i j row ∧ Kp [i] S S'
theorem row_ok {S : Hs} {i j na nb : Nat} {row : List Int} {last : Bool} (h : NxtA S i j row) (hb : 0 < nb) :
    Wp NoX (m_row [.ref i, nD na, nD nb, .bl last] S) fun v S' => ∃ r : Row, v = r.D ∧ r.ok 9 na nb ∧ r.last = last ∧ Dr i j row S S' := by
  refine wp_def0 rfl ?_
  unfold b_row
  simp_arith []
  refine Wp.call (next_ok h (by decide)) ?_
  rintro _ S1 ⟨d, rfl, d0, d1, h, u1⟩
  simp_arith []
  refine Wp.call (next_ok h (by decide)) ?_
  rintro _ S2 ⟨a, rfl, a0, a1, h, u2⟩
  simp_arith []
  refine Wp.call (next_ok h (by decide)) ?_
  rintro _ S3 ⟨b, rfl, b0, b1, h, u3⟩
  have u := (u1.trans u2).trans u3
  clear u1 u2 u3
  obtain ⟨dn, rfl⟩ := Int.eq_ofNat_of_zero_le d0
  obtain ⟨an, rfl⟩ := Int.eq_ofNat_of_zero_le a0
  obtain ⟨bn, rfl⟩ := Int.eq_ofNat_of_zero_le b0
  cases last with
  | true =>
    simp_arith [oTru_bl]
    refine Wp.call (next_ok h (by omega)) ?_
    rintro _ S4 ⟨t, rfl, t0, t1, h, u4⟩
    simp_arith []
    refine Wp.call (next_ok h (by omega)) ?_
    rintro _ S5 ⟨v, rfl, v0, v1, h, u5⟩
    simp_arith []
    refine Wp.call (next_ok h (by omega)) ?_
    rintro _ S6 ⟨w, rfl, w0, w1, h, u6⟩
    simp_arith []
    refine Wp.call (next_ok h.new (by decide)) ?_
    rintro _ S7 ⟨k, rfl, k0, k1, h', u7⟩
    obtain ⟨tn, rfl⟩ := Int.eq_ofNat_of_zero_le t0
    obtain ⟨vn, rfl⟩ := Int.eq_ofNat_of_zero_le v0
    obtain ⟨wn, rfl⟩ := Int.eq_ofNat_of_zero_le w0
    simp_arith []
    have hK : Kp [i] S S7 := (((u.trans u4).trans u5).trans u6).app.trans u7
    refine wp_ix (u7.get get_end (by have := h.lt; simp; omega)) k0 (by simpa using k1) ?_
    intro x hx
    simp_arith []
    simp only [List.mem_cons, List.not_mem_nil, or_false] at hx
    rcases hx with rfl | rfl | rfl
    · exact ⟨.jump tn, rfl, by show tn < nb; omega, rfl, h', hK⟩
    · exact ⟨.branch an vn wn, rfl, ⟨by omega, by omega, by omega⟩, rfl, h', hK⟩
    · exact ⟨.stop an, rfl, by show an < 9; omega, rfl, h', hK⟩
  | false =>
    simp_arith [oTru_bl]
    refine Wp.call (next_ok h (by decide)) ?_
    rintro _ S4 ⟨turn, rfl, t0, t1, h, u4⟩
    have u := u.trans u4
    simp_arith [oLt_int]
    by_cases c1 : turn < 2
    · simp_arith [c1]
      refine Wp.call (next_ok h (by decide)) ?_
      rintro _ S5 ⟨x1, rfl, x10, x11, h, u5⟩
      simp_arith []
      refine Wp.call (next_ok h (by decide)) ?_
      rintro _ S6 ⟨x2, rfl, x20, x21, h, u6⟩
      simp_arith [oSub_int]
      refine Wp.call (next_ok h (by decide)) ?_
      rintro _ S7 ⟨x3, rfl, x30, x31, h, u7⟩
      simp_arith [oMul_int (mulok_r (show Int.natAbs 4771117 < 2 ^ 64 by decide))]
      refine Wp.call (next_ok h (by decide)) ?_
      rintro _ S8 ⟨x4, rfl, x40, x41, h, u8⟩
      simp_arith [oAdd_int]
      refine Wp.call (next_ok h.new (by decide)) ?_
      rintro _ S9 ⟨k, rfl, k0, k1, h', u9⟩
      have hK : Kp [i] S S9 := ((((u.trans u5).trans u6).trans u7).trans u8).app.trans u9
      simp_arith []
      refine wp_ix (u9.get get_end (by have := h.lt; simp; omega)) k0 (by simpa using k1) ?_
      intro x hx
      simp_arith []
      have : ∃ n : Int, x = .int n ∧ 0 ≤ n ∧ n ≤ 4294967295 := by
        simp only [List.mem_cons, List.not_mem_nil, or_false] at hx
        rcases hx with rfl | rfl | rfl | rfl <;> exact ⟨_, rfl, by omega, by omega⟩
      obtain ⟨n, rfl, n0, n1⟩ := this
      exact ⟨.const dn n, rfl, ⟨by omega, n0, n1⟩, rfl, h', hK⟩
    · by_cases c2 : turn = 2
      · simp_arith [c1, c2, oEq_int]
        exact ⟨.copy dn an, rfl, ⟨by omega, by omega⟩, rfl, h, u⟩
      · by_cases c3 : turn < 6
        · simp_arith [c1, c2, c3, oEq_int, oLt_int]
          refine Wp.call (next_ok h.new (by decide)) ?_
          rintro _ S5 ⟨k, rfl, k0, k1, h', u5⟩
          have hK : Kp [i] S S5 := u.app.trans u5
          simp_arith []
          refine wp_ix (u5.get get_end (by have := h.lt; simp; omega)) k0 (by simpa using k1) ?_
          intro x hx
          simp_arith []
          obtain ⟨s, hs, rfl⟩ := of_strs (xs := signsL) hx
          exact ⟨.op s dn an bn, rfl, ⟨hs, by omega, by omega, by omega⟩, rfl, h', hK⟩
        · by_cases c4 : turn = 6
          · simp_arith [c1, c2, c3, c4, oEq_int, oLt_int]
            refine Wp.call (next_ok h (by decide)) ?_
            rintro _ S5 ⟨c, rfl, c0, c1', h', u5⟩
            obtain ⟨cn, rfl⟩ := Int.eq_ofNat_of_zero_le c0
            simp_arith []
            exact ⟨.select dn cn an bn, rfl, ⟨by omega, by omega, by omega, by omega⟩, rfl, h', u.trans u5⟩
          · by_cases c5 : turn < 9 ∧ 0 < na
            · have c6 : (0 : Int) < (na : Int) := by omega
              simp_arith [c1, c2, c3, c4, c5.1, c6, oEq_int, oLt_int, oGt_int]
              refine Wp.call (next_ok h c6) ?_
              rintro _ S5 ⟨x1, rfl, x10, x11, h, u5⟩
              simp_arith []
              refine Wp.call (next_ok h c6) ?_
              rintro _ S6 ⟨x2, rfl, x20, x21, h, u6⟩
              obtain ⟨xn, rfl⟩ := Int.eq_ofNat_of_zero_le x10
              obtain ⟨yn, rfl⟩ := Int.eq_ofNat_of_zero_le x20
              simp_arith [oSub_int]
              refine wp_ix get_end (by omega) (by simp; omega) ?_
              intro x hx
              simp_arith []
              simp only [List.mem_cons, List.not_mem_nil, or_false] at hx
              rcases hx with rfl | rfl
              · exact ⟨.load dn xn an, rfl, ⟨by omega, by omega, by omega⟩, rfl, h.new, ((u.trans u5).trans u6).app⟩
              · exact ⟨.store yn an bn, rfl, ⟨by omega, by omega, by omega⟩, rfl, h.new, ((u.trans u5).trans u6).app⟩
            · by_cases c6 : turn < 9
              · have c7 : ¬ (0 : Int) < (na : Int) := by omega
                simp_arith [c1, c2, c3, c4, c6, c7, oEq_int, oLt_int, oGt_int]
                exact ⟨.out an, rfl, by show an < 9; omega, rfl, h, u⟩
              · simp_arith [c1, c2, c3, c4, c6, oEq_int, oLt_int, oGt_int]
                exact ⟨.out an, rfl, by show an < 9; omega, rfl, h, u⟩
/-- [e for k in range(m)], where e is drawn -/
theorem lc_draw {α : Type} {X : XP} {Q : D → Hs → Prop} {te : M} {l : Ls} {s : Nat} {lo : Int} {m : Nat} {S : Hs} {i j : Nat} {row : List Int} (f : α → D) (P : Nat → α → Prop) (h : NxtA S i j row) (hm : m ≤ 1000000)
    (ht : ∀ k S', k < m → NxtA S' i j row → Kp [i] S S' → Wp NoX (te (l.set s (some (.int (lo + k)))) S') fun v S2 => ∃ x, v = f x ∧ P k x ∧ Dr i j row S' S2)
    (hd : ∀ (xs : List α) (S' : Hs), xs.length = m → (∀ k x, xs[k]? = some x → P k x) → S'[S.length]? = some (.lst (xs.map f)) → Dr i j row S S' → Q (.ref S.length) S') :
    Wp X (cLoop (.rng lo m) (cN s) mYes te l S.length 0 (S ++ [.lst []])) Q := by
  have hi := h.lt
  refine wp_lcRng (fun k acc S' => ∃ xs : List α, acc = xs.map f ∧ xs.length = k ∧ (∀ k x, xs[k]? = some x → P k x) ∧ S'[S.length]? = some (.lst acc) ∧ Dr i j row S S') ⟨[], rfl, rfl, by simp, by simp, h.new, Kp.new⟩ ?_ ?_
  · rintro k acc S' hk ⟨xs, rfl, hl, hp, hq, hn, hK⟩
    refine ⟨_, rfl, ?_⟩
    simp_arith []
    refine (ht k S' hk hn hK).mono (fun _ _ _ _ h => h) ?_
    rintro v S2 ⟨x, rfl, px, hn2, hK2⟩
    have hq2 := hK2.get hq (by simp; omega)
    refine ⟨hq2, by simp only [List.length_map]; exact line_big (by omega), xs ++ [x], by simp, by simp [hl], ?_, get_put hq2, ?_, (hK.trans hK2).setNew (Nat.le_refl _)⟩
    · intro k' x' e
      by_cases hk' : k' < xs.length
      · rw [List.getElem?_append_left hk'] at e; exact hp _ _ e
      · rw [List.getElem?_append_right (by omega)] at e
        have : k' - xs.length = 0 := by
          rcases Nat.eq_zero_or_pos (k' - xs.length) with z | z
          · exact z
          · rw [List.getElem?_eq_none (by simp; omega)] at e; cases e
        rw [this] at e
        simp at e
        subst e
        have : k' = k := by omega
        rw [this]; exact px
    · obtain ⟨a, hn2⟩ := hn2
      have hj : j ≠ S.length := by have := h.ltj; omega
      exact ⟨a, by rw [List.getElem?_set_ne (by omega)]; exact hn2.d, by rw [List.getElem?_set_ne (Ne.symm hj)]; exact hn2.r, hn2.ne, hn2.nn⟩
  · rintro acc S' ⟨xs, rfl, hl, hp, hq, hD⟩
    exact hd xs S' hl hp hq hD
structure Arr where
  name : Str
  len : Nat
  label : Str
def Arr.D (a : Arr) : D := .tup [.str a.name, nD a.len, .str a.label]
def Arr.ok (a : Arr) : Prop := 1 ≤ a.len ∧ a.len ≤ 11 ∧ (a.label = "public" ∨ a.label = "secret") ∧ a.name.length ≤ 1000 ∧ PyData.strOk a.name = true
abbrev blockD (b : List Row) : D := .tup (b.map Row.D)
def progD (arrs : List Arr) (params : Nat) (blocks : List (List Row)) : D := .tup [.tup (arrs.map Arr.D), nD params, .tup (blocks.map blockD)]
def blockOk (nr na nb : Nat) (b : List Row) : Prop := b.length ≤ 8 ∧ ∃ body r, b = body ++ [r] ∧ (∀ x ∈ body, x.ok nr na nb ∧ x.last = false) ∧ r.ok nr na nb ∧ r.last = true
structure ProgOk (nr : Nat) (arrs : List Arr) (params : Nat) (blocks : List (List Row)) : Prop where
  na : arrs.length ≤ 3
  ar : ∀ a ∈ arrs, a.ok
  np : params ≤ 4
  nb : 1 ≤ blocks.length ∧ blocks.length ≤ 5
  bl : ∀ b ∈ blocks, blockOk nr arrs.length blocks.length b
noncomputable def lb_program : MS := (mSeq (mSet 5 (mLc (mRng1 (lCons (mFn m_next (lCons (mVar 0) (lCons (mC (.int 8)) lNil))) lNil)) (cN 6) mYes (mFn m_row (lCons (mVar 0) (lCons (mCall bLen (lCons (mVar 1) lNil)) (lCons (mVar 2) (lCons (mC (.bl false)) lNil))))) [6]))
    (mExpr (mBM "list" oAppend (mVar 3) (lCons (mCall bTuple (lCons (mBin oAdd (mVar 5) (mLst (lCons (mFn m_row (lCons (mVar 0) (lCons (mCall bLen (lCons (mVar 1) lNil)) (lCons (mVar 2) (lCons (mC (.bl true)) lNil))))) lNil))) lNil)) lNil))))
noncomputable def b_program : MS := (mSeq (mSet 1 (mCall bTuple (lCons (mLc (mRng1 (lCons (mFn m_next (lCons (mVar 0) (lCons (mC (.int 4)) lNil))) lNil)) (cN 4) mYes (mTup (lCons (mBin oAdd (mC (.str "a")) (mCall bStr (lCons (mVar 4) lNil))) (lCons (mBin oAdd (mC (.int 1)) (mFn m_next (lCons (mVar 0) (lCons (mC (.int 11)) lNil)))) (lCons (mBin oIx (mLst (lCons (mC (.str "public")) (lCons (mC (.str "secret")) lNil))) (mFn m_next (lCons (mVar 0) (lCons (mC (.int 2)) lNil)))) lNil)))) [4]) lNil)))
    (mSeq (mSet 2 (mBin oAdd (mC (.int 1)) (mFn m_next (lCons (mVar 0) (lCons (mC (.int 5)) lNil)))))
    (mSeq (mSet 3 (mLst lNil))
    (mSeq (mFor (mRng1 (lCons (mVar 2) lNil)) (gN 4) lb_program)
    (mRet (mTup (lCons (mVar 1) (lCons (mFn m_next (lCons (mVar 0) (lCons (mC (.int 5)) lNil))) (lCons (mCall bTuple (lCons (mVar 3) lNil)) lNil)))))))))
noncomputable def m_program : MD := mDef 1 6 b_program
theorem bTuple_lst {S : Hs} {q : Nat} {ds : List D} (h : S[q]? = some (.lst ds)) : bTuple [.ref q] S = .ok (.tup ds) S := by simp [bTuple, seqD, h]
theorem oAdd_lst {S : Hs} {p q : Nat} {ds es : List D} (h : S[p]? = some (.lst ds)) (h' : S[q]? = some (.lst es)) (hl : ds.length + es.length ≤ sizeLine) : oAdd (.ref p) (.ref q) S = .ok (.ref S.length) (S ++ [.lst (ds ++ es)]) := by simp [oAdd, h, h', hl]
theorem wipe1 {l : Ls} {s : Nat} : wipeL l [s] = l.set s none := nr rfl
theorem block_ok {S : Hs} {i j : Nat} {row : List Int} {arrs : List Arr} {nb q : Nat} {bs : List (List Row)} {o4 o5 o6 : Option D} (h : NxtA S i j row) (hq : S[q]? = some (.lst (bs.map blockD))) (hqi : q ≠ i) (hqj : q ≠ j) (hnb : 0 < nb) (hb : bs.length < 1000) :
    Wp NoX (lb_program [some (.ref i), some (.tup (arrs.map Arr.D)), some (nD nb), some (.ref q), o4, o5, o6] S) fun r S' => ∃ o5 b, r = .nx [some (.ref i), some (.tup (arrs.map Arr.D)), some (nD nb), some (.ref q), o4, o5, o6] ∧ blockOk 9 arrs.length nb b ∧ S'[q]? = some (.lst ((bs ++ [b]).map blockD)) ∧ NxtA S' i j row ∧ Kp [i, q] S S' := by
  have hi0 := h.lt
  unfold lb_program
  simp_arith []
  refine Wp.call (next_ok h (by decide)) ?_
  rintro _ S1 ⟨m, rfl, m0, m1, h, u1⟩
  simp_arith [rng1 (n := m) S1 (by omega) (by omega), wipe1]
  refine lc_draw (α := Row) Row.D (fun _ r => r.ok 9 arrs.length nb ∧ r.last = false) h (by omega) ?_ ?_
  · intro k S' hk h' _
    simp_arith [bLen_tup, List.length_map]
    refine Wp.call (row_ok h' hnb) ?_
    rintro _ S2 ⟨r, rfl, hr, hl, hD⟩
    exact ⟨r, rfl, ⟨hr, hl⟩, hD⟩
  · rintro xs S2 hl hp hq2 ⟨h, u2⟩
    simp_arith []
    have g2 := u2.get (u1.get hq (by simpa using hqi)) (by simpa using hqi)
    simp_arith [hasTy_lst g2, bLen_tup, List.length_map]
    refine Wp.call (row_ok h hnb) ?_
    rintro _ S3 ⟨r, rfl, hr, hrl, h, u3⟩
    have hx3 : (S3 ++ [O.lst [r.D]])[S1.length]? = some (.lst (xs.map Row.D)) := by
      have := u3.get hq2 (by have e1 := u1.le; simp; omega)
      rw [List.getElem?_append_left (Real.lt this)]; exact this
    have hlx : (xs.map Row.D).length + [r.D].length ≤ sizeLine := by simp only [List.length_map, List.length_singleton]; exact line_le (by omega)
    simp_arith [oAdd_lst hx3 get_end hlx, bTuple_lst get_end]
    have g3 : ((S3 ++ [O.lst [r.D]]) ++ [O.lst (xs.map Row.D ++ [r.D])])[q]? = some (.lst (bs.map blockD)) := by
      have := u3.get g2 (by simpa using hqi)
      rw [List.append_assoc, List.getElem?_append_left (Real.lt this)]; exact this
    simp_arith [oAppend_lst g3 (by simp only [List.length_map]; exact line_big (by omega))]
    have hK : Kp [i] S ((S3 ++ [O.lst [r.D]]) ++ [O.lst (xs.map Row.D ++ [r.D])]) := ((u1.trans u2).trans u3).app.app
    refine ⟨_, xs ++ [r], rfl, ⟨by simp; omega, xs, r, rfl, fun x hx => ?_, hr, hrl⟩, ?_, ?_, ?_⟩
    · obtain ⟨k, hk⟩ := List.getElem?_of_mem hx
      exact hp k x hk
    · rw [get_put g3]; simp [blockD]
    · obtain ⟨a, h⟩ := (h.new (g := [O.lst [r.D]])).new (g := [O.lst (xs.map Row.D ++ [r.D])])
      exact ⟨a, by rw [List.getElem?_set_ne hqi]; exact h.d, by rw [List.getElem?_set_ne hqj]; exact h.r, h.ne, h.nn⟩
    · exact (hK.sub (by simp)).setIn (by simp)
theorem program_ok {S : Hs} {i j : Nat} {row : List Int} (h : NxtA S i j row) :
    Wp NoX (m_program [.ref i] S) fun v S' => ∃ arrs params blocks, v = progD arrs params blocks ∧ ProgOk 9 arrs params blocks ∧ Dr i j row S S' := by
  refine wp_def0 rfl ?_
  unfold b_program
  simp_arith []
  refine Wp.call (next_ok h (by decide)) ?_
  rintro _ S1 ⟨m, rfl, m0, m1, h, u1⟩
  simp_arith [rng1 (n := m) S1 (by omega) (by omega), wipe1]
  refine lc_draw (α := Arr) Arr.D (fun _ a => a.ok) h (by omega) ?_ ?_
  · intro k S' hk h' _
    have e1 : ∀ S, bStr [.int (0 + (k : Int))] S = .ok (.str (Str.ofString (toString (0 + (k : Int))))) S := fun S => by
      have : (0 + (k : Int)).natAbs.log2 < 1920 := by
        have h1 : (0 + (k : Int)).natAbs < 2 ^ 10 := by omega
        rcases Nat.eq_zero_or_pos (0 + (k : Int)).natAbs with z | z
        · rw [z]; decide
        · have := (Nat.log2_lt (by omega)).mpr h1; omega
      simp only [bStr, if_pos this]
    have hlen : (Str.ofString (toString (0 + (k : Int)))).length ≤ 900 := by
      have : (k = 0 ∨ k = 1 ∨ k = 2 ∨ k = 3) := by omega
      rcases this with rfl | rfl | rfl | rfl <;> decide +kernel
    have hla : ("a" : Str).length = 1 := by decide +kernel
    have e2 : ∀ S, oAdd (.str "a") (.str (Str.ofString (toString (0 + (k : Int))))) S = .ok (.str ("a" ++ Str.ofString (toString (0 + (k : Int))))) S := fun S => by
      have : ("a" : Str).length + (Str.ofString (toString (0 + (k : Int)))).length ≤ sizeLine := line_le (by omega)
      simp only [oAdd, if_pos this]
    simp_arith [e1, e2]
    refine Wp.call (next_ok h' (by decide)) ?_
    rintro _ S2 ⟨len, rfl, n0, n1, h2, u2⟩
    simp_arith [oAdd_int]
    refine Wp.call (next_ok h2.new (by decide)) ?_
    rintro _ S3 ⟨c, rfl, c0, c1, h3, u3⟩
    simp_arith []
    refine wp_ix (u3.get get_end (by have := h2.lt; simp; omega)) c0 (by simpa using c1) ?_
    intro x hx
    simp_arith []
    obtain ⟨n, rfl⟩ := Int.eq_ofNat_of_zero_le n0
    have hx2 : ∃ s : Str, x = .str s ∧ (s = "public" ∨ s = "secret") := by
      simp only [List.mem_cons, List.not_mem_nil, or_false] at hx
      rcases hx with rfl | rfl
      · exact ⟨_, rfl, .inl rfl⟩
      · exact ⟨_, rfl, .inr rfl⟩
    obtain ⟨s, rfl, hs⟩ := hx2
    have hso : PyData.strOk (("a" : Str) ++ Str.ofString (toString (0 + (k : Int)))) = true := by
      have : (k = 0 ∨ k = 1 ∨ k = 2 ∨ k = 3) := by omega
      rcases this with rfl | rfl | rfl | rfl <;> decide +kernel
    refine ⟨⟨_, 1 + n, s⟩, rfl, ⟨by simp, by simp; omega, hs, ?_, hso⟩, h3, u2.app.trans u3⟩
    have : ("a" ++ Str.ofString (toString (0 + (k : Int))) : Str).length = ("a" : Str).length + (Str.ofString (toString (0 + (k : Int)))).length := by
      show (Array.append _ _).size = _
      exact Array.size_append ..
    show Str.length _ ≤ 1000
    rw [this]; omega
  · rintro arrs S2 hl hp hq2 ⟨h, u2⟩
    simp_arith [bTuple_lst hq2]
    refine Wp.call (next_ok h (by decide)) ?_
    rintro _ S3 ⟨many, rfl, n0, n1, h3, u3⟩
    obtain ⟨mn, rfl⟩ := Int.eq_ofNat_of_zero_le n0
    have e : (1 + (mn : Int)) = ((1 + mn : Nat) : Int) := by omega
    simp_arith [oAdd_int, e, rng1 (n := ((1 + mn : Nat) : Int)) (S3 ++ [.lst []]) (by omega) (by omega), Int.toNat_natCast]
    have hS : S.length ≤ S3.length := by have := u1.le; have := u2.le; have := u3.le; omega
    have hi3 : i < S3.length := h3.lt
    have hj3 : j < S3.length := h3.ltj
    refine wp_rng (fun k l S' => ∃ (bs : List (List Row)) (o5 o4 : Option D), l = [some (.ref i), some (.tup (arrs.map Arr.D)), some (nD (1 + mn)), some (.ref S3.length), o4, o5, none] ∧ bs.length = k ∧ (∀ b ∈ bs, blockOk 9 arrs.length (1 + mn) b) ∧ S'[S3.length]? = some (.lst (bs.map blockD)) ∧ Dr i j row S S')
      ⟨[], none, none, rfl, rfl, by simp, by simp, h3.new, ((u1.trans u2).trans u3).app⟩ ?_ ?_
    · rintro k l S' hk ⟨bs, o5, o4, rfl, hbl, hbs, hq, h4, u4⟩
      simp_arith []
      refine (block_ok h4 hq (by omega) (by omega) (by omega) (by omega)).mono (fun _ _ _ _ h => h) ?_
      rintro r S4 ⟨o5, b, rfl, hb, hq4, h5, u5⟩
      refine ⟨bs ++ [b], o5, _, rfl, by simp [hbl], ?_, hq4, h5, u4.after u5 ?_⟩
      · intro x hx
        rcases List.mem_append.mp hx with hx | hx
        · exact hbs x hx
        · simp only [List.mem_singleton] at hx; subst hx; exact hb
      · intro z hz hz2
        simp only [List.mem_cons, List.not_mem_nil, or_false] at hz
        rcases hz with rfl | rfl
        · simp
        · omega
    · rintro l S' ⟨bs, o5, o4, rfl, hbl, hbs, hq, h4, u4⟩
      simp_arith []
      refine Wp.call (next_ok h4 (by decide)) ?_
      rintro _ S5 ⟨pn, rfl, p0, p1, h5, u5⟩
      obtain ⟨pn, rfl⟩ := Int.eq_ofNat_of_zero_le p0
      have hq5 := u5.get hq (by simp; omega)
      simp_arith [bTuple_lst hq5]
      refine ⟨arrs, pn, bs, rfl, ⟨by omega, fun a ha => ?_, by omega, by omega, fun b hb => ?_⟩, h5, u4.trans u5⟩
      · obtain ⟨k, hk⟩ := List.getElem?_of_mem ha
        exact hp k a hk
      · rw [hbl]; exact hbs b hb
end Ly
set_option Elab.async false
set_option linter.all false
set_option maxRecDepth 100000
namespace Ly
open PySem PySem.Spec L2
open PyProof.Rows hiding St
local macro_rules | `(tactic| simp_arith [$ls,*]) => `(tactic| simp only [Ly.line_le, Ly.atX_no, Ly.v_ok, Ly.v_bad, Ly.v_bind, Ly.k_bd, Ly.v_at, Ly.v_bin, Ly.k_bi, Ly.k_bi2, Ly.v_var, Ly.v_c, Ly.v_un, Ly.k_un, Ly.v_if, Ly.k_ife, Ly.v_and, Ly.k_and, Ly.k_and2, Ly.v_or, Ly.k_or, Ly.k_or2, Ly.v_tup, Ly.k_tup, Ly.v_lst, Ly.k_lst, Ly.v_call, Ly.k_ca, Ly.v_fn, Ly.k_fn, Ly.v_bm, Ly.k_bm, Ly.k_bm2, Ly.v_sl, Ly.k_sl, Ly.k_sl2, Ly.k_sl3, Ly.v_ixK, Ly.k_ixk, Ly.v_inK, Ly.k_ink, Ly.v_notinK, Ly.k_nink, Ly.v_getK2, Ly.k_gk2, Ly.k_gk, Ly.v_get2, Ly.k_g2, Ly.k_g22, Ly.k_g23, Ly.v_nil, Ly.v_cons, Ly.k_co, Ly.k_co2, Ly.v_no, Ly.v_some, Ly.k_so, Ly.k_cm, Ly.v_cmp, Ly.v_tru, Ly.k_tr, Ly.v_notB, Ly.k_no, Ly.v_andB, Ly.k_an, Ly.v_orB, Ly.k_orb, Ly.v_yes, Ly.v_inKB, Ly.k_inkB, Ly.v_notinKB, Ly.k_ninkB, Ly.v_set, Ly.k_st, Ly.v_expr, Ly.k_ex, Ly.v_ret, Ly.k_re, Ly.v_retN, Ly.v_pass, Ly.v_brk, Ly.v_cnt, Ly.v_seq, Ly.k_sq_nx, Ly.k_sq_rt, Ly.k_sq_bk, Ly.k_sq_ct, Ly.v_ifS, Ly.k_ifs, Ly.v_asg, Ly.k_as, Ly.k_as2, Ly.v_aug, Ly.k_au, Ly.v_for, Ly.k_fo, Ly.v_it, Ly.k_it, Ly.k_ij, Ly.v_rng1, Ly.v_rng2, Ly.v_enum, Ly.v_zip, Ly.v_gN, Ly.v_gsN, Ly.v_gsC, Ly.k_gc, Ly.v_gT, Ly.v_gTw, Ly.v_gSb, Ly.k_gsb, Ly.k_gsb2, Ly.k_gsb3, Ly.k_en_rt, Ly.k_en_nx, Ly.k_tu_nx, Ly.k_tu_ct, Ly.k_tu_bk, Ly.k_tu_rt, Ly.v_lc, Ly.k_lc, Ly.v_augI, Ly.k_ag, Ly.k_ag2, Ly.k_ag3, Ly.k_ag4, Ly.k_ag5, Ly.v_del, Ly.k_dl, Ly.k_dl2, Ly.v_setd, Ly.v_pop2, Ly.k_d3, Ly.k_d32, Ly.k_d33, Ly.v_get1, Ly.k_g1, Ly.k_g12, Ly.v_rg1, Ly.k_rg, Ly.v_rg2, Ly.k_rg2, Ly.k_rg22, Ly.v_dicK, Ly.v_dicT, Ly.v_dc, Ly.k_dc, List.getElem?_cons_zero, List.getElem?_cons_succ, List.set_cons_zero, List.set_cons_succ, List.length_cons, List.length_nil, List.map_cons, List.map_nil, List.cons_append, List.nil_append, List.replicate, if_true, if_false, Bool.false_eq_true, Bool.not_true, Bool.not_false, Bool.true_and, Bool.false_and, decide_true, decide_false, decide_eq_true_eq, Nat.zero_add, Nat.reduceAdd, Nat.reduceLeDiff, true_and, and_true, $ls,*])
/-! ### draws of the third kind (laws k20 ..): three figures of a great cell, three draws of any other; a reader with the place and a seed -/
noncomputable def lb_dD0 : MS := (mIfS (mCmp oGt (mVar 3) (mC (.int 0))) (mSeq (mExpr (mBM "list" oAppend (mVar 1) (lCons (mBin oMod (mVar 3) (mC (.int 1000))) lNil)))
    (mSet 3 (mBin oFdiv (mVar 3) (mC (.int 1000))))) mPass)
noncomputable def lb_dD1 : MS := (mSeq (mSet 5 (mBin oMod (mCall bInt (lCons (mBin oAdd (mBin oAdd (mBin oMul (mVar 5) (mVar 5)) (mBin oMul (mVar 4) (mC (.int 7919)))) (mC (.int 17))) lNil)) (mC (.int 2147483629))))
    (mExpr (mBM "list" oAppend (mVar 1) (lCons (mBin oMod (mVar 5) (mC (.int 1000))) lNil))))
noncomputable def lb_dD2 : MS := (mSeq (mSet 3 (mCall bAbs (lCons (mBin oIx (mVar 0) (mVar 2)) lNil)))
    (mIfS (mCmp oGe (mVar 3) (mBin oPow (mC (.int 10)) (mC (.int 18)))) (mFor (mRng1 (lCons (mC (.int 20)) lNil)) (gN 4) lb_dD0) (mSeq (mSet 5 (mBin oMod (mCall bInt (lCons (mBin oAdd (mBin oAdd (mBin oMul (mBin oIx (mVar 0) (mVar 2)) (mC (.int 48271))) (mBin oMul (mVar 2) (mC (.int 69621)))) (mC (.int 12345))) lNil)) (mC (.int 2147483647))))
    (mFor (mRng1 (lCons (mC (.int 3)) lNil)) (gN 4) lb_dD1))))
noncomputable def b_drawsD : MS := (mSeq (mSet 1 (mLst lNil))
    (mSeq (mFor (mRng1 (lCons (mCall bMin (lCons (mCall bLen (lCons (mVar 0) lNil)) (lCons (mC (.int 63)) lNil))) lNil)) (gN 2) lb_dD2)
    (mRet (mVar 1))))
noncomputable def m_drawsD : MD := mDef 1 5 b_drawsD
noncomputable def b_readerD : MS := (mSeq (mSet 1 (mFn m_drawsD (lCons (mVar 0) lNil)))
    (mSeq (mSet 2 (mC (.int 5)))
    (mSeq (mIfS (mCmp oGt (mCall bLen (lCons (mVar 0) lNil)) (mC (.int 0))) (mSet 2 (mBin oMod (mCall bAbs (lCons (mBin oIx (mVar 0) (mUn oNeg (mC (.int 1)))) lNil)) (mC (.int 1000003)))) mPass)
    (mRet (mDisp (dpCons (mC (.str "row")) (mVar 1) (dpCons (mC (.str "at")) (mC (.int 0)) (dpCons (mC (.str "seed")) (mVar 2) dpNil))))))))
noncomputable def m_readerD : MD := mDef 1 2 b_readerD
noncomputable def b_nextD : MS := (mSeq (mSet 2 (mBin oIx (mVar 0) (mC (.str "at"))))
    (mSeq (mAsg (mBin oAdd (mVar 2) (mC (.int 1))) (gSb (mVar 0) (mC (.str "at"))))
    (mSeq (mIfS (mCmp oLt (mVar 2) (mCall bLen (lCons (mBin oIx (mVar 0) (mC (.str "row"))) lNil))) (mRet (mBin oMod (mCall bInt (lCons (mBin oIx (mBin oIx (mVar 0) (mC (.str "row"))) (mVar 2)) lNil)) (mVar 1))) mPass)
    (mSeq (mSet 3 (mBin oMod (mCall bInt (lCons (mBin oMul (mBin oAdd (mBin oAdd (mBin oIx (mVar 0) (mC (.str "seed"))) (mBin oMul (mC (.int 17)) (mVar 2))) (mC (.int 3))) (mC (.int 48271))) lNil)) (mC (.int 2147483647))))
    (mRet (mBin oMod (mBin oFdiv (mBin oMod (mCall bInt (lCons (mBin oAdd (mBin oMul (mVar 3) (mVar 3)) (mVar 2)) lNil)) (mC (.int 2147483629))) (mC (.int 7))) (mVar 1)))))))
noncomputable def m_nextD : MD := mDef 2 2 b_nextD
theorem oIx_at {x : D} {S : Hs} {ds : List D} {i : Int} {d : D} (h : seqD x S = some ds) (ha : L2.atI ds i = some d) : oIx x (.int i) S = .ok d S := by
  unfold seqD at h
  split at h
  · split at h <;> first | (rename_i q; cases h; simp [oIx, q, ha]) | cases h
  · cases h; simp [oIx, ha]
  · cases h
def DrwN (S : Hs) (i j : Nat) : Prop := ∃ row a sd, Drw S i j row a sd
section
variable {S S' g : Hs} {i j : Nat} {many : Int}
theorem DrwN.kp {A : List Nat} (h : DrwN S i j) (k : Kp A S S') (hi : i ∉ A) (hj : j ∉ A) : DrwN S' i j := by
  obtain ⟨row, a, sd, h⟩ := h
  exact ⟨row, a, sd, k.get h.d hi, k.get h.r hj, h.ne, h.nn⟩
theorem DrwN.kp0 (h : DrwN S i j) (k : Kp [] S S') : DrwN S' i j := h.kp k (by simp) (by simp)
theorem DrwN.new (h : DrwN S i j) : DrwN (S ++ g) i j := h.kp0 Kp.new
theorem DrwN.lt (h : DrwN S i j) : i < S.length := by obtain ⟨row, a, sd, h⟩ := h; exact Real.lt h.d
theorem DrwN.ltj (h : DrwN S i j) : j < S.length := by obtain ⟨row, a, sd, h⟩ := h; exact Real.lt h.r
theorem DrwN.ne (h : DrwN S i j) : i ≠ j := by obtain ⟨row, a, sd, h⟩ := h; exact h.ne
theorem nextD_ok (h : DrwN S i j) (hm : 0 < many) : Wp NoX (m_nextD [.ref i, .int many] S) fun v S' => ∃ x : Nat, v = nD x ∧ (x : Int) < many ∧ DrwN S' i j ∧ Kp [i] S S' ∧ S'.length = S.length := by
  obtain ⟨row, a, sd, h⟩ := h
  have nat : ∀ z : Int, 0 ≤ z → z < many → ∃ x : Nat, D.int z = nD x ∧ (x : Int) < many := fun z h0 h1 => ⟨z.toNat, by simp only [nD]; rw [Int.toNat_of_nonneg h0], by omega⟩
  have hd := h.d
  have d0 : S[i]? = some (.dic (drawsK (.ref j) (.int a) (.int sd))) := hd
  have nn := h.nn
  have h2 : (S.set i (drawsO j (a + 1) sd))[i]? = some (.dic (drawsK (.ref j) (.int (a + 1)) (.int sd))) := get_put hd
  have hr2 : (S.set i (drawsO j (a + 1) sd))[j]? = some (.lst (row.map D.int)) := by rw [List.getElem?_set_ne h.ne]; exact h.r
  have hK : Kp [i] S (S.set i (drawsO j (a + 1) sd)) := Kp.set (by simp)
  have hN : DrwN (S.set i (drawsO j (a + 1) sd)) i j := ⟨row, a + 1, sd, h2, hr2, h.ne, by omega⟩
  have hrest : (S.set i (drawsO j (a + 1) sd)).length = S.length := by simp
  have e3 : oSet (.ref i) (.str "at") (.int (a + 1)) S = .ok () (S.set i (drawsO j (a + 1) sd)) := by
    rw [oSet_dic d0 key_str (by rw [drawsK_len]; decide), drawsK_set]; rfl
  refine wp_def0 rfl ?_
  unfold b_nextD
  simp_arith [oIx_dic d0 key_str (drawsK_at _ _ _), oAdd_int, e3, oIx_dic h2 key_str (drawsK_row _ _ _), oIx_dic h2 key_str (drawsK_seed _ _ _), bLen_lst hr2, oLt_int, List.length_map]
  by_cases hl : a < (row.length : Int)
  · have hx : oIx (.ref j) (.int a) (S.set i (drawsO j (a + 1) sd)) = .ok (.int (row.getD a.toNat 0)) (S.set i (drawsO j (a + 1) sd)) := by
      have : a.toNat < row.length := by omega
      exact oIx_lst hr2 nn (by simpa using hl) (by simp [List.getD, List.getElem?_eq_getElem this])
    simp_arith [hl, hx, bInt_int, oMod_int hm]
    obtain ⟨x, e, hx⟩ := nat _ (Int.emod_nonneg _ (by omega)) (Int.emod_lt_of_pos _ hm)
    exact ⟨x, e, hx, hN, hK, hrest⟩
  · have m1 : IntMulOk 17 a := mulok_l (by decide)
    have m2 : ∀ c : Int, IntMulOk c 48271 := fun c => mulok_r (by decide)
    have m3 : ∀ c : Int, IntMulOk (c % 2147483647) (c % 2147483647) := fun c => mulok_r (by omega)
    simp_arith [hl, oMul_int m1, oMul_int (m2 _), oMod_int (show (0:Int) < 2147483647 by decide), bInt_int, oMul_int (m3 _), oMod_int (show (0:Int) < 2147483629 by decide), oFdiv_int (show (0:Int) < 7 by decide) (show Nat.log2 7 < 9000 by decide), oMod_int hm, oAdd_int]
    obtain ⟨x, e, hx⟩ := nat _ (Int.emod_nonneg _ (by omega)) (Int.emod_lt_of_pos _ hm)
    exact ⟨x, e, hx, hN, hK, hrest⟩
end
theorem dD0_ok {S0 : Hs} {q n : Nat} {x o2 o4 o5 : Option D} {rest : Int} {S : Hs} (hn : n ≤ 100000) (h : OutL S0 q n S) :
    Wp NoX (fLoop (.rng 0 20) (gN 4) lb_dD0 0 [x, some (.ref q), o2, some (.int rest), o4, o5] S) fun r S' => ∃ o3 o4, r = .nx [x, some (.ref q), o2, o3, o4, o5] ∧ OutL S0 q (n + 20) S' := by
  refine wp_rng (fun k l S' => ∃ (rest : Int) (o4 : Option D), l = [x, some (.ref q), o2, some (.int rest), o4, o5] ∧ OutL S0 q (n + k) S') ⟨rest, o4, rfl, h⟩ ?_ ?_
  · rintro k l S' hk ⟨rest, o4, rfl, h⟩
    unfold lb_dD0
    simp_arith [oGt_int]
    obtain ⟨row, h1, h2, h3, h4⟩ := h
    have hb : (row.map D.int).length < sizeLine := by simp only [List.length_map]; exact line_big (by omega)
    by_cases h0 : 0 < rest
    · simp_arith [h0, hasTy_lst h1, oMod_int (show (0:Int) < 1000 by decide), oAppend_lst h1 hb, oFdiv_int (show (0:Int) < 1000 by decide) (show Nat.log2 1000 < 9000 by decide)]
      exact ⟨_, _, rfl, OutL.push h1 h2 h3 h4⟩
    · simp_arith [h0]
      exact ⟨_, _, rfl, row, h1, by omega, h3, h4⟩
  · rintro l S' ⟨rest, o4, rfl, h⟩
    exact ⟨_, _, rfl, h⟩
theorem dD1_ok {S0 : Hs} {q n : Nat} {x o2 o3 o4 : Option D} {mixed : Int} {S : Hs} (hm : mixed.natAbs < 2 ^ 64) (hn : n ≤ 100000) (h : OutL S0 q n S) :
    Wp NoX (fLoop (.rng 0 3) (gN 4) lb_dD1 0 [x, some (.ref q), o2, o3, o4, some (.int mixed)] S) fun r S' => ∃ o4 o5, r = .nx [x, some (.ref q), o2, o3, o4, o5] ∧ OutL S0 q (n + 3) S' := by
  refine wp_rng (fun k l S' => ∃ (mixed : Int) (o4 : Option D), mixed.natAbs < 2 ^ 64 ∧ l = [x, some (.ref q), o2, o3, o4, some (.int mixed)] ∧ OutL S0 q (n + k) S') ⟨mixed, o4, hm, rfl, h⟩ ?_ ?_
  · rintro k l S' hk ⟨mixed, o4, hm, rfl, h⟩
    unfold lb_dD1
    obtain ⟨row, h1, h2, h3, h4⟩ := h
    have hb : (row.map D.int).length < sizeLine := by simp only [List.length_map]; exact line_big (by omega)
    have m1 : IntMulOk mixed mixed := mulok_r hm
    have m2 : ∀ c : Int, IntMulOk c 7919 := fun c => mulok_r (by decide)
    simp_arith [oMul_int m1, oMul_int (m2 _), oAdd_int, bInt_int, oMod_int (show (0:Int) < 2147483629 by decide), hasTy_lst h1, oMod_int (show (0:Int) < 1000 by decide), oAppend_lst h1 hb]
    exact ⟨_, _, by omega, rfl, OutL.push h1 h2 h3 h4⟩
  · rintro l S' ⟨mixed, o4, _, rfl, h⟩
    exact ⟨_, _, rfl, h⟩
theorem drawsD_ok {S : Hs} {x : D} {ns : List Int} (hx : seqD x S = some (ns.map D.int)) (hn : ns.length ≤ 63) :
    Wp NoX (m_drawsD [x] S) fun v S' => ∃ (q : Nat) (row : List Int), v = .ref q ∧ S'[q]? = some (.lst (row.map D.int)) ∧ S.length ≤ q ∧ Kp [] S S' := by
  refine wp_def0 rfl ?_
  unfold b_drawsD
  have hlen : bLen [x] (S ++ [.lst []]) = .ok (.int (ns.length : Int)) (S ++ [.lst []]) := by
    have := lenD_seq (seqD_more (g := [.lst []]) hx)
    simp [bLen, this]
  have hmin : bMin [.int (ns.length : Int), .int 63] (S ++ [.lst []]) = .ok (.int (ns.length : Int)) (S ++ [.lst []]) := by
    simp only [bMin]; rw [if_neg (by omega)]
  simp_arith [hlen, hmin, rng1 (n := (ns.length : Int)) (S ++ [.lst []]) (by omega) (by omega), Int.toNat_natCast]
  refine wp_rng (fun k l S' => (∃ (o2 o3 o4 o5 : Option D), l = [some x, some (.ref S.length), o2, o3, o4, o5]) ∧ OutL S S.length (20 * k) S') ⟨⟨_, _, _, _, rfl⟩, [], by simp, by simp, Kp.new, Nat.le_refl _⟩ ?_ ?_
  · rintro k l S' hk ⟨⟨o2, o3, o4, o5, rfl⟩, hO⟩
    obtain ⟨row, h1, h2, h3, h4⟩ := id hO
    have hxS : seqD x S' = some (ns.map D.int) := by
      unfold seqD at hx ⊢
      split at hx
      · split at hx <;> first | (rename_i z; rw [h3.get z (by simp)]; exact hx) | cases hx
      · exact hx
      · cases hx
    have hix : oIx x (.int (0 + (k : Int))) S' = .ok (.int ns[k]) S' := oIx_seq hxS (by omega) (by simp; omega) (by simp [List.getElem?_eq_getElem hk])
    have m1 : ∀ c : Int, IntMulOk c 48271 := fun c => mulok_r (by decide)
    have m2 : ∀ c : Int, IntMulOk c 69621 := fun c => mulok_r (by decide)
    unfold lb_dD2
    simp_arith [hix, bAbs_int, pow18, oGe_int]
    generalize hc : (if ns[k] < 0 then -ns[k] else ns[k]) = c
    by_cases h0 : 1000000000000000000 ≤ c
    · simp_arith [h0, rng1 S' (show (-1000000000:Int) ≤ 20 by decide) (show (20:Int) ≤ 1000000000 by decide)]
      refine (dD0_ok (n := 20 * k) (by omega) hO).mono (fun _ _ _ _ h => h) ?_
      rintro r S2 ⟨o3, o4, rfl, hO'⟩
      exact ⟨⟨_, _, _, _, rfl⟩, hO'.mono (by omega)⟩
    · simp_arith [h0, hix, oMul_int (m1 _), oMul_int (m2 _), oAdd_int, bInt_int, oMod_int (show (0:Int) < 2147483647 by decide), rng1 S' (show (-1000000000:Int) ≤ 3 by decide) (show (3:Int) ≤ 1000000000 by decide)]
      refine (dD1_ok (n := 20 * k) (by omega) (by omega) hO).mono (fun _ _ _ _ h => h) ?_
      rintro r S2 ⟨o4, o5, rfl, hO'⟩
      exact ⟨⟨_, _, _, _, rfl⟩, hO'.mono (by omega)⟩
  · rintro l S' ⟨⟨o2, o3, o4, o5, rfl⟩, row, e1, e2, e3, e4⟩
    simp_arith []
    exact ⟨_, row, rfl, e1, e4, e3⟩
theorem readerD_ok {S : Hs} {x : D} {ns : List Int} (hx : seqD x S = some (ns.map D.int)) (hn : ns.length ≤ 63) :
    Wp NoX (m_readerD [x] S) fun v S' => ∃ i j, v = .ref i ∧ DrwN S' i j ∧ S.length ≤ i ∧ S.length ≤ j ∧ Kp [] S S' := by
  refine wp_def0 rfl ?_
  unfold b_readerD
  simp_arith []
  refine Wp.call (drawsD_ok hx hn) ?_
  rintro _ S1 ⟨q, row, rfl, h1, h2, h3⟩
  have hxS : seqD x S1 = some (ns.map D.int) := by
    unfold seqD at hx ⊢
    split at hx
    · split at hx <;> first | (rename_i z; rw [h3.get z (by simp)]; exact hx) | cases hx
    · exact hx
    · cases hx
  have hlen : bLen [x] S1 = .ok (.int (ns.length : Int)) S1 := by
    have := lenD_seq hxS
    simp [bLen, this]
  have fin : ∀ (sd : Int), Wp NoX (mRet (mDisp (dpCons (mC (.str "row")) (mVar 1) (dpCons (mC (.str "at")) (mC (.int 0)) (dpCons (mC (.str "seed")) (mVar 2) dpNil)))) [some x, some (.ref q), some (.int sd)] S1) (enK fun v S' => ∃ i j, v = .ref i ∧ DrwN S' i j ∧ S.length ≤ i ∧ S.length ≤ j ∧ Kp [] S S') := by
    intro sd
    simp_arith []
    refine v_disp ?_
    simp_arith [v_dpCons, k_dp, k_dp2, v_dpNil, k_dp3]
    refine disp_end (kvs := drawsK (.ref q) (.int 0) (.int sd)) (by simp [keysP, D.key, drawsK]) (by simp) (by simp [mergeD, drawsK, setK, ofString_inj]) ?_
    simp_arith []
    refine ⟨_, q, rfl, ⟨row, 0, sd, by simp [drawsO], by rw [List.getElem?_append_left (Real.lt h1)]; exact h1, by have := Real.lt h1; omega, Int.le_refl _⟩, h3.le, h2, h3.app⟩
  simp_arith [hlen, oGt_int, -v_ret, -v_seq]
  rw [v_seq]
  by_cases h0 : (0 : Int) < (ns.length : Int)
  · have hix : oIx x (.int (-1)) S1 = .ok (.int (ns.getD (ns.length - 1) 0)) S1 := by
      refine oIx_at hxS ?_
      have e1 : ¬ (0 : Int) ≤ -1 := by decide
      have e2 : -((ns.map D.int).length : Int) ≤ -1 := by simp; omega
      have e3 : (-1 + ((ns.map D.int).length : Int)).toNat = ns.length - 1 := by simp; omega
      unfold L2.atI L2.ixN
      rw [if_neg e1, if_pos e2, e3]
      have : ns.length - 1 < ns.length := by omega
      simp [List.getD, List.getElem?_eq_getElem this]
    simp_arith [h0, hlen, oGt_int, show ∀ (z : Int) S, oNeg (.int z) S = .ok (.int (-z)) S from fun _ _ => rfl, hix, bAbs_int, oMod_int (show (0:Int) < 1000003 by decide), -v_ret]
    exact fin _
  · simp_arith [h0, hlen, oGt_int, -v_ret]
    exact fin _
theorem rng2 {a b : Int} (S : Hs) (h0 : -1000000000 ≤ a) (h1 : a ≤ 1000000000) (h2 : -1000000000 ≤ b) (h3 : b ≤ 1000000000) : oRng2 [.int a, .int b] S = .ok (.rng a (b - a).toNat) S := by
  have e1 : -(2 ^ 62) ≤ (-1000000000 : Int) := by decide +kernel
  have e2 : (1000000000 : Int) < 2 ^ 62 := by decide +kernel
  simp only [oRng2]
  rw [if_pos ⟨Int.le_trans e1 h0, Int.lt_of_le_of_lt h1 e2, Int.le_trans e1 h2, Int.lt_of_le_of_lt h3 e2⟩]
/-- [.. for x in range(m)], where each takes draws -/
theorem lc_drawN {α : Type} {X : XP} {Q : D → Hs → Prop} {te : M} {l : Ls} {s : Nat} {lo : Int} {m : Nat} {S : Hs} {i j : Nat} (f : α → D) (P : Nat → α → Prop) (h : DrwN S i j) (hm : m ≤ 1000000)
    (ht : ∀ k S', k < m → DrwN S' i j → Kp [i] S S' → Wp NoX (te (l.set s (some (.int (lo + k)))) S') fun v S2 => ∃ x, v = f x ∧ P k x ∧ DrwN S2 i j ∧ Kp [i] S' S2)
    (hd : ∀ (xs : List α) (S' : Hs), xs.length = m → (∀ k x, xs[k]? = some x → P k x) → S'[S.length]? = some (.lst (xs.map f)) → DrwN S' i j → Kp [i] S S' → Q (.ref S.length) S') :
    Wp X (cLoop (.rng lo m) (cN s) mYes te l S.length 0 (S ++ [.lst []])) Q := by
  have hi := h.lt
  have hj := h.ltj
  refine wp_lcRng (fun k acc S' => ∃ xs : List α, acc = xs.map f ∧ xs.length = k ∧ (∀ k x, xs[k]? = some x → P k x) ∧ S'[S.length]? = some (.lst acc) ∧ DrwN S' i j ∧ Kp [i] S S') ⟨[], rfl, rfl, by simp, by simp, h.new, Kp.new⟩ ?_ ?_
  · rintro k acc S' hk ⟨xs, rfl, hl, hp, hq, hn, hK⟩
    refine ⟨_, rfl, ?_⟩
    simp_arith []
    refine (ht k S' hk hn hK).mono (fun _ _ _ _ h => h) ?_
    rintro v S2 ⟨x, rfl, px, hn2, hK2⟩
    have hq2 := hK2.get hq (by simp; omega)
    refine ⟨hq2, by simp only [List.length_map]; exact line_big (by omega), xs ++ [x], by simp, by simp [hl], ?_, get_put hq2, hn2.kp (A := [S.length]) (Kp.set (by simp)) (by simp; omega) (by simp; omega), (hK.trans hK2).setNew (Nat.le_refl _)⟩
    intro k' x' e
    by_cases hk' : k' < xs.length
    · rw [List.getElem?_append_left hk'] at e; exact hp _ _ e
    · rw [List.getElem?_append_right (by omega)] at e
      have : k' - xs.length = 0 := by
        rcases Nat.eq_zero_or_pos (k' - xs.length) with z | z
        · exact z
        · rw [List.getElem?_eq_none (by simp; omega)] at e; cases e
      rw [this] at e
      simp at e
      subst e
      have : k' = k := by omega
      rw [this]; exact px
  · rintro acc S' ⟨xs, rfl, hl, hp, hq, hD, hK⟩
    exact hd xs S' hl hp hq hD hK
theorem cutD_from {ds : List D} {k : Nat} : cutD ds (some (k : Int)) none = ds.drop k := by
  unfold cutD
  rw [HT.sIx_nat, HT.sIx_none]
  by_cases h : k ≤ ds.length
  · rw [Nat.min_eq_left h, List.take_of_length_le (by simp)]
  · rw [Nat.min_eq_right (by omega), List.drop_of_length_le (Nat.le_refl _), List.drop_of_length_le (by omega)]; simp
theorem cutD_to {ds : List D} {k : Nat} : cutD ds none (some (k : Int)) = ds.take k := by
  unfold cutD
  rw [HT.sIx_nat, HT.sIx_none]
  simp only [List.drop_zero, Nat.sub_zero]
  by_cases h : k ≤ ds.length
  · rw [Nat.min_eq_left h]
  · rw [Nat.min_eq_right (by omega), List.take_of_length_le (Nat.le_refl _), List.take_of_length_le (by omega)]
theorem oSl_lst {S : Hs} {i : Nat} {ds : List D} {a b : Option Int} (h : S[i]? = some (.lst ds)) : oSl (.ref i) a b S = .ok (.ref S.length) (S ++ [.lst (cutD ds a b)]) := by simp [oSl, h]
theorem tix0 {xs : List D} {d : D} {S : Hs} : oIx (.tup (d :: xs)) (.int 0) S = .ok d S := by simp [oIx, L2.atI, L2.ixN]
theorem tix1 {xs : List D} {d e : D} {S : Hs} : oIx (.tup (d :: e :: xs)) (.int 1) S = .ok e S := by
  have : (1 : Int) < ((d :: e :: xs).length : Int) := by simp only [List.length_cons]; omega
  simp only [oIx, L2.atI, L2.ixN]; rw [if_pos (by decide), if_pos this]; rfl
theorem tix2 {xs : List D} {d e f : D} {S : Hs} : oIx (.tup (d :: e :: f :: xs)) (.int 2) S = .ok f S := by
  have : (2 : Int) < ((d :: e :: f :: xs).length : Int) := by simp only [List.length_cons]; omega
  simp only [oIx, L2.atI, L2.ixN]; rw [if_pos (by decide), if_pos this]; rfl
theorem tix3 {xs : List D} {d e f g : D} {S : Hs} : oIx (.tup (d :: e :: f :: g :: xs)) (.int 3) S = .ok g S := by
  have : (3 : Int) < ((d :: e :: f :: g :: xs).length : Int) := by simp only [List.length_cons]; omega
  simp only [oIx, L2.atI, L2.ixN]; rw [if_pos (by decide), if_pos this]; rfl
end Ly
set_option Elab.async false
set_option linter.all false
set_option maxRecDepth 100000
namespace Ly
open PySem PySem.Spec L2
open PyProof.Rows hiding St
local macro_rules | `(tactic| simp_arith [$ls,*]) => `(tactic| simp only [Ly.line_le, Ly.atX_no, Ly.v_ok, Ly.v_bad, Ly.v_bind, Ly.k_bd, Ly.v_at, Ly.v_bin, Ly.k_bi, Ly.k_bi2, Ly.v_var, Ly.v_c, Ly.v_un, Ly.k_un, Ly.v_if, Ly.k_ife, Ly.v_and, Ly.k_and, Ly.k_and2, Ly.v_or, Ly.k_or, Ly.k_or2, Ly.v_tup, Ly.k_tup, Ly.v_lst, Ly.k_lst, Ly.v_call, Ly.k_ca, Ly.v_fn, Ly.k_fn, Ly.v_bm, Ly.k_bm, Ly.k_bm2, Ly.v_sl, Ly.k_sl, Ly.k_sl2, Ly.k_sl3, Ly.v_ixK, Ly.k_ixk, Ly.v_inK, Ly.k_ink, Ly.v_notinK, Ly.k_nink, Ly.v_getK2, Ly.k_gk2, Ly.k_gk, Ly.v_get2, Ly.k_g2, Ly.k_g22, Ly.k_g23, Ly.v_nil, Ly.v_cons, Ly.k_co, Ly.k_co2, Ly.v_no, Ly.v_some, Ly.k_so, Ly.k_cm, Ly.v_cmp, Ly.v_tru, Ly.k_tr, Ly.v_notB, Ly.k_no, Ly.v_andB, Ly.k_an, Ly.v_orB, Ly.k_orb, Ly.v_yes, Ly.v_inKB, Ly.k_inkB, Ly.v_notinKB, Ly.k_ninkB, Ly.v_set, Ly.k_st, Ly.v_expr, Ly.k_ex, Ly.v_ret, Ly.k_re, Ly.v_retN, Ly.v_pass, Ly.v_brk, Ly.v_cnt, Ly.v_seq, Ly.k_sq_nx, Ly.k_sq_rt, Ly.k_sq_bk, Ly.k_sq_ct, Ly.v_ifS, Ly.k_ifs, Ly.v_asg, Ly.k_as, Ly.k_as2, Ly.v_aug, Ly.k_au, Ly.v_for, Ly.k_fo, Ly.v_it, Ly.k_it, Ly.k_ij, Ly.v_rng1, Ly.v_rng2, Ly.v_enum, Ly.v_zip, Ly.v_gN, Ly.v_gsN, Ly.v_gsC, Ly.k_gc, Ly.v_gT, Ly.v_gTw, Ly.v_gSb, Ly.k_gsb, Ly.k_gsb2, Ly.k_gsb3, Ly.k_en_rt, Ly.k_en_nx, Ly.k_tu_nx, Ly.k_tu_ct, Ly.k_tu_bk, Ly.k_tu_rt, Ly.v_lc, Ly.k_lc, Ly.v_augI, Ly.k_ag, Ly.k_ag2, Ly.k_ag3, Ly.k_ag4, Ly.k_ag5, Ly.v_del, Ly.k_dl, Ly.k_dl2, Ly.v_setd, Ly.v_pop2, Ly.k_d3, Ly.k_d32, Ly.k_d33, Ly.v_get1, Ly.k_g1, Ly.k_g12, Ly.v_rg1, Ly.k_rg, Ly.v_rg2, Ly.k_rg2, Ly.k_rg22, Ly.v_dicK, Ly.v_dicT, Ly.v_dc, Ly.k_dc, List.getElem?_cons_zero, List.getElem?_cons_succ, List.set_cons_zero, List.set_cons_succ, List.length_cons, List.length_nil, List.map_cons, List.map_nil, List.cons_append, List.nil_append, List.replicate, if_true, if_false, Bool.false_eq_true, Bool.not_true, Bool.not_false, Bool.true_and, Bool.false_and, decide_true, decide_false, decide_eq_true_eq, Nat.zero_add, Nat.reduceAdd, Nat.reduceLeDiff, true_and, and_true, $ls,*])
/-! ### words and their signs -/
theorem bit_or (a b : Nat) : Builtin.bitOr (a : Int) (b : Int) = ((a ||| b : Nat) : Int) := by
  have h1 : ∀ n : Nat, Builtin.bitNot (n : Int) = -(n : Int) - 1 := fun n => by simp [Builtin.bitNot]
  have h2 : ∀ n : Nat, Builtin.bitNot (-(n : Int) - 1) = (n : Int) := fun n => by simp [Builtin.bitNot]; omega
  unfold Builtin.bitOr
  rw [h1, h1]
  have d1 : decide (0 ≤ -(a : Int) - 1) = false := by simp; omega
  have d2 : decide (0 ≤ -(b : Int) - 1) = false := by simp; omega
  simp only [Builtin.bitAnd, d1, d2, h2, Int.toNat_natCast]
  rw [h1, h2]
def bitN (n k : Nat) : Nat := n / 2 ^ k % 2
theorem bitN_test (n k : Nat) : bitN n k = if n.testBit k then 1 else 0 := by
  rw [Nat.testBit_eq_decide_div_mod_eq]
  unfold bitN
  have := Nat.mod_lt (n / 2 ^ k) (show 2 > 0 by decide)
  by_cases h : n / 2 ^ k % 2 = 1
  · simp [h]
  · simp [h]; omega
theorem mod_step (n k : Nat) : n % 2 ^ (k + 1) = n % 2 ^ k + 2 ^ k * bitN n k := Nat.mod_pow_succ
theorem or_split (x y : Nat) : ∀ k, (x ||| y) % 2 ^ k = (x ^^^ y) % 2 ^ k + (x &&& y) % 2 ^ k
  | 0 => by simp [Nat.mod_one]
  | k + 1 => by
    rw [mod_step, mod_step, mod_step, or_split x y k, bitN_test, bitN_test, bitN_test, Nat.testBit_or, Nat.testBit_xor, Nat.testBit_and]
    cases x.testBit k <;> cases y.testBit k <;> simp <;> omega
theorem bit_xor {a b : Nat} (ha : a < 2 ^ 32) (hb : b < 2 ^ 32) : Builtin.bitXor (a : Int) (b : Int) = ((a ^^^ b : Nat) : Int) := by
  unfold Builtin.bitXor
  rw [bit_or, PySem.W.os_band]
  have h := or_split a b 32
  rw [Nat.mod_eq_of_lt (Nat.or_lt_two_pow ha hb), Nat.mod_eq_of_lt (Nat.xor_lt_two_pow ha hb), Nat.mod_eq_of_lt (Nat.and_lt_two_pow a hb)] at h
  omega
/-- what a sign makes of two words -/
def opN (s : Str) (a b : Nat) : Nat :=
  if s = "+" then (a + b) % 4294967296
  else if s = "-" then (a + 4294967296 - b) % 4294967296
  else if s = "*" then a * b % 4294967296
  else if s = "&" then a &&& b
  else if s = "|" then a ||| b
  else if s = "^" then a ^^^ b
  else if s = "<<" then a * 2 ^ (b % 32) % 4294967296
  else if s = ">>" then a / 2 ^ (b % 32)
  else if s = "==" then (if a = b then 1 else 0)
  else if s = "<" then (if a < b then 1 else 0)
  else if s = "<=" then (if a ≤ b then 1 else 0)
  else if s = "div" then a / b
  else a % b
theorem pow_big {n : Nat} : (2 : Nat) ^ 32 = 4294967296 := by decide +kernel
theorem opN_lt {s : Str} {a b : Nat} (ha : a < 4294967296) (hb : b < 4294967296) : opN s a b < 4294967296 := by
  have g : ∀ (c : Prop) [Decidable c] (x y : Nat), x < 4294967296 → y < 4294967296 → (if c then x else y) < 4294967296 := fun c _ x y hx hy => by
    by_cases h : c
    · rw [if_pos h]; exact hx
    · rw [if_neg h]; exact hy
  have m : ∀ x : Nat, x % 4294967296 < 4294967296 := fun x => Nat.mod_lt _ (by decide)
  have ha' : a < 2 ^ 32 := by rw [pow_big (n := 0)]; exact ha
  have hb' : b < 2 ^ 32 := by rw [pow_big (n := 0)]; exact hb
  have p : (2 : Nat) ^ 32 = 4294967296 := pow_big (n := 0)
  exact g _ _ _ (m _) (g _ _ _ (m _) (g _ _ _ (m _) (g _ _ _ (Nat.lt_of_le_of_lt Nat.and_le_left ha) (g _ _ _ (p ▸ Nat.or_lt_two_pow ha' hb') (g _ _ _ (p ▸ Nat.xor_lt_two_pow ha' hb') (g _ _ _ (m _) (g _ _ _ (Nat.lt_of_le_of_lt (Nat.div_le_self _ _) ha)
    (g _ _ _ (g _ _ _ (by decide) (by decide)) (g _ _ _ (g _ _ _ (by decide) (by decide)) (g _ _ _ (g _ _ _ (by decide) (by decide)) (g _ _ _ (Nat.lt_of_le_of_lt (Nat.div_le_self _ _) ha) (Nat.lt_of_le_of_lt (Nat.mod_le _ _) ha))))))))))))
/-! the program's defs of the signs -/
abbrev gw : D := .int 4294967295
noncomputable def m_s0 : MD := mDef 2 0 (mRet (mBin oAnd (mBin oAdd (mVar 0) (mVar 1)) (mC gw)))
noncomputable def m_s1 : MD := mDef 2 0 (mRet (mBin oAnd (mBin oSub (mVar 0) (mVar 1)) (mC gw)))
noncomputable def m_s2 : MD := mDef 2 0 (mRet (mBin oAnd (mBin oMul (mVar 0) (mVar 1)) (mC gw)))
noncomputable def m_s3 : MD := mDef 2 0 (mRet (mBin oAnd (mVar 0) (mVar 1)))
noncomputable def m_s4 : MD := mDef 2 0 (mRet (mBin oOr (mVar 0) (mVar 1)))
noncomputable def m_s5 : MD := mDef 2 0 (mRet (mBin oXor (mVar 0) (mVar 1)))
noncomputable def m_s6 : MD := mDef 2 0 (mRet (mBin oAnd (mBin oShl (mVar 0) (mBin oAnd (mVar 1) (mC (.int 31)))) (mC gw)))
noncomputable def m_s7 : MD := mDef 2 0 (mRet (mBin oShr (mVar 0) (mBin oAnd (mVar 1) (mC (.int 31)))))
noncomputable def m_s8 : MD := mDef 2 0 (mRet (mIf (mCmp oEq (mVar 0) (mVar 1)) (mC (.int 1)) (mC (.int 0))))
noncomputable def m_s9 : MD := mDef 2 0 (mRet (mIf (mCmp oLt (mVar 0) (mVar 1)) (mC (.int 1)) (mC (.int 0))))
noncomputable def m_s10 : MD := mDef 2 0 (mRet (mIf (mCmp oLe (mVar 0) (mVar 1)) (mC (.int 1)) (mC (.int 0))))
noncomputable def m_s11 : MD := mDef 2 0 (mRet (mIf (mCmp oEq (mVar 1) (mC (.int 0))) (mC (.int 0)) (mBin oFdiv (mVar 0) (mVar 1))))
noncomputable def m_s12 : MD := mDef 2 0 (mRet (mIf (mCmp oEq (mVar 1) (mC (.int 0))) (mVar 0) (mBin oMod (mVar 0) (mVar 1))))
theorem log2_small {n : Nat} (h : n < 4294967296) : n.log2 < 9000 := by
  rcases Nat.eq_zero_or_pos n with rfl | h0
  · decide
  · have := (Nat.log2_lt (by omega)).mpr (show n < 2 ^ 32 by rw [pow_big (n := 0)]; exact h); omega
theorem oAnd_int {a b : Int} {S : Hs} : oAnd (.int a) (.int b) S = .ok (.int (Builtin.bitAnd a b)) S := nr rfl
theorem oOr_int {a b : Int} {S : Hs} : oOr (.int a) (.int b) S = .ok (.int (Builtin.bitOr a b)) S := nr rfl
theorem oXor_int {a b : Int} {S : Hs} : oXor (.int a) (.int b) S = .ok (.int (Builtin.bitXor a b)) S := nr rfl
theorem oShr_int {a b : Int} {S : Hs} (h : 0 ≤ b) : oShr (.int a) (.int b) S = .ok (.int (a / 2 ^ b.toNat)) S := by simp [oShr, h]
theorem oShl_int {a b : Int} {S : Hs} (h : 0 ≤ b) (h2 : b ≤ 1000000) (h3 : a.natAbs < 2 ^ 64) : oShl (.int a) (.int b) S = .ok (.int (a * 2 ^ b.toNat)) S := by simp [oShl, h, h2, h3]
theorem nat64 {a : Nat} (h : a < 4294967296) : ((a : Nat) : Int).natAbs < 2 ^ 64 := by
  have : (2:Nat)^64 = 18446744073709551616 := by decide +kernel
  rw [this]; omega
theorem int_pow {k : Nat} : ((2 : Int) ^ k) = ((2 ^ k : Nat) : Int) := by simp
section
variable {a b : Nat} {S : Hs}
theorem s0_ok (ha : a < 4294967296) (hb : b < 4294967296) : Wp NoX (m_s0 [nD a, nD b] S) fun v S' => v = nD (opN "+" a b) ∧ S' = S := by
  refine wp_def0 rfl ?_
  simp_arith [oAdd_int, oAnd_int, bitAnd_m32]
  simp [opN, nD]
theorem s1_ok (ha : a < 4294967296) (hb : b < 4294967296) : Wp NoX (m_s1 [nD a, nD b] S) fun v S' => v = nD (opN "-" a b) ∧ S' = S := by
  refine wp_def0 rfl ?_
  simp_arith [oSub_int, oAnd_int, bitAnd_m32]
  have : ((opN "-" a b : Nat) : Int) = ((a : Int) - (b : Int)) % 4294967296 := by
    simp only [opN, ofString_inj, String.reduceEq, if_false, if_true]
    omega
  rw [← this]
theorem s2_ok (ha : a < 4294967296) (hb : b < 4294967296) : Wp NoX (m_s2 [nD a, nD b] S) fun v S' => v = nD (opN "*" a b) ∧ S' = S := by
  refine wp_def0 rfl ?_
  simp_arith [oMul_int (mulok_r (nat64 hb)), oAnd_int, bitAnd_m32]
  have : ((opN "*" a b : Nat) : Int) = ((a : Int) * (b : Int)) % 4294967296 := by
    simp only [opN, ofString_inj, String.reduceEq, if_false, if_true]
    simp
  rw [← this]
theorem s3_ok (ha : a < 4294967296) (hb : b < 4294967296) : Wp NoX (m_s3 [nD a, nD b] S) fun v S' => v = nD (opN "&" a b) ∧ S' = S := by
  refine wp_def0 rfl ?_
  simp_arith [oAnd_int, PySem.W.os_band]
  simp [opN, ofString_inj]
theorem s4_ok (ha : a < 4294967296) (hb : b < 4294967296) : Wp NoX (m_s4 [nD a, nD b] S) fun v S' => v = nD (opN "|" a b) ∧ S' = S := by
  refine wp_def0 rfl ?_
  simp_arith [oOr_int, bit_or]
  simp [opN, ofString_inj]
theorem s5_ok (ha : a < 4294967296) (hb : b < 4294967296) : Wp NoX (m_s5 [nD a, nD b] S) fun v S' => v = nD (opN "^" a b) ∧ S' = S := by
  refine wp_def0 rfl ?_
  simp_arith [oXor_int, bit_xor (show a < 2 ^ 32 by rw [pow_big (n := 0)]; exact ha) (show b < 2 ^ 32 by rw [pow_big (n := 0)]; exact hb)]
  simp [opN, ofString_inj]
theorem s6_ok (ha : a < 4294967296) (hb : b < 4294967296) : Wp NoX (m_s6 [nD a, nD b] S) fun v S' => v = nD (opN "<<" a b) ∧ S' = S := by
  refine wp_def0 rfl ?_
  have e : (b : Int) % 32 = ((b % 32 : Nat) : Int) := by omega
  have e2 : b % 32 ≤ 1000000 := by omega
  simp_arith [oAnd_int, bitAnd_m5, e, oShl_int (Int.natCast_nonneg (b % 32)) (Int.ofNat_le.mpr e2) (nat64 ha), bitAnd_m32, Int.toNat_natCast]
  have : ((opN "<<" a b : Nat) : Int) = ((a : Int) * 2 ^ (b % 32)) % 4294967296 := by
    simp only [opN, ofString_inj, String.reduceEq, if_false, if_true]
    simp
  rw [← this]
theorem s7_ok (ha : a < 4294967296) (hb : b < 4294967296) : Wp NoX (m_s7 [nD a, nD b] S) fun v S' => v = nD (opN ">>" a b) ∧ S' = S := by
  refine wp_def0 rfl ?_
  have e : (b : Int) % 32 = ((b % 32 : Nat) : Int) := by omega
  simp_arith [oAnd_int, bitAnd_m5, e, oShr_int (Int.natCast_nonneg (b % 32)), Int.toNat_natCast]
  have : ((opN ">>" a b : Nat) : Int) = (a : Int) / 2 ^ (b % 32) := by
    simp only [opN, ofString_inj, String.reduceEq, if_false, if_true]
    simp
  rw [← this]
theorem s8_ok (ha : a < 4294967296) (hb : b < 4294967296) : Wp NoX (m_s8 [nD a, nD b] S) fun v S' => v = nD (opN "==" a b) ∧ S' = S := by
  refine wp_def0 rfl ?_
  simp_arith [oEq_int, Int.natCast_inj]
  by_cases h : a = b <;> simp [h, opN, ofString_inj, v_ok]
theorem s9_ok (ha : a < 4294967296) (hb : b < 4294967296) : Wp NoX (m_s9 [nD a, nD b] S) fun v S' => v = nD (opN "<" a b) ∧ S' = S := by
  refine wp_def0 rfl ?_
  simp_arith [oLt_int, Int.ofNat_lt]
  by_cases h : a < b <;> simp [h, opN, ofString_inj, v_ok]
theorem s10_ok (ha : a < 4294967296) (hb : b < 4294967296) : Wp NoX (m_s10 [nD a, nD b] S) fun v S' => v = nD (opN "<=" a b) ∧ S' = S := by
  refine wp_def0 rfl ?_
  simp_arith [oLe_int, Int.ofNat_le]
  by_cases h : a ≤ b <;> simp [h, opN, ofString_inj, v_ok]
theorem s11_ok (ha : a < 4294967296) (hb : b < 4294967296) : Wp NoX (m_s11 [nD a, nD b] S) fun v S' => v = nD (opN "div" a b) ∧ S' = S := by
  refine wp_def0 rfl ?_
  simp_arith [oEq_int]
  by_cases h : b = 0
  · subst h; simp [opN, ofString_inj]
  · have h0 : ¬ (b : Int) = 0 := by omega
    have h1 : (0 : Int) < (b : Int) := by omega
    simp_arith [h0, oFdiv_int h1 (by rw [Int.natAbs_natCast]; exact log2_small hb)]
    simp [opN, ofString_inj]
theorem s12_ok (ha : a < 4294967296) (hb : b < 4294967296) : Wp NoX (m_s12 [nD a, nD b] S) fun v S' => v = nD (opN "mod" a b) ∧ S' = S := by
  refine wp_def0 rfl ?_
  simp_arith [oEq_int]
  by_cases h : b = 0
  · subst h; simp [opN, ofString_inj]
  · have h0 : ¬ (b : Int) = 0 := by omega
    have h1 : (0 : Int) < (b : Int) := by omega
    simp_arith [h0, oMod_int h1]
    simp [opN, ofString_inj]
end
end Ly
set_option Elab.async false
set_option linter.all false
set_option maxRecDepth 100000
namespace Ly
open PySem PySem.Spec L2
open PyProof.Rows hiding St
local macro_rules | `(tactic| simp_arith [$ls,*]) => `(tactic| simp only [Ly.line_le, Ly.atX_no, Ly.v_ok, Ly.v_bad, Ly.v_bind, Ly.k_bd, Ly.v_at, Ly.v_bin, Ly.k_bi, Ly.k_bi2, Ly.v_var, Ly.v_c, Ly.v_un, Ly.k_un, Ly.v_if, Ly.k_ife, Ly.v_and, Ly.k_and, Ly.k_and2, Ly.v_or, Ly.k_or, Ly.k_or2, Ly.v_tup, Ly.k_tup, Ly.v_lst, Ly.k_lst, Ly.v_call, Ly.k_ca, Ly.v_fn, Ly.k_fn, Ly.v_bm, Ly.k_bm, Ly.k_bm2, Ly.v_sl, Ly.k_sl, Ly.k_sl2, Ly.k_sl3, Ly.v_ixK, Ly.k_ixk, Ly.v_inK, Ly.k_ink, Ly.v_notinK, Ly.k_nink, Ly.v_getK2, Ly.k_gk2, Ly.k_gk, Ly.v_get2, Ly.k_g2, Ly.k_g22, Ly.k_g23, Ly.v_nil, Ly.v_cons, Ly.k_co, Ly.k_co2, Ly.v_no, Ly.v_some, Ly.k_so, Ly.k_cm, Ly.v_cmp, Ly.v_tru, Ly.k_tr, Ly.v_notB, Ly.k_no, Ly.v_andB, Ly.k_an, Ly.v_orB, Ly.k_orb, Ly.v_yes, Ly.v_inKB, Ly.k_inkB, Ly.v_notinKB, Ly.k_ninkB, Ly.v_set, Ly.k_st, Ly.v_expr, Ly.k_ex, Ly.v_ret, Ly.k_re, Ly.v_retN, Ly.v_pass, Ly.v_brk, Ly.v_cnt, Ly.v_seq, Ly.k_sq_nx, Ly.k_sq_rt, Ly.k_sq_bk, Ly.k_sq_ct, Ly.v_ifS, Ly.k_ifs, Ly.v_asg, Ly.k_as, Ly.k_as2, Ly.v_aug, Ly.k_au, Ly.v_for, Ly.k_fo, Ly.v_it, Ly.k_it, Ly.k_ij, Ly.v_rng1, Ly.v_rng2, Ly.v_enum, Ly.v_zip, Ly.v_gN, Ly.v_gsN, Ly.v_gsC, Ly.k_gc, Ly.v_gT, Ly.v_gTw, Ly.v_gSb, Ly.k_gsb, Ly.k_gsb2, Ly.k_gsb3, Ly.k_en_rt, Ly.k_en_nx, Ly.k_tu_nx, Ly.k_tu_ct, Ly.k_tu_bk, Ly.k_tu_rt, Ly.v_lc, Ly.k_lc, Ly.v_augI, Ly.k_ag, Ly.k_ag2, Ly.k_ag3, Ly.k_ag4, Ly.k_ag5, Ly.v_del, Ly.k_dl, Ly.k_dl2, Ly.v_setd, Ly.v_pop2, Ly.k_d3, Ly.k_d32, Ly.k_d33, Ly.v_get1, Ly.k_g1, Ly.k_g12, Ly.v_rg1, Ly.k_rg, Ly.v_rg2, Ly.k_rg2, Ly.k_rg22, Ly.v_dicK, Ly.v_dicT, Ly.v_dc, Ly.k_dc, List.getElem?_cons_zero, List.getElem?_cons_succ, List.set_cons_zero, List.set_cons_succ, List.length_cons, List.length_nil, List.map_cons, List.map_nil, List.cons_append, List.nil_append, List.replicate, if_true, if_false, Bool.false_eq_true, Bool.not_true, Bool.not_false, Bool.true_and, Bool.false_and, decide_true, decide_false, decide_eq_true_eq, Nat.zero_add, Nat.reduceAdd, Nat.reduceLeDiff, true_and, and_true, $ls,*])
/-! ### lists of numbers, dicts with numbers as keys -/
abbrev nDs (L : List Nat) : List D := L.map nD
def natDic (L : List Nat) (v : D) : List (Key × D) := L.map fun n : Nat => ((Sum.inl (n : Int) : Key), v)
theorem natDic_get {L : List Nat} {v : D} {n : Nat} : getK (natDic L v) (.inl (n : Int)) = if n ∈ L then some v else none := by
  induction L with
  | nil => rfl
  | cons a L ih =>
    unfold natDic getK at *
    simp only [List.map_cons, List.find?_cons]
    by_cases h : a = n
    · subst h; simp
    · have h1 : ¬ (Sum.inl (a : Int) : Key) = Sum.inl (n : Int) := by simp; omega
      have h2 : (n ∈ a :: L) = (n ∈ L) := by simp [Ne.symm h]
      simp only [decide_eq_false h1, h2]
      exact ih
theorem natDic_any {L : List Nat} {v : D} {n : Nat} : ((natDic L v).any fun kv => decide (kv.1 = (Sum.inl (n : Int) : Key))) = decide (n ∈ L) := by
  induction L with
  | nil => simp [natDic]
  | cons a L ih =>
    unfold natDic at *
    simp only [List.map_cons, List.any_cons, ih]
    by_cases h : a = n
    · subst h; simp
    · have h1 : ¬ (Sum.inl (a : Int) : Key) = Sum.inl (n : Int) := by simp; omega
      have h2 : (n ∈ a :: L) = (n ∈ L) := by simp [Ne.symm h]
      simp only [decide_eq_false h1, Bool.false_or, h2]
def addN (L : List Nat) (n : Nat) : List Nat := if n ∈ L then L else L ++ [n]
theorem natDic_set {L : List Nat} {v : D} {n : Nat} : setK (natDic L v) (.inl (n : Int)) v = natDic (addN L n) v := by
  unfold setK addN
  rw [natDic_any]
  by_cases h : n ∈ L
  · simp only [h, decide_true, if_true]
    have : ∀ kvs : List (Key × D), (∀ kv ∈ kvs, kv.2 = v) → (kvs.map fun kv => if kv.1 = (Sum.inl (n : Int) : Key) then (kv.1, v) else kv) = kvs := by
      intro kvs
      induction kvs with
      | nil => intro _; rfl
      | cons a r ih =>
        intro hh
        rw [List.map_cons, ih fun kv hk => hh kv (List.mem_cons_of_mem _ hk)]
        have := hh a (List.mem_cons_self ..)
        split
        · obtain ⟨k, d⟩ := a; cases this; rfl
        · rfl
    refine this _ fun kv hk => ?_
    unfold natDic at hk
    rw [List.mem_map] at hk
    obtain ⟨_, _, rfl⟩ := hk; rfl
  · simp [h, natDic]
theorem mem_addN {L : List Nat} {n x : Nat} : x ∈ addN L n ↔ x ∈ L ∨ x = n := by
  unfold addN; split
  · constructor
    · exact .inl
    · rintro (h | rfl) <;> assumption
  · simp
theorem nodup_addN {L : List Nat} {n : Nat} (h : L.Nodup) : (addN L n).Nodup := by
  unfold addN; split
  · exact h
  · rename_i hn
    rw [List.nodup_append]
    refine ⟨h, by simp, fun a ha b hb => ?_⟩
    simp only [List.mem_singleton] at hb
    subst hb; intro e; exact hn (e ▸ ha)
theorem nodup_len {L : List Nat} {n : Nat} (h : L.Nodup) (hb : ∀ x ∈ L, x < n) : L.length ≤ n := by
  have p : L.Perm ((List.range n).filter (fun x => decide (x ∈ L))) := by
    rw [List.perm_ext_iff_of_nodup h (List.Nodup.sublist List.filter_sublist List.nodup_range)]
    intro a
    simp only [List.mem_filter, List.mem_range, decide_eq_true_eq]
    exact ⟨fun ha => ⟨hb a ha, ha⟩, fun ha => ha.2⟩
  have := p.length_eq
  have h2 := List.length_filter_le (fun x => decide (x ∈ L)) (List.range n)
  simp at h2
  omega
theorem intKeys_nat {L : List Nat} {v : D} : intKeys (natDic L v) = some (L.map Int.ofNat) := by
  induction L with
  | nil => rfl
  | cons a L ih =>
    unfold natDic at *
    simp only [List.map_cons, intKeys, ih, Option.map_some]
    rfl
theorem intsD_nat {L : List Nat} : intsD (nDs L) = some (L.map Int.ofNat) := by
  induction L with
  | nil => rfl
  | cons a L ih => simp only [List.map_cons, nDs, nD, intsD] at *; rw [ih]; rfl
def sortN (L : List Nat) : List Nat := L.mergeSort (fun a b => decide (a ≤ b))
theorem sortN_perm (L : List Nat) : (sortN L).Perm L := List.mergeSort_perm _ _
theorem sortN_pw (L : List Nat) : (sortN L).Pairwise (· ≤ ·) := by
  have := List.pairwise_mergeSort (le := fun a b : Nat => decide (a ≤ b)) (fun a b c h1 h2 => by simp at *; omega) (fun a b => by simp; omega) L
  exact this.imp fun h => by simpa using h
theorem sortI_nat {L : List Nat} : (sortI (L.map Int.ofNat)).map D.int = nDs (sortN L) := by
  have : sortI (L.map Int.ofNat) = (sortN L).map Int.ofNat := by
    symm
    refine sortI_uniq ((sortN_perm L).map _) ?_
    rw [List.pairwise_map]
    exact (sortN_pw L).imp fun h => Int.ofNat_le.mpr h
  rw [this, List.map_map]; rfl
theorem sortN_eq {L M : List Nat} (h : L.Nodup) (h' : M.Nodup) (e : ∀ x, x ∈ L ↔ x ∈ M) : sortN L = sortN M := by
  have p : L.Perm M := (List.perm_ext_iff_of_nodup h h').mpr e
  exact List.Perm.eq_of_pairwise (fun a b _ _ h1 h2 => Nat.le_antisymm h1 h2) (sortN_pw L) (sortN_pw M) (((sortN_perm L).trans p).trans (sortN_perm M).symm)
theorem bSorted_dic {S : Hs} {q : Nat} {L : List Nat} {v : D} (h : S[q]? = some (.dic (natDic L v))) (hl : L.length < 64) : bSorted [.ref q] S = .ok (.ref S.length) (S ++ [.lst (nDs (sortN L))]) := by
  simp [bSorted, seqD, h, intKeys_nat, hl, sortI_nat]
theorem bSorted_lst {S : Hs} {q : Nat} {L : List Nat} (h : S[q]? = some (.lst (nDs L))) : bSorted [.ref q] S = .ok (.ref S.length) (S ++ [.lst (nDs (sortN L))]) := by
  simp [bSorted, seqD, h, intsD_nat, sortI_nat]
theorem eqF_nat {a b : Nat} : eqF (nD a) (nD b) = decide (a = b) := by
  unfold nD eqF; rw [Bool.eq_iff_iff]; simp; omega
theorem any_nats {L : List Nat} {n : Nat} : (nDs L).any (fun z => eqF z (nD n)) = decide (n ∈ L) := by
  induction L with
  | nil => simp
  | cons a L ih =>
    simp only [List.map_cons, List.any_cons, eqF_nat]
    rw [ih]
    by_cases h : a = n
    · subst h; simp
    · simp [h, Ne.symm h]
theorem flat_nats {L : List Nat} : (nDs L).all flatD = true := by
  simp [flatD]
theorem oIn_lst {S : Hs} {q n : Nat} {L : List Nat} (h : S[q]? = some (.lst (nDs L))) : oIn (nD n) (.ref q) S = .ok (.bl (decide (n ∈ L))) S := by
  have e : cIn (nD n) (.ref q) S = some (decide (n ∈ L)) := by
    have hf : (flatD (nD n) && (nDs L).all flatD) = true := by rw [flat_nats]; rfl
    simp only [cIn, h, hf, if_true, any_nats]
  simp only [oIn, e]
theorem oNotIn_lst {S : Hs} {q n : Nat} {L : List Nat} (h : S[q]? = some (.lst (nDs L))) : oNotIn (nD n) (.ref q) S = .ok (.bl (!decide (n ∈ L))) S := by
  have e : cIn (nD n) (.ref q) S = some (decide (n ∈ L)) := by
    have hf : (flatD (nD n) && (nDs L).all flatD) = true := by rw [flat_nats]; rfl
    simp only [cIn, h, hf, if_true, any_nats]
  simp only [oNotIn, e]
theorem oIn_dic {S : Hs} {q n : Nat} {L : List Nat} {v : D} (h : S[q]? = some (.dic (natDic L v))) : oIn (nD n) (.ref q) S = .ok (.bl (decide (n ∈ L))) S := by
  have e : cIn (nD n) (.ref q) S = some (decide (n ∈ L)) := by
    have hf : dGet (.ref q) (nD n) S = some (if n ∈ L then some v else none) := by rw [dGet_dic h (key_int)]; rw [natDic_get]
    simp only [cIn, h, hf, Option.map_some]
    by_cases hh : n ∈ L <;> simp [hh]
  simp only [oIn, e]
theorem oNotIn_dic {S : Hs} {q n : Nat} {L : List Nat} {v : D} (h : S[q]? = some (.dic (natDic L v))) : oNotIn (nD n) (.ref q) S = .ok (.bl (!decide (n ∈ L))) S := by
  have e : cIn (nD n) (.ref q) S = some (decide (n ∈ L)) := by
    have hf : dGet (.ref q) (nD n) S = some (if n ∈ L then some v else none) := by rw [dGet_dic h (key_int)]; rw [natDic_get]
    simp only [cIn, h, hf, Option.map_some]
    by_cases hh : n ∈ L <;> simp [hh]
  simp only [oNotIn, e]
/-- texts in a row of texts -/
theorem eqF_str {a b : Str} : eqF (.str a) (.str b) = decide (a = b) := by
  unfold eqF; by_cases h : a = b <;> simp [h]
theorem oIn_strs {S : Hs} {x : Str} {xs : List Str} {y : D} (h : y = .tup (xs.map D.str) ∨ y = .wt (xs.map D.str) ∨ ∃ q, y = .ref q ∧ S[q]? = some (.lst (xs.map D.str))) : oIn (.str x) y S = .ok (.bl (decide (x ∈ xs))) S := by
  have ha : (xs.map D.str).any (fun z => eqF z (.str x)) = decide (x ∈ xs) := by
    clear h
    induction xs with
    | nil => simp
    | cons a L ih =>
      simp only [List.map_cons, List.any_cons, eqF_str]
      rw [ih]
      by_cases h : a = x
      · subst h; simp
      · simp [h, Ne.symm h]
  have hf : (flatD (.str x) && (xs.map D.str).all flatD) = true := by simp [flatD]
  have e : cIn (.str x) y S = some (decide (x ∈ xs)) := by
    rcases h with rfl | rfl | ⟨q, rfl, h⟩
    · simp only [cIn, hf, if_true, ha]
    · simp only [cIn, hf, if_true, ha]
    · simp only [cIn, h, hf, if_true, ha]
  simp only [oIn, e]
theorem atI_lit {α : Type} {xs : List α} {n : Nat} {x : α} (h : xs[n]? = some x) : L2.atI xs (n : Int) = some x := by
  obtain ⟨h1, _⟩ := List.getElem?_eq_some_iff.mp h
  rw [atI_nat (by omega) (by omega)]; simpa using h
theorem oIx_tup {S : Hs} {ds : List D} {n : Nat} {d : D} (h : ds[n]? = some d) : oIx (.tup ds) (.int (n : Int)) S = .ok d S := by simp [oIx, atI_lit h]
/-! ### what rows write and read -/
def Row.wr : Row → Option Nat
  | .const d _ => some d
  | .copy d _ => some d
  | .op _ d _ _ => some d
  | .select d _ _ _ => some d
  | .load d _ _ => some d
  | _ => none
def Row.rd : Row → List Nat
  | .copy _ a => [a]
  | .op _ _ a b => [a, b]
  | .select _ c a b => [c, a, b]
  | .load _ _ a => [a]
  | .store _ a v => [a, v]
  | .out a => [a]
  | .branch a _ _ => [a]
  | .stop a => [a]
  | _ => []
theorem rd_len (r : Row) : r.rd.length ≤ 3 := by cases r <;> simp [Row.rd]
theorem Row.ok.wr_lt {nr na nb : Nat} {r : Row} (h : r.ok nr na nb) {d : Nat} (e : r.wr = some d) : d < nr := by
  cases r <;> simp only [Row.wr, Option.some.injEq, reduceCtorEq] at e <;> subst e <;> first | exact h.1 | exact h.2.1
theorem Row.ok.rd_lt {nr na nb : Nat} {r : Row} (h : r.ok nr na nb) {x : Nat} (e : x ∈ r.rd) : x < nr := by
  cases r <;> simp [Row.rd, Row.ok] at e h <;> omega
def formsT : List (Str × D) := [("const", (.wt [(.str "write"), (.str "word")])), ("copy", (.wt [(.str "write"), (.str "read")])), ("op", (.wt [(.str "sign"), (.str "write"), (.str "read"), (.str "read")])), ("select", (.wt [(.str "write"), (.str "read"), (.str "read"), (.str "read")])), ("load", (.wt [(.str "write"), (.str "array"), (.str "read")])), ("store", (.wt [(.str "array"), (.str "read"), (.str "read")])), ("out", (.wt [(.str "read")])), ("jump", (.wt [(.str "block")])), ("branch", (.wt [(.str "read"), (.str "block"), (.str "block")])), ("stop", (.wt [(.str "read")]))]
noncomputable def b_partsL : MS := (mSeq (mSet 2 (mIxK formsT (mBin oIx (mVar 0) (mC (.int 0)))))
    (mRet (mCall bTuple (lCons (mLc (mZip (lCons (mSl (mVar 0) (oSome (mC (.int 1))) oNo) (lCons (mVar 2) lNil))) (cT [3, 4]) (mCmp oEq (mVar 4) (mVar 1)) (mVar 3) [3, 4]) lNil))))
noncomputable def m_partsL : MD := mDef 2 3 b_partsL
/-- [a for a, b in zip(xs, ys) if b == k] -/
theorem lc_zip {X : XP} {Q : D → Hs → Prop} {s t u : Nat} {l : Ls} {S : Hs} {xs : List D} {ys : List Str} {kind : Str} (hl : xs.length = ys.length) (hs : s < l.length) (ht : t < l.length) (hst : s ≠ t) (hu : l[u]? = some (some (.str kind))) (hus : u ≠ s) (hut : u ≠ t) (hx : xs.length ≤ 1000000)
    (hd : ∀ S', S'[S.length]? = some (.lst (((xs.zip ys).filter fun p => decide (p.2 = kind)).map (·.1))) → Kp [] S S' → Q (.ref S.length) S') :
    Wp X (cLoop (.zip (.t xs) (.t (ys.map D.str))) (cT [s, t]) (mCmp oEq (mVar t) (mVar u)) (mVar s) l S.length 0 (S ++ [.lst []])) Q := by
  refine wp_cLoop xs.length (fun k acc S' => acc = (((xs.zip ys).take k).filter fun p => decide (p.2 = kind)).map (·.1) ∧ S'[S.length]? = some (.lst acc) ∧ Kp [] S S') (fun acc S' h => ?_) (fun k acc S' hk h => ?_) (fun acc S' h => ?_) xs.length 0 [] _ (by omega) ⟨by simp, by simp, Kp.new⟩
  · simp only [itGo, Sq.at, List.length_map]
    rw [if_pos (by omega), List.getElem?_eq_none (by omega)]
  · obtain ⟨rfl, h1, h2⟩ := h
    have hk2 : k < ys.length := by omega
    have ex : xs[k]? = some xs[k] := List.getElem?_eq_getElem hk
    have ey : (ys.map D.str)[k]? = some (.str ys[k]) := by simp [List.getElem?_eq_getElem hk2]
    have ez : (xs.zip ys)[k]? = some (xs[k], ys[k]) := by rw [List.getElem?_zip_eq_some]; exact ⟨ex, List.getElem?_eq_getElem hk2⟩
    refine ⟨.tup [xs[k], .str ys[k]], ?_, (l.set s (some xs[k])).set t (some (.str ys[k])), rfl, ?_⟩
    · simp only [itGo, Sq.at, List.length_map]
      rw [if_pos (by omega), ex, ey]
    · have e1 : ((l.set s (some xs[k])).set t (some (.str ys[k])))[t]? = some (some (.str ys[k])) := List.getElem?_set_self (by simpa using ht)
      have e2 : ((l.set s (some xs[k])).set t (some (.str ys[k])))[s]? = some (some xs[k]) := by rw [List.getElem?_set_ne (Ne.symm hst)]; exact List.getElem?_set_self hs
      have e3 : ((l.set s (some xs[k])).set t (some (.str ys[k])))[u]? = some (some (.str kind)) := by rw [List.getElem?_set_ne (Ne.symm hut), List.getElem?_set_ne (Ne.symm hus)]; exact hu
      have hlen : ((((xs.zip ys).take k).filter fun p => decide (p.2 = kind)).map (·.1)).length < sizeLine := by
        refine line_big ?_
        rw [List.length_map]
        refine Nat.le_trans (List.length_filter_le _ _) ?_
        simp; omega
      simp_arith [e1, e2, e3, oEq_str]
      rw [take_at ez, List.filter_append, List.map_append]
      by_cases hc : ys[k] = kind
      · simp only [hc, List.filter_cons, decide_true, if_true, List.filter_nil, List.map_cons, List.map_nil]
        exact ⟨h1, hlen, trivial, get_put h1, h2.setNew (Nat.le_refl _)⟩
      · simp only [hc, List.filter_cons, decide_false, Bool.false_eq_true, if_false, List.filter_nil, List.map_nil, List.append_nil]
        exact ⟨trivial, h1, h2⟩
  · obtain ⟨rfl, h1, h2⟩ := h
    refine hd S' ?_ h2
    rw [List.take_of_length_le (by simp; omega)] at h1
    exact h1
def kindOf : Row → Str → List Nat
  | r, k => if k = "write" then r.wr.toList else r.rd
theorem cut1 {d : D} {ds : List D} : cutD (d :: ds) (some 1) none = ds := by
  simp only [cutD, HT.sIx]
  simp
theorem lookup_forms (r : Row) : ∃ w ds fs, r.D = .tup (.str w :: ds) ∧ formsT.lookup w = some (.wt (fs.map D.str)) ∧ ds.length = fs.length ∧ ds.length ≤ 4 ∧
    (∀ k : Str, k = "write" ∨ k = "read" → ((ds.zip fs).filter fun p => decide (p.2 = k)).map (·.1) = nDs (kindOf r k)) := by
  have hw : ("read" : Str) ≠ "write" := by simp [ofString_inj]
  cases r with
  | const d n => exact ⟨"const", _, ["write", "word"], rfl, by simp [formsT, List.lookup, beq_lit], rfl, by simp, by rintro k (rfl | rfl) <;> simp [kindOf, Row.wr, Row.rd, ofString_inj, nDs]⟩
  | copy d a => exact ⟨"copy", _, ["write", "read"], rfl, by simp [formsT, List.lookup, beq_lit], rfl, by simp, by rintro k (rfl | rfl) <;> simp [kindOf, Row.wr, Row.rd, ofString_inj, nDs]⟩
  | op s d a b => exact ⟨"op", _, ["sign", "write", "read", "read"], rfl, by simp [formsT, List.lookup, beq_lit], rfl, by simp, by rintro k (rfl | rfl) <;> simp [kindOf, Row.wr, Row.rd, ofString_inj, nDs]⟩
  | select d c a b => exact ⟨"select", _, ["write", "read", "read", "read"], rfl, by simp [formsT, List.lookup, beq_lit], rfl, by simp, by rintro k (rfl | rfl) <;> simp [kindOf, Row.wr, Row.rd, ofString_inj, nDs]⟩
  | load d i a => exact ⟨"load", _, ["write", "array", "read"], rfl, by simp [formsT, List.lookup, beq_lit], rfl, by simp, by rintro k (rfl | rfl) <;> simp [kindOf, Row.wr, Row.rd, ofString_inj, nDs]⟩
  | store i a v => exact ⟨"store", _, ["array", "read", "read"], rfl, by simp [formsT, List.lookup, beq_lit], rfl, by simp, by rintro k (rfl | rfl) <;> simp [kindOf, Row.wr, Row.rd, ofString_inj, nDs]⟩
  | out a => exact ⟨"out", _, ["read"], rfl, by simp [formsT, List.lookup, beq_lit], rfl, by simp, by rintro k (rfl | rfl) <;> simp [kindOf, Row.wr, Row.rd, ofString_inj, nDs]⟩
  | jump t => exact ⟨"jump", _, ["block"], rfl, by simp [formsT, List.lookup, beq_lit], rfl, by simp, by rintro k (rfl | rfl) <;> simp [kindOf, Row.wr, Row.rd, ofString_inj, nDs]⟩
  | branch a t u => exact ⟨"branch", _, ["read", "block", "block"], rfl, by simp [formsT, List.lookup, beq_lit], rfl, by simp, by rintro k (rfl | rfl) <;> simp [kindOf, Row.wr, Row.rd, ofString_inj, nDs]⟩
  | stop a => exact ⟨"stop", _, ["read"], rfl, by simp [formsT, List.lookup, beq_lit], rfl, by simp, by rintro k (rfl | rfl) <;> simp [kindOf, Row.wr, Row.rd, ofString_inj, nDs]⟩
theorem partsL_ok {S : Hs} (r : Row) {k : Str} (hk : k = "write" ∨ k = "read") : Wp NoX (m_partsL [r.D, .str k] S) fun v S' => v = .tup (nDs (kindOf r k)) ∧ Kp [] S S' := by
  obtain ⟨w, ds, fs, e1, e2, e3, e4, e5⟩ := lookup_forms r
  rw [e1]
  refine wp_def0 rfl ?_
  unfold b_partsL
  have h0 : ∀ S, oIx (.tup (.str w :: ds)) (.int 0) S = .ok (.str w) S := fun S => oIx_tup (n := 0) rfl
  have h1 : ∀ S, oZip [.tup ds, .wt (fs.map D.str)] S = .ok (.zip (.t ds) (.t (fs.map D.str))) S := fun S => rfl
  simp_arith [h0, e2, oSl, cut1, h1, wipeL]
  refine lc_zip e3 (by simp) (by simp) (by decide) (by rfl) (by decide) (by decide) (by omega) ?_
  intro S' h2 h3
  simp_arith [bTuple_lst h2]
  exact ⟨by rw [e5 k hk], h3⟩
end Ly
set_option Elab.async false
set_option linter.all false
set_option maxRecDepth 100000
namespace Ly
open PySem PySem.Spec L2
open PyProof.Rows hiding St
local macro_rules | `(tactic| simp_arith [$ls,*]) => `(tactic| simp only [Ly.line_le, Ly.atX_no, Ly.v_ok, Ly.v_bad, Ly.v_bind, Ly.k_bd, Ly.v_at, Ly.v_bin, Ly.k_bi, Ly.k_bi2, Ly.v_var, Ly.v_c, Ly.v_un, Ly.k_un, Ly.v_if, Ly.k_ife, Ly.v_and, Ly.k_and, Ly.k_and2, Ly.v_or, Ly.k_or, Ly.k_or2, Ly.v_tup, Ly.k_tup, Ly.v_lst, Ly.k_lst, Ly.v_call, Ly.k_ca, Ly.v_fn, Ly.k_fn, Ly.v_bm, Ly.k_bm, Ly.k_bm2, Ly.v_sl, Ly.k_sl, Ly.k_sl2, Ly.k_sl3, Ly.v_ixK, Ly.k_ixk, Ly.v_inK, Ly.k_ink, Ly.v_notinK, Ly.k_nink, Ly.v_getK2, Ly.k_gk2, Ly.k_gk, Ly.v_get2, Ly.k_g2, Ly.k_g22, Ly.k_g23, Ly.v_nil, Ly.v_cons, Ly.k_co, Ly.k_co2, Ly.v_no, Ly.v_some, Ly.k_so, Ly.k_cm, Ly.v_cmp, Ly.v_tru, Ly.k_tr, Ly.v_notB, Ly.k_no, Ly.v_andB, Ly.k_an, Ly.v_orB, Ly.k_orb, Ly.v_yes, Ly.v_inKB, Ly.k_inkB, Ly.v_notinKB, Ly.k_ninkB, Ly.v_set, Ly.k_st, Ly.v_expr, Ly.k_ex, Ly.v_ret, Ly.k_re, Ly.v_retN, Ly.v_pass, Ly.v_brk, Ly.v_cnt, Ly.v_seq, Ly.k_sq_nx, Ly.k_sq_rt, Ly.k_sq_bk, Ly.k_sq_ct, Ly.v_ifS, Ly.k_ifs, Ly.v_asg, Ly.k_as, Ly.k_as2, Ly.v_aug, Ly.k_au, Ly.v_for, Ly.k_fo, Ly.v_it, Ly.k_it, Ly.k_ij, Ly.v_rng1, Ly.v_rng2, Ly.v_enum, Ly.v_zip, Ly.v_gN, Ly.v_gsN, Ly.v_gsC, Ly.k_gc, Ly.v_gT, Ly.v_gTw, Ly.v_gSb, Ly.k_gsb, Ly.k_gsb2, Ly.k_gsb3, Ly.k_en_rt, Ly.k_en_nx, Ly.k_tu_nx, Ly.k_tu_ct, Ly.k_tu_bk, Ly.k_tu_rt, Ly.v_lc, Ly.k_lc, Ly.v_augI, Ly.k_ag, Ly.k_ag2, Ly.k_ag3, Ly.k_ag4, Ly.k_ag5, Ly.v_del, Ly.k_dl, Ly.k_dl2, Ly.v_setd, Ly.v_pop2, Ly.k_d3, Ly.k_d32, Ly.k_d33, Ly.v_get1, Ly.k_g1, Ly.k_g12, Ly.v_rg1, Ly.k_rg, Ly.v_rg2, Ly.k_rg2, Ly.k_rg22, Ly.v_dicK, Ly.v_dicT, Ly.v_dc, Ly.k_dc, List.getElem?_cons_zero, List.getElem?_cons_succ, List.set_cons_zero, List.set_cons_succ, List.length_cons, List.length_nil, List.map_cons, List.map_nil, List.cons_append, List.nil_append, List.replicate, if_true, if_false, Bool.false_eq_true, Bool.not_true, Bool.not_false, Bool.true_and, Bool.false_and, decide_true, decide_false, decide_eq_true_eq, Nat.zero_add, Nat.reduceAdd, Nat.reduceLeDiff, true_and, and_true, $ls,*])
/-! ### which registers get secrets -/
def secArr (arrs : List Arr) (i : Nat) : Bool := match arrs[i]? with
  | some a => decide (a.label = "secret")
  | none => false
def secLoad (arrs : List Arr) : Row → Bool
  | .load _ i _ => secArr arrs i
  | _ => false
inductive Sec (arrs : List Arr) (labels : List Str) (rows : List Row) : Nat → Prop
  | param {k : Nat} : labels[k]? = some ("secret" : Str) → Sec arrs labels rows k
  | load {r : Row} {d : Nat} : r ∈ rows → secLoad arrs r = true → r.wr = some d → Sec arrs labels rows d
  | dep {r : Row} {d x : Nat} : r ∈ rows → r.wr = some d → x ∈ r.rd → Sec arrs labels rows x → Sec arrs labels rows d
theorem Sec.lt {arrs : List Arr} {labels : List Str} {rows : List Row} {nr na nb n : Nat} (h : Sec arrs labels rows n) (hl : labels.length ≤ nr) (hr : ∀ r ∈ rows, r.ok nr na nb) : n < nr := by
  induction h with
  | param h => obtain ⟨h, _⟩ := List.getElem?_eq_some_iff.mp h; omega
  | load h1 h2 h3 => exact (hr _ h1).wr_lt h3
  | dep h1 h2 h3 h4 ih => exact (hr _ h1).wr_lt h2
/-! the dict of lists -/
def mkDic (ps : List (Nat × Nat)) : List (Key × D) := ps.map fun p => ((Sum.inl (p.1 : Int) : Key), D.ref p.2)
structure Mk (S : Hs) (m : Nat) (ps : List (Nat × Nat)) (f : Nat → List Nat) : Prop where
  d : S[m]? = some (.dic (mkDic ps))
  n1 : (ps.map (·.1)).Nodup
  n2 : (ps.map (·.2)).Nodup
  lo : ∀ p ∈ ps, m < p.2
  li : ∀ p ∈ ps, S[p.2]? = some (.lst (nDs (f p.1)))
  no : ∀ n, n ∉ ps.map (·.1) → f n = []
theorem nodup_inj {α β : Type} {g : α → β} {xs : List α} (h : (xs.map g).Nodup) {a b : α} (ha : a ∈ xs) (hb : b ∈ xs) (e : g a = g b) : a = b := by
  induction xs with
  | nil => cases ha
  | cons x xs ih =>
    simp only [List.map_cons, List.nodup_cons] at h
    rcases List.mem_cons.mp ha with ea | ha'
    · rcases List.mem_cons.mp hb with eb | hb'
      · rw [ea, eb]
      · exact absurd (List.mem_map.mpr ⟨b, hb', by rw [← e, ea]⟩) h.1
    · rcases List.mem_cons.mp hb with eb | hb'
      · exact absurd (List.mem_map.mpr ⟨a, ha', by rw [e, eb]⟩) h.1
      · exact ih h.2 ha' hb'
theorem mkDic_get {ps : List (Nat × Nat)} (h : (ps.map (·.1)).Nodup) {n r : Nat} (hm : (n, r) ∈ ps) : getK (mkDic ps) (.inl (n : Int)) = some (.ref r) := by
  induction ps with
  | nil => cases hm
  | cons a ps ih =>
    simp only [List.map_cons, List.nodup_cons] at h
    unfold mkDic getK at *
    simp only [List.map_cons, List.find?_cons]
    rcases List.mem_cons.mp hm with e | hm
    · subst e; simp
    · have h1 : a.1 ≠ n := fun e => h.1 (by rw [e]; exact List.mem_map.mpr ⟨_, hm, rfl⟩)
      have h2 : ¬ ((Sum.inl (a.1 : Int) : Key) = Sum.inl (n : Int)) := by simp; omega
      simp only [decide_eq_false h2]
      exact ih h.2 hm
theorem mkDic_none {ps : List (Nat × Nat)} {n : Nat} (h : n ∉ ps.map (·.1)) : getK (mkDic ps) (.inl (n : Int)) = none := by
  unfold mkDic getK
  rw [Option.map_eq_none_iff, List.find?_eq_none]
  intro x hx
  rw [List.mem_map] at hx
  obtain ⟨p, hp, rfl⟩ := hx
  simp only [decide_eq_true_eq, Sum.inl.injEq]
  intro e
  exact h (List.mem_map.mpr ⟨p, hp, by show p.1 = n; omega⟩)
theorem mkDic_new {ps : List (Nat × Nat)} {n r : Nat} (h : n ∉ ps.map (·.1)) : setK (mkDic ps) (.inl (n : Int)) (.ref r) = mkDic (ps ++ [(n, r)]) := by
  unfold setK
  have : ((mkDic ps).any fun kv => decide (kv.1 = (Sum.inl (n : Int) : Key))) = false := by
    rw [List.any_eq_false]
    intro x hx
    unfold mkDic at hx
    rw [List.mem_map] at hx
    obtain ⟨p, hp, rfl⟩ := hx
    simp only [decide_eq_true_eq, Sum.inl.injEq]
    intro e
    exact h (List.mem_map.mpr ⟨p, hp, by show p.1 = n; omega⟩)
  rw [if_neg (by rw [this]; simp)]; simp [mkDic]
def updF (f : Nat → List Nat) (n w : Nat) : Nat → List Nat := fun x => if x = n then f x ++ [w] else f x
theorem Mk.keep {S S' : Hs} {m : Nat} {ps : List (Nat × Nat)} {f : Nat → List Nat} (h : Mk S m ps f) {A : List Nat} (k : Kp A S S') (hA : ∀ i ∈ A, i < m) : Mk S' m ps f :=
  ⟨k.get h.d (fun e => by have := hA _ e; omega), h.n1, h.n2, h.lo, fun p hp => k.get (h.li p hp) (fun e => by have := hA _ e; have := h.lo p hp; omega), h.no⟩
/-- all below b stands as it did -/
def Kb (b : Nat) (S S' : Hs) : Prop := S.length ≤ S'.length ∧ ∀ i, i < b → S'[i]? = S[i]?
theorem Kb.trans {b : Nat} {S S1 S2 : Hs} (h : Kb b S S1) (h' : Kb b S1 S2) : Kb b S S2 := ⟨Nat.le_trans h.1 h'.1, fun i hi => (h'.2 i hi).trans (h.2 i hi)⟩
theorem Kb.of {b : Nat} {A : List Nat} {S S' : Hs} (h : Kp A S S') (hA : ∀ i ∈ A, b ≤ i) (hb : b ≤ S.length) : Kb b S S' := ⟨h.1, fun i hi => h.2 i (by omega) fun e => by have := hA i e; omega⟩
theorem Kb.refl {b : Nat} {S : Hs} : Kb b S S := ⟨Nat.le_refl _, fun _ _ => rfl⟩
theorem Kb.get {b i : Nat} {S S' : Hs} {o : O} (h : Kb b S S') (e : S[i]? = some o) (hi : i < b) : S'[i]? = some o := (h.2 i hi).trans e
theorem Kb.kp {b : Nat} {S0 S S' : Hs} (k : Kp [] S0 S) (h : Kb b S S') (hb : S0.length ≤ b) : Kp [] S0 S' := ⟨Nat.le_trans k.1 h.1, fun i hi hn => (h.2 i (by omega)).trans (k.2 i hi hn)⟩
theorem setd_ok {S : Hs} {m : Nat} {ps : List (Nat × Nat)} {f : Nat → List Nat} {n w : Nat} {l : Ls} {i j k : Nat} (h : Mk S m ps f) (hi : l[i]? = some (some (.ref m))) (hj : l[j]? = some (some (nD n))) (hk : l[k]? = some (some (nD w))) (hf : (f n).length < 1000000) (hp : ps.length < 1000000) :
    Wp NoX (mExpr (mBM "list" oAppend (mSetd (mVar i) (mVar j) (mLst lNil)) (lCons (mVar k) lNil)) l S) fun r S' => r = .nx l ∧ (∃ ps', Mk S' m ps' (updF f n w) ∧ ps'.length ≤ ps.length + 1) ∧ Kb m S S' := by
  have hm : m < S.length := Real.lt h.d
  have ht : hasTy "dict" (.ref m) S = true := by simp [hasTy, h.d]
  simp_arith [hi, hj, hk, ht]
  have hd1 : (S ++ [O.lst []])[m]? = some (.dic (mkDic ps)) := by rw [List.getElem?_append_left hm]; exact h.d
  have hps : (mkDic ps).length < sizeLine := by simp only [mkDic, List.length_map]; exact line_big (by omega)
  by_cases hn : n ∈ ps.map (·.1)
  · rw [List.mem_map] at hn
    obtain ⟨⟨n', r⟩, hm', rfl⟩ := hn
    simp only at hj hf ⊢
    have e1 : oSetd (.ref m) (nD n') (.ref S.length) (S ++ [O.lst []]) = .ok (.ref r) (S ++ [O.lst []]) := by
      simp only [oSetd, hd1, key_int, hps, if_true, mkDic_get h.n1 hm']
    have hr : S[r]? = some (.lst (nDs (f n'))) := h.li _ hm'
    have hr1 : (S ++ [O.lst []])[r]? = some (.lst (nDs (f n'))) := by rw [List.getElem?_append_left (Real.lt hr)]; exact hr
    simp_arith [e1, hasTy_lst hr1, hk, oAppend_lst hr1 (by simp only [List.length_map]; exact line_big (by omega))]
    have hmr : m < r := h.lo _ hm'
    refine ⟨⟨ps, ⟨by rw [List.getElem?_set_ne (by omega)]; exact hd1, h.n1, h.n2, h.lo, fun p hp => ?_, fun x hx => ?_⟩, by omega⟩, ?_⟩
    · by_cases hpr : p.2 = r
      · have : p = (n', r) := nodup_inj h.n2 hp hm' hpr
        subst this
        simp only
        rw [get_put hr1]; simp [updF]
      · rw [List.getElem?_set_ne (Ne.symm hpr), List.getElem?_append_left (Real.lt (h.li p hp)), h.li p hp]
        have : p.1 ≠ n' := fun e => hpr (congrArg Prod.snd (nodup_inj h.n1 hp hm' e))
        simp [updF, this]
    · have : x ≠ n' := fun e => hx (e ▸ List.mem_map.mpr ⟨_, hm', rfl⟩)
      simp [updF, this, h.no x hx]
    · exact ⟨by simp, fun i hi => by rw [List.getElem?_set_ne (by omega), List.getElem?_append_left (by omega)]⟩
  · have e1 : oSetd (.ref m) (nD n) (.ref S.length) (S ++ [O.lst []]) = .ok (.ref S.length) ((S ++ [O.lst []]).set m (.dic (mkDic (ps ++ [(n, S.length)])))) := by
      simp only [oSetd, hd1, key_int, hps, if_true, mkDic_none hn, mkDic_new hn]
    have hr1 : ((S ++ [O.lst []]).set m (.dic (mkDic (ps ++ [(n, S.length)]))))[S.length]? = some (.lst []) := by rw [List.getElem?_set_ne (by omega)]; simp
    simp_arith [e1, hasTy_lst hr1, hk, oAppend_lst hr1 (by simp only [List.length_nil]; exact line_big (by omega))]
    have hfn := h.no n hn
    have hlt : ∀ p ∈ ps, p.2 < S.length := fun p hp => Real.lt (h.li p hp)
    refine ⟨⟨ps ++ [(n, S.length)], ⟨?_, ?_, ?_, ?_, ?_, ?_⟩, by simp⟩, ?_⟩
    · rw [List.getElem?_set_ne (by omega)]; exact get_put hd1
    · rw [List.map_append, List.nodup_append]
      exact ⟨h.n1, by simp, fun a ha b hb e => by simp at hb; subst hb; subst e; exact hn ha⟩
    · rw [List.map_append, List.nodup_append]
      refine ⟨h.n2, by simp, fun a ha b hb e => ?_⟩
      simp at hb; subst hb; subst e
      rw [List.mem_map] at ha
      obtain ⟨p, hp, e⟩ := ha
      have := hlt p hp; omega
    · intro p hp
      rcases List.mem_append.mp hp with hp | hp
      · exact h.lo p hp
      · simp at hp; subst hp; exact hm
    · intro p hp
      rcases List.mem_append.mp hp with hp | hp
      · have h1 := hlt p hp
        have h2 := h.lo p hp
        have : p.1 ≠ n := fun e => hn (e ▸ List.mem_map.mpr ⟨p, hp, rfl⟩)
        rw [List.getElem?_set_ne (by omega), List.getElem?_set_ne (by omega), List.getElem?_append_left h1, h.li p hp]
        simp [updF, this]
      · simp at hp; subst hp
        rw [get_put hr1]
        simp [updF, hfn]
    · intro x hx
      simp only [List.map_append, List.map_cons, List.map_nil, List.mem_append, List.mem_singleton, not_or] at hx
      simp [updF, hx.2, h.no x hx.1]
    · exact ⟨by simp, fun i hi => by rw [List.getElem?_set_ne (by omega), List.getElem?_set_ne (by omega), List.getElem?_append_left (by omega)]⟩
noncomputable def lb_sec0 : MS := (mExpr (mBM "list" oAppend (mSetd (mVar 3) (mVar 7) (mLst lNil)) (lCons (mVar 6) lNil)))
noncomputable def lb_sec1 : MS := (mSeq (mIfS (mAndB (mCmp oEq (mBin oIx (mVar 5) (mC (.int 0))) (mC (.str "load"))) (mCmp oEq (mBin oIx (mBin oIx (mBin oIx (mVar 0) (mC (.int 0))) (mBin oIx (mVar 5) (mC (.int 2)))) (mC (.int 2))) (mC (.str "secret")))) (mExpr (mBM "list" oAppend (mVar 2) (lCons (mVar 6) lNil))) mPass)
    (mFor (mIt (mFn m_partsL (lCons (mVar 5) (lCons (mC (.str "read")) lNil)))) (gN 7) lb_sec0))
noncomputable def lb_sec2 : MS := (mFor (mIt (mFn m_partsL (lCons (mVar 5) (lCons (mC (.str "write")) lNil)))) (gN 6) lb_sec1)
noncomputable def lb_sec3 : MS := (mFor (mIt (mVar 4)) (gN 5) lb_sec2)
noncomputable def c_sec4 : MB := (mTru (mVar 2))
noncomputable def lb_sec5 : MS := (mSeq (mSet 6 (mBM "list" oPop (mVar 2) lNil))
    (mIfS (mCmp oNotIn (mVar 6) (mVar 8)) (mSeq (mAsg (mC (.bl true)) (gSb (mVar 8) (mVar 6)))
    (mExpr (mBM "list" oExtend (mVar 2) (lCons (mGet2 (mVar 3) (mVar 6) (mLst lNil)) lNil)))) mPass))
noncomputable def b_secR : MS := (mSeq (mSet 2 (mLc (mEnum (lCons (mVar 1) lNil)) (cT [6, 9]) (mCmp oEq (mVar 9) (mC (.str "secret"))) (mVar 6) [6, 9]))
    (mSeq (mSet 3 mDicK)
    (mSeq (mFor (mIt (mBin oIx (mVar 0) (mC (.int 2)))) (gN 4) lb_sec3)
    (mSeq (mSet 8 mDicK)
    (mSeq (mWhile c_sec4 lb_sec5)
    (mRet (mVar 8)))))))
noncomputable def m_secR : MD := mDef 2 8 b_secR
section
variable {arrs : List Arr} {labels : List Str} {rows : List Row} {nr na nb : Nat}
/-- what has been gathered of some rows -/
structure Gath (arrs : List Arr) (labels : List Str) (done : List Row) (W : List Nat) (f : Nat → List Nat) : Prop where
  gw : ∀ x, x ∈ W ↔ labels[x]? = some ("secret" : Str) ∨ ∃ r ∈ done, secLoad arrs r = true ∧ r.wr = some x
  gf : ∀ x y, y ∈ f x ↔ ∃ r ∈ done, r.wr = some y ∧ x ∈ r.rd
  gwl : W.length ≤ labels.length + done.length
  gfl : ∀ x, (f x).length ≤ 3 * done.length
/-- the loop over what a row reads -/
theorem sec0_loop {S : Hs} {m d : Nat} {f : Nat → List Nat} {ps : List (Nat × Nat)} {xs : List Nat} {l : Ls} (hm : Mk S m ps f) (hl : l.length = 10) (h3 : l[3]? = some (some (.ref m))) (h6 : l[6]? = some (some (nD d))) (hf : ∀ x, (f x).length ≤ 900000) (hp : ps.length < 900000) (hx : xs.length ≤ 3) :
    Wp NoX (fLoop (.tup (nDs xs)) (gN 7) lb_sec0 0 l S) fun r S' => ∃ l' ps' f', r = .nx l' ∧ (∃ o, l' = l.set 7 o ∨ l' = l) ∧ Mk S' m ps' f' ∧ ps'.length ≤ ps.length + 3 ∧ Kb m S S' ∧ (∀ x y, y ∈ f' x ↔ y ∈ f x ∨ (y = d ∧ x ∈ xs)) ∧ (∀ x, (f' x).length ≤ (f x).length + xs.length) := by
  refine wp_tupM nD (fun pre l' S' => ∃ ps' f', (∃ o, l' = l.set 7 o ∨ l' = l) ∧ Mk S' m ps' f' ∧ ps'.length ≤ ps.length + pre.length ∧ Kb m S S' ∧ (∀ x y, y ∈ f' x ↔ y ∈ f x ∨ (y = d ∧ x ∈ pre)) ∧ (∀ x, (f' x).length ≤ (f x).length + pre.length))
    ⟨ps, f, ⟨none, .inr rfl⟩, hm, by simp, Kb.refl, by simp, by simp⟩ ?_ ?_
  · rintro pre x post l' S' rfl ⟨ps', f', ⟨o, hl'⟩, hM, hpl, hK, hf1, hf2⟩
    have hpre : pre.length ≤ 2 := by simp at hx; omega
    simp_arith []
    unfold lb_sec0
    have e3 : (l'.set 7 (some (nD x)))[3]? = some (some (.ref m)) := by
      rw [List.getElem?_set_ne (by decide)]; rcases hl' with rfl | rfl
      · rw [List.getElem?_set_ne (by decide)]; exact h3
      · exact h3
    have e6 : (l'.set 7 (some (nD x)))[6]? = some (some (nD d)) := by
      rw [List.getElem?_set_ne (by decide)]; rcases hl' with rfl | rfl
      · rw [List.getElem?_set_ne (by decide)]; exact h6
      · exact h6
    have e7 : (l'.set 7 (some (nD x)))[7]? = some (some (nD x)) := by
      refine List.getElem?_set_self ?_
      rcases hl' with rfl | rfl <;> simp [hl]
    have g1 := hf2 x
    have g2 := hf x
    refine (setd_ok hM e3 e7 e6 (by omega) (by omega)).mono (fun _ _ _ _ h => h) ?_
    rintro r S2 ⟨rfl, ⟨ps2, hM2, hp2⟩, hK2⟩
    refine ⟨ps2, updF f' x d, ⟨some (nD x), ?_⟩, hM2, by simp; omega, hK.trans hK2, fun z y => ?_, fun z => ?_⟩
    · rcases hl' with rfl | rfl
      · left; rw [List.set_set]
      · left; rfl
    · unfold updF
      split
      · rename_i e; subst e
        simp only [List.mem_append, hf1, List.mem_singleton]
        constructor
        · rintro ((h | h) | h)
          · exact .inl h
          · exact .inr ⟨h.1, .inl h.2⟩
          · exact .inr ⟨h, by simp⟩
        · rintro (h | ⟨h1, h2⟩)
          · exact .inl (.inl h)
          · exact .inr h1
      · rename_i e
        simp only [List.mem_append, hf1, List.mem_singleton, e, or_false]
    · unfold updF
      have := hf2 z
      split
      · simp; omega
      · simp; omega
  · rintro l' S' ⟨ps', f', hl', hM, hpl, hK, hf1, hf2⟩
    exact ⟨l', ps', f', rfl, hl', hM, by omega, hK, hf1, hf2⟩
/-- the slots while rows are gathered -/
def SecL (arrs : List Arr) (params : Nat) (blocks : List (List Row)) (labels : List Str) (q m : Nat) (l : Ls) : Prop :=
  ∃ o4 o5 o6 o7 : Option D, l = [some (progD arrs params blocks), some (.tup (labels.map D.str)), some (.ref q), some (.ref m), o4, o5, o6, o7, none, none]
def SecS (arrs : List Arr) (labels : List Str) (S0 : Hs) (q m : Nat) (done : List Row) (S : Hs) : Prop :=
  ∃ W f ps, Gath arrs labels done W f ∧ S[q]? = some (.lst (nDs W)) ∧ Mk S m ps f ∧ ps.length ≤ 3 * done.length ∧ Kp [] S0 S ∧ S0.length ≤ q ∧ q < m
theorem prog_arrs {params : Nat} {blocks : List (List Row)} {S : Hs} : oIx (progD arrs params blocks) (.int 0) S = .ok (.tup (arrs.map Arr.D)) S := oIx_tup (n := 0) rfl
theorem prog_blocks {params : Nat} {blocks : List (List Row)} {S : Hs} : oIx (progD arrs params blocks) (.int 2) S = .ok (.tup (blocks.map blockD)) S := oIx_tup (n := 2) rfl
theorem prog_params {params : Nat} {blocks : List (List Row)} {S : Hs} : oIx (progD arrs params blocks) (.int 1) S = .ok (nD params) S := oIx_tup (n := 1) rfl
theorem arr_at {i : Nat} (h : i < arrs.length) {S : Hs} : oIx (.tup (arrs.map Arr.D)) (nD i) S = .ok arrs[i].D S := oIx_tup (n := i) (by simp [List.getElem?_eq_getElem h])
theorem arr_label {a : Arr} {S : Hs} : oIx a.D (.int 2) S = .ok (.str a.label) S := oIx_tup (n := 2) rfl
theorem row_word (r : Row) : ∃ w : Str, (∀ S, oIx r.D (.int 0) S = .ok (.str w) S) ∧ (w = "load" ↔ ∃ d i a, r = .load d i a) := by
  cases r <;> refine ⟨_, fun S => oIx_tup (n := 0) rfl, ?_⟩ <;> simp [ofString_inj]
theorem sec2_ok {S S0 : Hs} {q m params : Nat} {blocks : List (List Row)} {done : List Row} {r : Row} {l : Ls} (hr : r.ok nr arrs.length nb) (hL : SecL arrs params blocks labels q m l) (h5 : l[5]? = some (some r.D)) (hS : SecS arrs labels S0 q m done S) (hd : done.length ≤ 100000) (hlb : labels.length ≤ 100000) :
    Wp NoX (lb_sec2 l S) fun x S' => ∃ l', x = .nx l' ∧ SecL arrs params blocks labels q m l' ∧ SecS arrs labels S0 q m (done ++ [r]) S' := by
  obtain ⟨o4, o5, o6, o7, rfl⟩ := hL
  simp only [List.getElem?_cons_succ, List.getElem?_cons_zero, Option.some.injEq] at h5
  subst h5
  obtain ⟨W, f, ps, hG, hq, hM, hps, hK, hq0, hqm⟩ := hS
  unfold lb_sec2
  simp_arith []
  refine Wp.call (partsL_ok r (.inl rfl)) ?_
  rintro _ S1 ⟨rfl, k1⟩
  have hq1 := k1.get hq (by simp)
  have hM1 := hM.keep k1 (by simp)
  have hK1 := hK.trans k1
  simp_arith [oIt]
  have hkw : kindOf r "write" = r.wr.toList := by simp [kindOf]
  have hkr : kindOf r "read" = r.rd := by simp [kindOf, ofString_inj]
  rw [hkw]
  cases hw : r.wr with
  | none =>
    refine wp_tup0 ⟨_, rfl, ⟨_, _, _, _, rfl⟩, W, f, ps, ⟨fun x => ?_, fun x y => ?_, ?_, fun x => ?_⟩, hq1, hM1, by simp; omega, hK1, hq0, hqm⟩
    · rw [hG.gw x]
      constructor
      · rintro (h | ⟨r', h1, h2⟩)
        · exact .inl h
        · exact .inr ⟨r', List.mem_append_left _ h1, h2⟩
      · rintro (h | ⟨r', h1, h2, h3⟩)
        · exact .inl h
        · rcases List.mem_append.mp h1 with h1 | h1
          · exact .inr ⟨r', h1, h2, h3⟩
          · simp at h1; subst h1; rw [hw] at h3; cases h3
    · rw [hG.gf x y]
      constructor
      · rintro ⟨r', h1, h2⟩; exact ⟨r', List.mem_append_left _ h1, h2⟩
      · rintro ⟨r', h1, h2, h3⟩
        rcases List.mem_append.mp h1 with h1 | h1
        · exact ⟨r', h1, h2, h3⟩
        · simp at h1; subst h1; rw [hw] at h2; cases h2
    · have := hG.gwl; simp; omega
    · have := hG.gfl x; simp; omega
  | some d =>
    refine wp_tup1 ?_
    obtain ⟨w, hw1, hw2⟩ := row_word r
    unfold lb_sec1
    simp_arith [-v_for, hw1, oEq_str]
    -- the rest of the turn
    have rest : ∀ (W' : List Nat) (S2 : Hs), S2[q]? = some (.lst (nDs W')) → Mk S2 m ps f → Kp [] S0 S2 → (∀ x, x ∈ W' ↔ x ∈ W ∨ (secLoad arrs r = true ∧ x = d)) → W'.length ≤ W.length + 1 →
        Wp NoX (mFor (mIt (mFn m_partsL (lCons (mVar 5) (lCons (mC (.str "read")) lNil)))) (gN 7) lb_sec0 [some (progD arrs params blocks), some (.tup (labels.map D.str)), some (.ref q), some (.ref m), o4, some r.D, some (nD d), o7, none, none] S2)
          (tuK (fun l2 S2 => ∃ l', F.nx l2 = .nx l' ∧ SecL arrs params blocks labels q m l' ∧ SecS arrs labels S0 q m (done ++ [r]) S2) fun x S' => ∃ l', x = .nx l' ∧ SecL arrs params blocks labels q m l' ∧ SecS arrs labels S0 q m (done ++ [r]) S') := by
      intro W' S2 hq2 hM2 hK2 hW' hWl
      simp_arith []
      refine Wp.call (partsL_ok r (.inr rfl)) ?_
      rintro _ S3 ⟨rfl, k3⟩
      simp_arith [oIt, hkr]
      refine (sec0_loop (hM2.keep k3 (by simp)) (by simp) (by rfl) (by rfl) (fun x => by have := hG.gfl x; omega) (by omega) (rd_len r)).mono (fun _ _ _ _ h => h) ?_
      rintro x S4 ⟨l', ps', f', rfl, ⟨o, hl'⟩, hM4, hp4, hK4, hf1, hf2⟩
      have hq4 := hK4.get (k3.get hq2 (by simp)) hqm
      have hmS : S0.length ≤ m := by omega
      refine ⟨l', rfl, ?_, W', f', ps', ⟨fun x => ?_, fun x y => ?_, ?_, fun x => ?_⟩, hq4, hM4, by simp; omega, Kb.kp (hK2.trans k3) hK4 hmS, hq0, hqm⟩
      · rcases hl' with rfl | rfl
        · exact ⟨_, _, _, _, rfl⟩
        · exact ⟨_, _, _, _, rfl⟩
      · rw [hW' x, hG.gw x]
        constructor
        · rintro ((h | ⟨r', h1, h2⟩) | ⟨h1, h2⟩)
          · exact .inl h
          · exact .inr ⟨r', List.mem_append_left _ h1, h2⟩
          · exact .inr ⟨r, by simp, h1, by rw [hw, h2]⟩
        · rintro (h | ⟨r', h1, h2, h3⟩)
          · exact .inl (.inl h)
          · rcases List.mem_append.mp h1 with h1 | h1
            · exact .inl (.inr ⟨r', h1, h2, h3⟩)
            · simp at h1; subst h1; rw [hw] at h3; cases h3; exact .inr ⟨h2, rfl⟩
      · rw [hf1 x y, hG.gf x y]
        constructor
        · rintro (⟨r', h1, h2⟩ | ⟨h1, h2⟩)
          · exact ⟨r', List.mem_append_left _ h1, h2⟩
          · exact ⟨r, by simp, by rw [hw, h1], h2⟩
        · rintro ⟨r', h1, h2, h3⟩
          rcases List.mem_append.mp h1 with h1 | h1
          · exact .inl ⟨r', h1, h2, h3⟩
          · simp at h1; subst h1; rw [hw] at h2; cases h2; exact .inr ⟨rfl, h3⟩
      · have := hG.gwl; simp; omega
      · have := hf2 x; have := hG.gfl x; have := rd_len r; simp; omega
    by_cases hload : w = "load"
    · obtain ⟨d', i, a, rfl⟩ := hw2.mp hload
      have hi : i < arrs.length := hr.2.1
      have h2 : ∀ S, oIx (Row.load d' i a).D (.int 2) S = .ok (nD i) S := fun S => oIx_tup (n := 2) rfl
      have hsl : secLoad arrs (Row.load d' i a) = decide (arrs[i].label = "secret") := by simp [secLoad, secArr, List.getElem?_eq_getElem hi]
      simp_arith [-v_for, hload, prog_arrs, h2, arr_at hi, arr_label, oEq_str]
      by_cases hsec : arrs[i].label = "secret"
      · have hb : (nDs W).length < sizeLine := by simp only [List.length_map]; refine line_big ?_; have := hG.gwl; omega
        simp_arith [-v_for, hsec, hasTy_lst hq1, oAppend_lst hq1 hb]
        refine rest (W ++ [d]) _ (by rw [get_put hq1]; simp) (hM1.keep (Kp.set (A := [q]) (by simp)) (by simpa using hqm)) (hK1.setNew hq0) (fun x => by rw [hsl]; simp [hsec]) (by simp)
      · simp_arith [-v_for, hsec]
        exact rest W _ hq1 hM1 hK1 (fun x => by rw [hsl]; simp [hsec]) (by omega)
    · simp_arith [-v_for, hload]
      refine rest W _ hq1 hM1 hK1 (fun x => ?_) (by omega)
      have : secLoad arrs r = false := by
        cases r <;> first | rfl | exact absurd (hw2.mpr ⟨_, _, _, rfl⟩) hload
      simp [this]
end
section
variable {arrs : List Arr} {labels : List Str} {nr nb : Nat}
theorem Mk.keep2 {S S' : Hs} {m : Nat} {ps : List (Nat × Nat)} {f : Nat → List Nat} (h : Mk S m ps f) {A : List Nat} (k : Kp A S S') (hA : m ∉ A) (hB : ∀ p ∈ ps, p.2 ∉ A) : Mk S' m ps f :=
  ⟨k.get h.d hA, h.n1, h.n2, h.lo, fun p hp => k.get (h.li p hp) (hB p hp), h.no⟩
theorem Mk.get {S : Hs} {m : Nat} {ps : List (Nat × Nat)} {f : Nat → List Nat} (h : Mk S m ps f) (n : Nat) : (∃ r, (n, r) ∈ ps ∧ dGet (.ref m) (nD n) S = some (some (.ref r)) ∧ S[r]? = some (.lst (nDs (f n)))) ∨ (dGet (.ref m) (nD n) S = some none ∧ f n = []) := by
  by_cases hn : n ∈ ps.map (·.1)
  · rw [List.mem_map] at hn
    obtain ⟨⟨n', r⟩, hm', rfl⟩ := hn
    exact .inl ⟨r, hm', by rw [dGet_dic h.d key_int, mkDic_get h.n1 hm'], h.li _ hm'⟩
  · exact .inr ⟨by rw [dGet_dic h.d key_int, mkDic_none hn], h.no n hn⟩
/-- how far the search has come -/
structure Wrk (arrs : List Arr) (labels : List Str) (rows : List Row) (f : Nat → List Nat) (nr : Nat) (L W : List Nat) : Prop where
  nd : L.Nodup
  lt : ∀ x ∈ L, x < nr
  so : ∀ x, x ∈ L ∨ x ∈ W → Sec arrs labels rows x
  ba : ∀ x : Nat, labels[x]? = some ("secret" : Str) ∨ (∃ r ∈ rows, secLoad arrs r = true ∧ r.wr = some x) → x ∈ L ∨ x ∈ W
  cl : ∀ x ∈ L, ∀ y ∈ f x, y ∈ L ∨ y ∈ W
  wl : W.length ≤ labels.length + rows.length + L.length * (3 * rows.length)
theorem Wrk.done {rows : List Row} {f : Nat → List Nat} {L W0 : List Nat} (h : Wrk arrs labels rows f nr L []) (hG : Gath arrs labels rows W0 f) (x : Nat) : x ∈ L ↔ Sec arrs labels rows x := by
  refine ⟨fun hx => h.so x (.inl hx), fun hx => ?_⟩
  have e : ∀ y, y ∈ L ∨ y ∈ ([] : List Nat) → y ∈ L := fun y hy => hy.elim id (by simp)
  induction hx with
  | param h1 => exact e _ (h.ba _ (.inl h1))
  | load h1 h2 h3 => exact e _ (h.ba _ (.inr ⟨_, h1, h2, h3⟩))
  | dep h1 h2 h3 h4 ih => exact e _ (h.cl _ ih _ ((hG.gf _ _).mpr ⟨_, h1, h2, h3⟩))
structure WhS (arrs : List Arr) (labels : List Str) (rows : List Row) (nr : Nat) (S0 : Hs) (q m s : Nat) (f : Nat → List Nat) (ps : List (Nat × Nat)) (L W : List Nat) (S : Hs) : Prop where
  wk : Wrk arrs labels rows f nr L W
  hq : S[q]? = some (.lst (nDs W))
  hs : S[s]? = some (.dic (natDic L (.bl true)))
  hm : Mk S m ps f
  ps : ∀ p ∈ ps, p.2 < s
  k : Kp [] S0 S
  q0 : S0.length ≤ q
  qm : q < m
  ms : m < s
def WhL (arrs : List Arr) (params : Nat) (blocks : List (List Row)) (labels : List Str) (q m s : Nat) (l : Ls) : Prop :=
  ∃ o4 o5 o6 o7 : Option D, l = [some (progD arrs params blocks), some (.tup (labels.map D.str)), some (.ref q), some (.ref m), o4, o5, o6, o7, some (.ref s), none]
theorem tru_lst {S : Hs} {q : Nat} {ds : List D} (h : S[q]? = some (.lst ds)) : oTru (.ref q) S = .ok (!ds.isEmpty) S := by simp [oTru, tru, h]
theorem sec5_ok {rows : List Row} {params : Nat} {blocks : List (List Row)} {S0 S : Hs} {q m s : Nat} {f : Nat → List Nat} {ps : List (Nat × Nat)} {L W0 W : List Nat} {x : Nat} {l : Ls} (hG : Gath arrs labels rows W0 f) (hx : ∀ y, Sec arrs labels rows y → y < nr)
    (hsz : labels.length + rows.length + (nr + 1) * (3 * rows.length + 1) ≤ 1000000) (hL : WhL arrs params blocks labels q m s l) (h : WhS arrs labels rows nr S0 q m s f ps L (W ++ [x]) S) :
    Wp NoX (lb_sec5 l S) fun r S' => ∃ l' L' W', r = .nx l' ∧ WhL arrs params blocks labels q m s l' ∧ WhS arrs labels rows nr S0 q m s f ps L' W' S' ∧ ((L' = L ∧ W' = W) ∨ (L'.length = L.length + 1 ∧ W'.length ≤ W.length + 3 * rows.length)) := by
  obtain ⟨o4, o5, o6, o7, rfl⟩ := hL
  have hxn := hx x (h.wk.so x (.inr (by simp)))
  have hLl := nodup_len h.wk.nd h.wk.lt
  have hpop : oPop (.ref q) [] S = .ok (nD x) (S.set q (.lst (nDs W))) := by
    simp [oPop, h.hq]
  unfold lb_sec5
  simp_arith [hasTy_lst h.hq, hpop]
  have ne1 : s ≠ q := by have := h.qm; have := h.ms; omega
  have hs1 : (S.set q (.lst (nDs W)))[s]? = some (.dic (natDic L (.bl true))) := by rw [List.getElem?_set_ne (Ne.symm ne1)]; exact h.hs
  have hq1 : (S.set q (.lst (nDs W)))[q]? = some (.lst (nDs W)) := get_put h.hq
  have hM1 : Mk (S.set q (.lst (nDs W))) m ps f := h.hm.keep (Kp.set (A := [q]) (by simp)) (by simpa using h.qm)
  have hK1 : Kp [] S0 (S.set q (.lst (nDs W))) := h.k.setNew h.q0
  simp_arith [oNotIn_dic hs1]
  by_cases hin : x ∈ L
  · simp_arith [hin]
    refine ⟨_, L, W, rfl, ⟨_, _, _, _, rfl⟩, ⟨⟨h.wk.nd, h.wk.lt, fun y hy => h.wk.so y (hy.imp id fun h => by simp [h]), fun y hy => ?_, fun y hy z hz => ?_, ?_⟩, hq1, hs1, hM1, h.ps, hK1, h.q0, h.qm, h.ms⟩, .inl ⟨rfl, rfl⟩⟩
    · rcases h.wk.ba y hy with h1 | h1
      · exact .inl h1
      · simp only [List.mem_append, List.mem_singleton] at h1
        rcases h1 with h1 | rfl
        · exact .inr h1
        · exact .inl hin
    · rcases h.wk.cl y hy z hz with h1 | h1
      · exact .inl h1
      · simp only [List.mem_append, List.mem_singleton] at h1
        rcases h1 with h1 | rfl
        · exact .inr h1
        · exact .inl hin
    · have := h.wk.wl; simp at this; omega
  · have hlen : (natDic L (.bl true)).length < sizeLine := by simp only [natDic, List.length_map]; refine line_big ?_; have : (nr + 1) * 1 ≤ (nr + 1) * (3 * rows.length + 1) := Nat.mul_le_mul_left _ (by omega); omega
    have hset : oSet (.ref s) (nD x) (.bl true) (S.set q (.lst (nDs W))) = .ok () ((S.set q (.lst (nDs W))).set s (.dic (natDic (addN L x) (.bl true)))) := by
      rw [oSet_dic hs1 key_int hlen, natDic_set]
    simp_arith [hin, hset]
    generalize hS2 : (S.set q (.lst (nDs W))).set s (.dic (natDic (addN L x) (.bl true))) = S2
    have hs2 : S2[s]? = some (.dic (natDic (addN L x) (.bl true))) := by rw [← hS2]; exact get_put hs1
    have hq2 : S2[q]? = some (.lst (nDs W)) := by rw [← hS2, List.getElem?_set_ne ne1]; exact hq1
    have hM2 : Mk S2 m ps f := by
      rw [← hS2]
      exact hM1.keep2 (Kp.set (A := [s]) (by simp)) (by simp; have := h.ms; omega) (fun p hp => by simp; have := h.ps p hp; omega)
    have hK2 : Kp [] S0 S2 := by rw [← hS2]; exact hK1.setNew (by have := h.q0; have := h.qm; have := h.ms; omega)
    have htd : hasTy "dict" (.ref m) S2 = true := by simp [hasTy, hM2.d]
    simp_arith [hasTy_lst hq2, htd]
    have hadd : addN L x = L ++ [x] := by simp [addN, hin]
    have hwl := h.wk.wl
    have hfl := hG.gfl x
    have hmul : L.length * (3 * rows.length) ≤ nr * (3 * rows.length) := Nat.mul_le_mul_right _ hLl
    have hmul2 : (nr + 1) * (3 * rows.length + 1) = nr * (3 * rows.length) + 3 * rows.length + nr + 1 := by rw [Nat.add_mul, Nat.mul_add, Nat.mul_one, Nat.one_mul]; omega
    simp only [List.length_append, List.length_singleton] at hwl
    have fin : ∀ (S3 : Hs), Kp [q] S2 S3 → S3[q]? = some (.lst (nDs (W ++ f x))) → ∃ l' L' W', F.nx [some (progD arrs params blocks), some (D.tup (labels.map D.str)), some (D.ref q), some (D.ref m), o4, o5, some (nD x), o7, some (D.ref s), none] = .nx l' ∧ WhL arrs params blocks labels q m s l' ∧ WhS arrs labels rows nr S0 q m s f ps L' W' S3 ∧ ((L' = L ∧ W' = W) ∨ (L'.length = L.length + 1 ∧ W'.length ≤ W.length + 3 * rows.length)) := by
      intro S3 k3 hq3
      refine ⟨_, L ++ [x], W ++ f x, rfl, ⟨_, _, _, _, rfl⟩, ⟨⟨by rw [← hadd]; exact nodup_addN h.wk.nd, ?_, ?_, ?_, ?_, ?_⟩, hq3, ?_, ?_, h.ps, ?_, h.q0, h.qm, h.ms⟩, .inr ⟨by simp, by simp; omega⟩⟩
      · intro y hy
        simp only [List.mem_append, List.mem_singleton] at hy
        rcases hy with hy | rfl
        · exact h.wk.lt y hy
        · exact hxn
      · intro y hy
        simp only [List.mem_append, List.mem_singleton] at hy
        rcases hy with (hy | rfl) | (hy | hy)
        · exact h.wk.so y (.inl hy)
        · exact h.wk.so y (.inr (by simp))
        · exact h.wk.so y (.inr (by simp [hy]))
        · obtain ⟨r, h1, h2, h3⟩ := (hG.gf x y).mp hy
          exact .dep h1 h2 h3 (h.wk.so x (.inr (by simp)))
      · intro y hy
        have := h.wk.ba y hy
        simp only [List.mem_append, List.mem_singleton] at this ⊢
        rcases this with h1 | h1 | h1
        · exact .inl (.inl h1)
        · exact .inr (.inl h1)
        · exact .inl (.inr h1)
      · intro y hy z hz
        simp only [List.mem_append, List.mem_singleton] at hy ⊢
        rcases hy with hy | rfl
        · have := h.wk.cl y hy z hz
          simp only [List.mem_append, List.mem_singleton] at this
          rcases this with h1 | h1 | h1
          · exact .inl (.inl h1)
          · exact .inr (.inl h1)
          · exact .inl (.inr h1)
        · exact .inr (.inr hz)
      · simp only [List.length_append, List.length_singleton, Nat.add_mul, Nat.one_mul]; omega
      · rw [← hadd]; exact k3.get hs2 (by simpa using ne1)
      · exact hM2.keep k3 (by simpa using h.qm)
      · exact hK2.after k3 (by intro i hi hi2; simp at hi; subst hi; have := h.q0; omega)
    have hlt2 : (S2 ++ [O.lst []]).length = S2.length + 1 := by simp
    have hqA : (S2 ++ [O.lst []])[q]? = some (.lst (nDs W)) := by rw [List.getElem?_append_left (Real.lt hq2)]; exact hq2
    have hMA : Mk (S2 ++ [O.lst []]) m ps f := hM2.keep (A := []) Kp.new (by simp)
    rcases hMA.get x with ⟨r, hr, e1, e2⟩ | ⟨e1, e2⟩
    · have hbig : (nDs W).length + (nDs (f x)).length ≤ sizeLine := by simp only [List.length_map]; exact line_le (by omega)
      have hex : oExtend (.ref q) [.ref r] (S2 ++ [O.lst []]) = .ok .non ((S2 ++ [O.lst []]).set q (.lst (nDs W ++ nDs (f x)))) := by simp only [oExtend, hqA, e2, if_pos hbig]
      simp_arith [e1, hex]
      exact fin _ (Kp.new.trans (Kp.set (by simp))) (by rw [get_put hqA]; simp)
    · have e3 : (S2 ++ [O.lst []])[S2.length]? = some (.lst []) := get_end
      have hbig : (nDs W).length + ([] : List D).length ≤ sizeLine := by simp only [List.length_map, List.length_nil]; exact line_le (by omega)
      have hex : oExtend (.ref q) [.ref S2.length] (S2 ++ [O.lst []]) = .ok .non ((S2 ++ [O.lst []]).set q (.lst (nDs W ++ []))) := by simp only [oExtend, hqA, e3, if_pos hbig]
      simp_arith [e1, hex]
      exact fin _ (Kp.new.trans (Kp.set (by simp))) (by rw [get_put hqA, e2]; simp)
theorem secR_ok {S : Hs} {params : Nat} {blocks : List (List Row)} (hr : ∀ b ∈ blocks, ∀ r ∈ b, r.ok nr arrs.length nb) (hl : labels.length ≤ nr)
    (hsz : labels.length + blocks.flatten.length + (nr + 1) * (3 * blocks.flatten.length + 1) ≤ 100000) :
    Wp NoX (m_secR [progD arrs params blocks, .tup (labels.map D.str)] S) fun v S' => ∃ s L, v = .ref s ∧ S'[s]? = some (.dic (natDic L (.bl true))) ∧ L.Nodup ∧ (∀ x, x ∈ L ↔ Sec arrs labels blocks.flatten x) ∧ Kp [] S S' ∧ S.length ≤ s := by
  refine wp_def0 rfl ?_
  unfold b_secR
  have hen : ∀ S, oEnum [.tup (labels.map D.str)] S = .ok (.enum (.t (labels.map D.str))) S := fun S => rfl
  simp_arith [hen, wipeL]
  refine lc_pure (α := Nat) (fun k => .tup [nD k, .str (labels.getD k "")]) (xs := List.range labels.length) (fun k => if labels.getD k "" = "secret" then some (nD k) else none) ?_ (by simp; omega) ?_ ?_
  · intro S' _ k hk
    simp only [List.length_range] at hk
    simp only [itGo, Sq.at, Option.bind_some, List.length_map]
    rw [if_pos hk]
    rcases Nat.lt_or_ge k labels.length with h | h
    · simp [List.getElem?_eq_getElem h, List.getElem?_range h, List.getD]
    · rw [List.getElem?_eq_none (by simpa using h), List.getElem?_eq_none (by simpa using h)]; rfl
  · intro k hk S' k1
    refine ⟨_, rfl, ?_⟩
    simp only [List.zip_cons_cons, List.zip_nil_right, List.foldl_cons, List.foldl_nil]
    simp_arith [oEq_str]
    refine ⟨Kp.refl, ?_⟩
    by_cases hc : labels.getD k "" = "secret"
    · rw [if_pos (by simpa using hc), if_pos hc]; exact ⟨Kp.refl, rfl⟩
    · rw [if_neg (by simpa using hc), if_neg hc]
  · intro S1 hq1 k1
    simp_arith [prog_blocks, oIt]
    have hW : (List.range labels.length).filterMap (fun k => if labels.getD k "" = "secret" then some (nD k) else none) = nDs ((List.range labels.length).filter fun k => decide (labels.getD k "" = "secret")) := by
      generalize List.range labels.length = xs
      induction xs with
      | nil => rfl
      | cons a xs ih =>
        simp only [List.filterMap_cons, List.filter_cons, decide_eq_true_eq]
        split <;> rename_i e <;> split at e <;> simp_all
    rw [hW] at hq1
    generalize hWW : (List.range labels.length).filter (fun k => decide (labels.getD k "" = "secret")) = W0 at hq1
    have hqlt := Real.lt hq1
    have hG0 : Gath arrs labels [] W0 (fun _ => []) := by
      refine ⟨fun x => ?_, fun x y => by simp, ?_, fun x => by simp⟩
      · rw [← hWW]
        simp only [List.mem_filter, List.mem_range, decide_eq_true_eq, List.not_mem_nil, false_and, exists_false, or_false]
        constructor
        · rintro ⟨h1, h2⟩
          rw [← h2]; simp [List.getD, List.getElem?_eq_getElem h1]
        · intro h
          obtain ⟨h1, h2⟩ := List.getElem?_eq_some_iff.mp h
          exact ⟨h1, by simpa [List.getD, List.getElem?_eq_getElem h1] using h2⟩
      · rw [← hWW]; have := List.length_filter_le (fun k => decide (labels.getD k "" = "secret")) (List.range labels.length); simp at this; simp; omega
    have hflat : ∀ pre b post, blocks = pre ++ b :: post → pre.flatten.length + b.length ≤ blocks.flatten.length := by
      rintro pre b post rfl; simp <;> omega
    refine wp_tupM blockD (fun pre l' S' => SecL arrs params blocks labels S.length S1.length l' ∧ SecS arrs labels S S.length S1.length pre.flatten S') ?_ ?_ ?_
    · refine ⟨⟨_, _, _, _, rfl⟩, W0, fun _ => [], [], hG0, ?_, ⟨by simp [mkDic], by simp, by simp, by simp, by simp, by simp⟩, by simp, k1.app, Nat.le_refl _, hqlt⟩
      rw [List.getElem?_append_left hqlt]; exact hq1
    · rintro pre b post l' S' hsp ⟨⟨o4, o5, o6, o7, rfl⟩, hS⟩
      have hlen := hflat pre b post hsp
      have hb : b ∈ blocks := by rw [hsp]; simp
      simp_arith []
      unfold lb_sec3
      simp_arith [oIt]
      refine wp_tupM Row.D (fun pre2 l' S' => SecL arrs params blocks labels S.length S1.length l' ∧ SecS arrs labels S S.length S1.length (pre.flatten ++ pre2) S') ⟨⟨_, _, _, _, rfl⟩, by simpa using hS⟩ ?_ ?_
      · rintro pre2 r post2 l2 S2 hsp2 ⟨⟨o4, o5, o6, o7, rfl⟩, hS2⟩
        have hrb : r ∈ b := by rw [hsp2]; simp
        have hl2 : pre2.length ≤ b.length := by rw [hsp2]; simp
        simp_arith []
        refine (sec2_ok (hr b hb r hrb) ⟨_, _, _, _, rfl⟩ (by rfl) hS2 (by rw [List.length_append]; omega) (by omega)).mono (fun _ _ _ _ h => h) ?_
        rintro x S3 ⟨l3, rfl, h3, h4⟩
        exact ⟨h3, by rw [← List.append_assoc]; exact h4⟩
      · rintro l2 S2 ⟨hL2, hS2⟩
        exact ⟨hL2, by simpa using hS2⟩
    · rintro l' S' ⟨⟨o4, o5, o6, o7, rfl⟩, W, f, ps, hG, hq, hM, hps, hK, hq0, hqm⟩
      simp_arith []
      have hxl : ∀ y, Sec arrs labels blocks.flatten y → y < nr := fun y hy => hy.lt hl (nb := nb) (na := arrs.length) (fun r hr' => by
        rw [List.mem_flatten] at hr'
        obtain ⟨b, h1, h2⟩ := hr'
        exact hr b h1 r h2)
      have hqlt' := Real.lt hq
      refine wp_while (fun mm l2 S2 => ∃ L W, WhL arrs params blocks labels S.length S1.length S'.length l2 ∧ WhS arrs labels blocks.flatten nr S S.length S1.length S'.length f ps L W S2 ∧ mm = (nr - L.length) * (3 * blocks.flatten.length + 1) + W.length) ?_ _ _ _
        ⟨[], W, ⟨_, _, _, _, rfl⟩, ⟨⟨by simp, by simp, ?_, ?_, by simp, ?_⟩, ?_, by simp [natDic], hM.keep (A := []) Kp.new (by simp), fun p hp => Real.lt (hM.li p hp), hK.app, hq0, hqm, Real.lt hM.d⟩, rfl⟩
      · rintro mm l2 S2 ⟨L, W2, ⟨p4, p5, p6, p7, rfl⟩, hw, rfl⟩
        unfold c_sec4
        simp_arith [tru_lst hw.hq]
        rcases List.eq_nil_or_concat W2 with rfl | ⟨W3, x, rfl⟩
        · simp_arith [List.isEmpty_nil]
          exact ⟨_, L, rfl, hw.hs, hw.wk.nd, hw.wk.done hG, hw.k, by have := hw.q0; have := hw.qm; have := hw.ms; omega⟩
        · rw [List.concat_eq_append] at *
          have hne : (nDs (W3 ++ [x])).isEmpty = false := by simp
          simp only [hne, Bool.not_false, if_true]
          refine (sec5_ok hG hxl (by omega) ⟨_, _, _, _, rfl⟩ hw).mono (fun _ _ _ _ h => h) ?_
          rintro r S3 ⟨l3, L3, W4, rfl, hL3, hw3, hc⟩
          have hLl := nodup_len hw3.wk.nd hw3.wk.lt
          refine ⟨_, ?_, L3, W4, hL3, hw3, rfl⟩
          rcases hc with ⟨rfl, rfl⟩ | ⟨e1, e2⟩
          · simp
          · rw [e1]
            have : nr - L.length = (nr - (L.length + 1)) + 1 := by omega
            rw [this, Nat.add_mul, Nat.one_mul]
            simp only [List.length_append, List.length_singleton]; omega
      · rintro x (h | h)
        · simp at h
        · rcases (hG.gw x).mp h with h | ⟨r, h1, h2, h3⟩
          · exact .param h
          · exact .load h1 h2 h3
      · intro x hx; exact .inr ((hG.gw x).mpr hx)
      · have := hG.gwl; simp only [List.length_nil, Nat.zero_mul, Nat.add_zero]; exact this
      · rw [List.getElem?_append_left hqlt']; exact hq
end
end Ly
set_option Elab.async false
set_option linter.all false
set_option maxRecDepth 100000
namespace Ly
open PySem PySem.Spec L2
open PyProof.Rows hiding St
local macro_rules | `(tactic| simp_arith [$ls,*]) => `(tactic| simp only [Ly.line_le, Ly.atX_no, Ly.v_ok, Ly.v_bad, Ly.v_bind, Ly.k_bd, Ly.v_at, Ly.v_bin, Ly.k_bi, Ly.k_bi2, Ly.v_var, Ly.v_c, Ly.v_un, Ly.k_un, Ly.v_if, Ly.k_ife, Ly.v_and, Ly.k_and, Ly.k_and2, Ly.v_or, Ly.k_or, Ly.k_or2, Ly.v_tup, Ly.k_tup, Ly.v_lst, Ly.k_lst, Ly.v_call, Ly.k_ca, Ly.v_fn, Ly.k_fn, Ly.v_bm, Ly.k_bm, Ly.k_bm2, Ly.v_sl, Ly.k_sl, Ly.k_sl2, Ly.k_sl3, Ly.v_ixK, Ly.k_ixk, Ly.v_inK, Ly.k_ink, Ly.v_notinK, Ly.k_nink, Ly.v_getK2, Ly.k_gk2, Ly.k_gk, Ly.v_get2, Ly.k_g2, Ly.k_g22, Ly.k_g23, Ly.v_nil, Ly.v_cons, Ly.k_co, Ly.k_co2, Ly.v_no, Ly.v_some, Ly.k_so, Ly.k_cm, Ly.v_cmp, Ly.v_tru, Ly.k_tr, Ly.v_notB, Ly.k_no, Ly.v_andB, Ly.k_an, Ly.v_orB, Ly.k_orb, Ly.v_yes, Ly.v_inKB, Ly.k_inkB, Ly.v_notinKB, Ly.k_ninkB, Ly.v_set, Ly.k_st, Ly.v_expr, Ly.k_ex, Ly.v_ret, Ly.k_re, Ly.v_retN, Ly.v_pass, Ly.v_brk, Ly.v_cnt, Ly.v_seq, Ly.k_sq_nx, Ly.k_sq_rt, Ly.k_sq_bk, Ly.k_sq_ct, Ly.v_ifS, Ly.k_ifs, Ly.v_asg, Ly.k_as, Ly.k_as2, Ly.v_aug, Ly.k_au, Ly.v_for, Ly.k_fo, Ly.v_it, Ly.k_it, Ly.k_ij, Ly.v_rng1, Ly.v_rng2, Ly.v_enum, Ly.v_zip, Ly.v_gN, Ly.v_gsN, Ly.v_gsC, Ly.k_gc, Ly.v_gT, Ly.v_gTw, Ly.v_gSb, Ly.k_gsb, Ly.k_gsb2, Ly.k_gsb3, Ly.k_en_rt, Ly.k_en_nx, Ly.k_tu_nx, Ly.k_tu_ct, Ly.k_tu_bk, Ly.k_tu_rt, Ly.v_lc, Ly.k_lc, Ly.v_augI, Ly.k_ag, Ly.k_ag2, Ly.k_ag3, Ly.k_ag4, Ly.k_ag5, Ly.v_del, Ly.k_dl, Ly.k_dl2, Ly.v_setd, Ly.v_pop2, Ly.k_d3, Ly.k_d32, Ly.k_d33, Ly.v_get1, Ly.k_g1, Ly.k_g12, Ly.v_rg1, Ly.k_rg, Ly.v_rg2, Ly.k_rg2, Ly.k_rg22, Ly.v_dicK, Ly.v_dicT, Ly.v_dc, Ly.k_dc, List.getElem?_cons_zero, List.getElem?_cons_succ, List.set_cons_zero, List.set_cons_succ, List.length_cons, List.length_nil, List.map_cons, List.map_nil, List.cons_append, List.nil_append, List.replicate, if_true, if_false, Bool.false_eq_true, Bool.not_true, Bool.not_false, Bool.true_and, Bool.false_and, decide_true, decide_false, decide_eq_true_eq, Nat.zero_add, Nat.reduceAdd, Nat.reduceLeDiff, true_and, and_true, $ls,*])
/-! ### public registers, programs that keep their secrets -/
noncomputable def b_regsOf : MS := (mRet (mBin oAdd (mFn m_partsL (lCons (mVar 0) (lCons (mC (.str "write")) lNil))) (mFn m_partsL (lCons (mVar 0) (lCons (mC (.str "read")) lNil)))))
noncomputable def m_regsOf : MD := mDef 1 0 b_regsOf
def Row.regs (r : Row) : List Nat := r.wr.toList ++ r.rd
theorem kind_w (r : Row) : kindOf r "write" = r.wr.toList := by simp [kindOf]
theorem kind_r (r : Row) : kindOf r "read" = r.rd := by simp [kindOf, ofString_inj]
theorem wr_len (r : Row) : r.wr.toList.length ≤ 1 := by cases r <;> simp [Row.wr]
theorem regsOf_ok {S : Hs} (r : Row) : Wp NoX (m_regsOf [r.D] S) fun v S' => v = .tup (nDs r.regs) ∧ Kp [] S S' := by
  refine wp_def0 rfl ?_
  unfold b_regsOf
  simp_arith []
  refine Wp.call (partsL_ok r (.inl rfl)) ?_
  rintro _ S1 ⟨rfl, k1⟩
  simp_arith []
  refine Wp.call (partsL_ok r (.inr rfl)) ?_
  rintro _ S2 ⟨rfl, k2⟩
  have hl : (nDs r.wr.toList).length + (nDs r.rd).length ≤ sizeLine := by
    simp only [List.length_map]; refine line_le ?_; have := rd_len r; have := wr_len r; omega
  simp_arith [kind_w, kind_r, oAdd, hl]
  exact ⟨by simp [Row.regs], k1.trans k2⟩
theorem Row.ok.regs_lt {nr na nb : Nat} {r : Row} (h : r.ok nr na nb) {x : Nat} (e : x ∈ r.regs) : x < nr := by
  rcases List.mem_append.mp e with e | e
  · rw [Option.mem_toList] at e; exact h.wr_lt e
  · exact h.rd_lt e
noncomputable def lb_named0 : MS := (mAsg (mC (.bl true)) (gSb (mVar 1) (mVar 4)))
noncomputable def lb_named1 : MS := (mFor (mIt (mFn m_regsOf (lCons (mVar 3) lNil))) (gN 4) lb_named0)
noncomputable def lb_named2 : MS := (mFor (mIt (mVar 2)) (gN 3) lb_named1)
noncomputable def b_named : MS := (mSeq (mSet 1 (mDc (mRng1 (lCons (mBin oIx (mVar 0) (mC (.int 1))) lNil)) (cN 4) mYes (mVar 4) (mC (.bl true)) [4]))
    (mSeq (mFor (mIt (mBin oIx (mVar 0) (mC (.int 2)))) (gN 2) lb_named2)
    (mRet (mVar 1))))
noncomputable def m_named : MD := mDef 1 4 b_named
section
variable {arrs : List Arr} {labels : List Str} {nr nb : Nat}
/-- the dict at s has the registers in L, those that P tells -/
structure NmS (S0 : Hs) (nr s : Nat) (P : Nat → Prop) (S : Hs) : Prop where
  ex : ∃ L : List Nat, S[s]? = some (.dic (natDic L (.bl true))) ∧ L.Nodup ∧ (∀ x ∈ L, x < nr) ∧ ∀ x, x ∈ L ↔ P x
  k : Kp [] S0 S
  lo : S0.length ≤ s
theorem NmS.mono {S0 S S' : Hs} {s : Nat} {P P' : Nat → Prop} (h : NmS S0 nr s P S) (k : Kp [] S S') (e : ∀ x, P x ↔ P' x) : NmS S0 nr s P' S' := by
  obtain ⟨L, h1, h2, h3, h4⟩ := h.ex
  exact ⟨⟨L, k.get h1 (by simp), h2, h3, fun x => (h4 x).trans (e x)⟩, h.k.trans k, h.lo⟩
theorem NmS.add {S0 S : Hs} {s n : Nat} {P : Nat → Prop} (h : NmS S0 nr s P S) (hn : n < nr) (hr : nr ≤ 1000000) : ∃ S', oSet (.ref s) (nD n) (.bl true) S = .ok () S' ∧ NmS S0 nr s (fun x => P x ∨ x = n) S' := by
  obtain ⟨L, h1, h2, h3, h4⟩ := h.ex
  have hlen : (natDic L (.bl true)).length < sizeLine := by
    simp only [natDic, List.length_map]; refine line_big ?_; have := nodup_len h2 h3; omega
  refine ⟨_, by rw [oSet_dic h1 key_int hlen, natDic_set], ⟨⟨addN L n, get_put h1, nodup_addN h2, fun x hx => ?_, fun x => by rw [mem_addN, h4]⟩, h.k.setNew h.lo, h.lo⟩⟩
  rcases mem_addN.mp hx with hx | rfl
  · exact h3 x hx
  · exact hn
theorem named_ok {S : Hs} {params : Nat} {blocks : List (List Row)} (hr : ∀ b ∈ blocks, ∀ r ∈ b, r.ok nr arrs.length nb) (hp : params ≤ nr) (hn : nr ≤ 1000000) :
    Wp NoX (m_named [progD arrs params blocks] S) fun v S' => ∃ s, v = .ref s ∧ NmS S nr s (fun n => n < params ∨ ∃ r ∈ blocks.flatten, n ∈ r.regs) S' := by
  refine wp_def0 rfl ?_
  unfold b_named
  simp_arith [prog_params, rng1 (n := (params : Int)) S (by omega) (by omega), Int.toNat_natCast, wipe1]
  refine wp_dcRng (fun k acc S' => (∃ L : List Nat, acc = natDic L (.bl true) ∧ S'[S.length]? = some (.dic acc) ∧ L.Nodup ∧ (∀ x ∈ L, x < nr) ∧ ∀ x, x ∈ L ↔ x < k) ∧ Kp [] S S') ⟨⟨[], by simp [natDic], by simp, by simp, by simp, by simp⟩, Kp.new⟩ ?_ ?_
  · rintro k acc S' hk ⟨⟨L, rfl, h1, h2, h3, h4⟩, k1⟩
    refine ⟨_, rfl, ?_⟩
    have e : (0 + (k : Int)) = (k : Int) := by omega
    simp_arith [e]
    have hlen : (natDic L (.bl true)).length < sizeLine := by
      simp only [natDic, List.length_map]; refine line_big ?_; have := nodup_len h2 h3; omega
    refine ⟨h1, hlen, _, key_int, ?_, k1.setNew (Nat.le_refl _)⟩
    rw [natDic_set]
    refine ⟨addN L k, rfl, get_put h1, nodup_addN h2, fun x hx => ?_, fun x => ?_⟩
    · rcases mem_addN.mp hx with hx | rfl
      · exact h3 x hx
      · omega
    · rw [mem_addN, h4]; omega
  · rintro acc S1 ⟨⟨L, rfl, h1, h2, h3, h4⟩, k1⟩
    simp_arith [prog_blocks, oIt]
    have h0 : NmS S nr S.length (fun n => n < params ∨ ∃ r ∈ ([] : List (List Row)).flatten, n ∈ r.regs) S1 := ⟨⟨L, h1, h2, h3, fun x => by rw [h4]; simp⟩, k1, Nat.le_refl _⟩
    refine wp_tupM blockD (fun pre l' S' => (∃ o2 o3 o4 : Option D, l' = [some (progD arrs params blocks), some (.ref S.length), o2, o3, o4]) ∧ NmS S nr S.length (fun n => n < params ∨ ∃ r ∈ pre.flatten, n ∈ r.regs) S') ⟨⟨_, _, _, rfl⟩, h0⟩ ?_ ?_
    · rintro pre b post l' S' hsp ⟨⟨o2, o3, o4, rfl⟩, hS⟩
      have hb : b ∈ blocks := by rw [hsp]; simp
      simp_arith []
      unfold lb_named2
      simp_arith [oIt]
      refine wp_tupM Row.D (fun pre2 l' S' => (∃ o2 o3 o4 : Option D, l' = [some (progD arrs params blocks), some (.ref S.length), o2, o3, o4]) ∧ NmS S nr S.length (fun n => n < params ∨ ∃ r ∈ pre.flatten ++ pre2, n ∈ r.regs) S') ⟨⟨_, _, _, rfl⟩, by simpa using hS⟩ ?_ ?_
      · rintro pre2 r post2 l2 S2 hsp2 ⟨⟨o2, o3, o4, rfl⟩, hS2⟩
        have hrb : r ∈ b := by rw [hsp2]; simp
        simp_arith []
        unfold lb_named1
        simp_arith []
        refine Wp.call (regsOf_ok r) ?_
        rintro _ S3 ⟨rfl, k3⟩
        simp_arith [oIt]
        refine wp_tupM nD (fun pre3 l' S' => (∃ o2 o3 o4 : Option D, l' = [some (progD arrs params blocks), some (.ref S.length), o2, o3, o4]) ∧ NmS S nr S.length (fun n => (n < params ∨ ∃ r ∈ pre.flatten ++ pre2, n ∈ r.regs) ∨ n ∈ pre3) S') ⟨⟨_, _, _, rfl⟩, hS2.mono k3 (by simp)⟩ ?_ ?_
        · rintro pre3 n post3 l3 S4 hsp3 ⟨⟨o2, o3, o4, rfl⟩, hS4⟩
          have hnn : n < nr := (hr b hb r hrb).regs_lt (by rw [hsp3]; simp)
          obtain ⟨S5, e5, h5⟩ := hS4.add hnn hn
          unfold lb_named0
          simp_arith [e5]
          refine ⟨⟨_, _, _, rfl⟩, h5.mono Kp.refl fun x => ?_⟩
          simp only [List.mem_append, List.mem_singleton, or_assoc]
        · rintro l3 S4 ⟨⟨o2, o3, o4, rfl⟩, hS4⟩
          refine ⟨⟨_, _, _, rfl⟩, hS4.mono Kp.refl fun x => ?_⟩
          constructor
          · rintro ((h | ⟨r', h1, h2⟩) | h)
            · exact .inl h
            · exact .inr ⟨r', by rw [← List.append_assoc]; exact List.mem_append_left _ h1, h2⟩
            · exact .inr ⟨r, by simp, h⟩
          · rintro (h | ⟨r', h1, h2⟩)
            · exact .inl (.inl h)
            · rw [← List.append_assoc] at h1
              rcases List.mem_append.mp h1 with h1 | h1
              · exact .inl (.inr ⟨r', h1, h2⟩)
              · simp only [List.mem_singleton] at h1; subst h1; exact .inr h2
      · rintro l2 S2 ⟨hL2, hS2⟩
        exact ⟨hL2, by simpa using hS2⟩
    · rintro l' S' ⟨⟨o2, o3, o4, rfl⟩, hS⟩
      simp_arith []
      exact ⟨_, rfl, hS⟩
noncomputable def b_pubR : MS := (mSeq (mSet 2 (mFn m_secR (lCons (mVar 0) (lCons (mVar 1) lNil))))
    (mRet (mCall bTuple (lCons (mLc (mIt (mCall bSorted (lCons (mFn m_named (lCons (mVar 0) lNil)) lNil))) (cN 3) (mCmp oNotIn (mVar 3) (mVar 2)) (mVar 3) [3]) lNil))))
noncomputable def m_pubR : MD := mDef 2 2 b_pubR
theorem fm_nats {xs : List Nat} {p : Nat → Bool} : xs.filterMap (fun x => if p x = true then some (nD x) else none) = nDs (xs.filter p) := by
  induction xs with
  | nil => rfl
  | cons a xs ih =>
    simp only [List.filterMap_cons, List.filter_cons]
    cases p a <;> simp [ih]
theorem seqAt_lst {S : Hs} {i : Nat} {ds : List D} (h : S[i]? = some (.lst ds)) : seqAt S i = some ds := by simp [seqAt, seqD, h]
theorem oIt_lst {S : Hs} {i : Nat} {ds : List D} (h : S[i]? = some (.lst ds)) : oIt (.ref i) S = .ok (.lst i) S := by simp [oIt, seqAt_lst h]
/-- [x for x in xs if x not in d], numbers -/
theorem lc_notin {X : XP} {Q : D → Hs → Prop} {l : Ls} {S : Hs} {q s i t : Nat} {xs L : List Nat} (op : D → D → Hs → R D) (p : Nat → Bool) (hop : ∀ S', Kp [] S S' → ∀ x, op (nD x) (.ref s) S' = .ok (.bl (p x)) S') (hq : S[q]? = some (.lst (nDs xs))) (ht : l[t]? = some (some (.ref s))) (hi : i < l.length) (hit : i ≠ t) (hx : xs.length ≤ 1000000)
    (hd : ∀ S', S'[S.length]? = some (.lst (nDs (xs.filter p))) → Kp [] S S' → Q (.ref S.length) S') :
    Wp X (cLoop (.lst q) (cN i) (mCmp op (mVar i) (mVar t)) (mVar i) l S.length 0 (S ++ [.lst []])) Q := by
  refine lc_pure nD (xs := xs) (fun x => if p x = true then some (nD x) else none) ?_ hx ?_ ?_
  · intro S' k1 k hk
    simp only [itGo, seqAt_lst (k1.get hq (by simp)), Option.map_some, List.getElem?_map]
  · intro x hxm S' k1
    refine ⟨_, rfl, ?_⟩
    have e1 : (l.set i (some (nD x)))[i]? = some (some (nD x)) := List.getElem?_set_self hi
    have e2 : (l.set i (some (nD x)))[t]? = some (some (.ref s)) := by rw [List.getElem?_set_ne hit]; exact ht
    simp_arith [e1, e2, hop S' k1]
    refine ⟨Kp.refl, ?_⟩
    cases p x
    · simp
    · simp only [if_true]; exact ⟨Kp.refl, trivial⟩
  · intro S' h1 h2
    rw [fm_nats] at h1
    exact hd S' h1 h2
theorem pubR_ok {S : Hs} {params : Nat} {blocks : List (List Row)} (hr : ∀ b ∈ blocks, ∀ r ∈ b, r.ok nr arrs.length nb) (hl : labels.length ≤ nr) (hp : params ≤ nr) (hnr : nr < 64)
    (hsz : labels.length + blocks.flatten.length + (nr + 1) * (3 * blocks.flatten.length + 1) ≤ 100000) :
    Wp NoX (m_pubR [progD arrs params blocks, .tup (labels.map D.str)] S) fun v S' => (∃ N L : List Nat, v = .tup (nDs ((sortN N).filter fun x => !decide (x ∈ L))) ∧ N.Nodup ∧ L.Nodup ∧ (∀ x, x ∈ N ↔ x < params ∨ ∃ r ∈ blocks.flatten, x ∈ r.regs) ∧ (∀ x, x ∈ L ↔ Sec arrs labels blocks.flatten x)) ∧ Kp [] S S' := by
  refine wp_def0 rfl ?_
  unfold b_pubR
  simp_arith []
  refine Wp.call (secR_ok hr hl hsz) ?_
  rintro _ S1 ⟨s, L, rfl, hs, hLn, hLs, k1, hs0⟩
  simp_arith [wipe1]
  refine Wp.call (named_ok hr hp (by omega)) ?_
  rintro _ S2 ⟨s2, rfl, ⟨N, hN, hNn, hNl, hNm⟩, k2, hs2⟩
  have hNlen := nodup_len hNn hNl
  simp_arith [bSorted_dic hN (by omega)]
  have g1 : (S2 ++ [O.lst (nDs (sortN N))])[S2.length]? = some (.lst (nDs (sortN N))) := get_end
  simp_arith [oIt_lst g1]
  have hsn : (sortN N).length ≤ 1000000 := by rw [(sortN_perm N).length_eq]; omega
  refine lc_notin (L := L) oNotIn (fun x => !decide (x ∈ L)) (fun S' k' x => oNotIn_dic (k'.get ((Kp.new (A := [])).get (k2.get hs (by simp)) (by simp)) (by simp))) g1 (by rfl) (by simp) (by decide) hsn ?_
  intro S3 h3 k3
  simp_arith [bTuple_lst h3]
  exact ⟨⟨N, L, rfl, hNn, hLn, hNm, hLs⟩, ((k1.trans k2).app).trans k3⟩
/-! keeps_secrets -/
def pubArr (arrs : List Arr) (i : Nat) : Bool := match arrs[i]? with
  | some a => decide (a.label = "public")
  | none => false
def watched (arrs : List Arr) : Row → List Nat
  | .branch a _ _ => [a]
  | .out a => [a]
  | .load _ _ a => [a]
  | .store i a v => if pubArr arrs i = true then [a, v] else [a]
  | .op s _ a b => if s = "div" ∨ s = "mod" then [a, b] else []
  | _ => []
noncomputable def b_watched : MS := (mSeq (mSet 2 (mBin oIx (mVar 0) (mC (.int 0))))
    (mSeq (mIfS (mCmp oIn (mVar 2) (mTup (lCons (mC (.str "branch")) (lCons (mC (.str "out")) lNil)))) (mRet (mTup (lCons (mBin oIx (mVar 0) (mC (.int 1))) lNil))) mPass)
    (mSeq (mIfS (mCmp oEq (mVar 2) (mC (.str "load"))) (mRet (mTup (lCons (mBin oIx (mVar 0) (mC (.int 3))) lNil))) mPass)
    (mSeq (mIfS (mCmp oEq (mVar 2) (mC (.str "store"))) (mRet (mIf (mCmp oEq (mBin oIx (mBin oIx (mVar 1) (mBin oIx (mVar 0) (mC (.int 1)))) (mC (.int 2))) (mC (.str "public"))) (mTup (lCons (mBin oIx (mVar 0) (mC (.int 2))) (lCons (mBin oIx (mVar 0) (mC (.int 3))) lNil))) (mTup (lCons (mBin oIx (mVar 0) (mC (.int 2))) lNil)))) mPass)
    (mSeq (mIfS (mAndB (mCmp oEq (mVar 2) (mC (.str "op"))) (mCmp oIn (mBin oIx (mVar 0) (mC (.int 1))) (mTup (lCons (mC (.str "div")) (lCons (mC (.str "mod")) lNil))))) (mRet (mTup (lCons (mBin oIx (mVar 0) (mC (.int 3))) (lCons (mBin oIx (mVar 0) (mC (.int 4))) lNil)))) mPass)
    (mRet (mTup lNil)))))))
noncomputable def m_watched : MD := mDef 2 1 b_watched
theorem oIn_lit2 {S : Hs} {x a b : Str} : oIn (.str x) (.tup [.str a, .str b]) S = .ok (.bl (decide (x = a ∨ x = b))) S := by
  have := oIn_strs (S := S) (x := x) (xs := [a, b]) (.inl rfl)
  simpa using this
theorem ix0 {S : Hs} {d : D} {ds : List D} : oIx (.tup (d :: ds)) (.int 0) S = .ok d S := oIx_tup (n := 0) rfl
theorem ix1 {S : Hs} {d e : D} {ds : List D} : oIx (.tup (d :: e :: ds)) (.int 1) S = .ok e S := oIx_tup (n := 1) rfl
theorem ix2 {S : Hs} {d e f : D} {ds : List D} : oIx (.tup (d :: e :: f :: ds)) (.int 2) S = .ok f S := oIx_tup (n := 2) rfl
theorem ix3 {S : Hs} {d e f g : D} {ds : List D} : oIx (.tup (d :: e :: f :: g :: ds)) (.int 3) S = .ok g S := oIx_tup (n := 3) rfl
theorem ix4 {S : Hs} {d e f g h : D} {ds : List D} : oIx (.tup (d :: e :: f :: g :: h :: ds)) (.int 4) S = .ok h S := oIx_tup (n := 4) rfl
theorem watched_ok {S : Hs} {r : Row} (hr : r.ok nr arrs.length nb) : Wp NoX (m_watched [r.D, .tup (arrs.map Arr.D)] S) fun v S' => v = .tup (nDs (watched arrs r)) ∧ S' = S := by
  refine wp_def0 rfl ?_
  unfold b_watched
  cases r with
  | store i a v =>
    have hi : i < arrs.length := hr.1
    simp_arith [Row.D, ix0, ix1, ix2, ix3, oIn_lit2, oEq_str, ofString_inj, String.reduceEq, or_false, or_true, false_or, arr_at hi, arr_label]
    by_cases hp : arrs[i].label = "public"
    · simp [hp, watched, pubArr, List.getElem?_eq_getElem hi]
    · simp [hp, watched, pubArr, List.getElem?_eq_getElem hi]
  | op s d a b =>
    by_cases hs : s = "div" ∨ s = "mod"
    · simp_arith [Row.D, ix0, ix1, ix2, ix3, ix4, oIn_lit2, oEq_str, ofString_inj, String.reduceEq, or_false, or_true, false_or, hs]
      simp [watched, hs]
    · simp_arith [Row.D, ix0, ix1, ix2, ix3, ix4, oIn_lit2, oEq_str, ofString_inj, String.reduceEq, or_false, or_true, false_or, hs]
      simp [watched, hs]
  | _ =>
    simp_arith [Row.D, ix0, ix1, ix2, ix3, ix4, oIn_lit2, oEq_str, ofString_inj, String.reduceEq, or_false, or_true, false_or]
    simp [watched]
end
noncomputable def lb_keep0 : MS := (mIfS (mCmp oIn (mVar 5) (mVar 2)) (mRet (mC (.bl false))) mPass)
noncomputable def lb_keep1 : MS := (mFor (mIt (mFn m_watched (lCons (mVar 4) (lCons (mBin oIx (mVar 0) (mC (.int 0))) lNil)))) (gN 5) lb_keep0)
noncomputable def lb_keep2 : MS := (mFor (mIt (mVar 3)) (gN 4) lb_keep1)
noncomputable def b_keep : MS := (mSeq (mSet 2 (mFn m_secR (lCons (mVar 0) (lCons (mVar 1) lNil))))
    (mSeq (mFor (mIt (mBin oIx (mVar 0) (mC (.int 2)))) (gN 3) lb_keep2)
    (mRet (mC (.bl true)))))
noncomputable def m_keep : MD := mDef 2 4 b_keep
section
variable {arrs : List Arr} {labels : List Str} {nr nb : Nat}
/-- nothing that is secret shows in these rows -/
def Keeps (arrs : List Arr) (P : Nat → Prop) (rows : List Row) : Prop := ∀ r ∈ rows, ∀ x ∈ watched arrs r, ¬ P x
theorem keep_ok {S : Hs} {params : Nat} {blocks : List (List Row)} (hr : ∀ b ∈ blocks, ∀ r ∈ b, r.ok nr arrs.length nb) (hl : labels.length ≤ nr)
    (hsz : labels.length + blocks.flatten.length + (nr + 1) * (3 * blocks.flatten.length + 1) ≤ 100000) :
    Wp NoX (m_keep [progD arrs params blocks, .tup (labels.map D.str)] S) fun v S' => (∃ b : Bool, v = .bl b ∧ (b = true ↔ Keeps arrs (Sec arrs labels blocks.flatten) blocks.flatten)) ∧ Kp [] S S' := by
  refine wp_def0 rfl ?_
  unfold b_keep
  simp_arith []
  refine Wp.call (secR_ok hr hl hsz) ?_
  rintro _ S1 ⟨s, L, rfl, hs, hLn, hLs, k1, hs0⟩
  simp_arith [prog_blocks, oIt]
  have bad : ∀ (r : Row) (x : Nat), r ∈ blocks.flatten → x ∈ watched arrs r → x ∈ L → (∃ b : Bool, D.bl false = .bl b ∧ (b = true ↔ Keeps arrs (Sec arrs labels blocks.flatten) blocks.flatten)) ∧ Kp [] S S1 := fun r x h1 h2 h3 =>
    ⟨⟨false, rfl, by simp; exact fun h => h r h1 x h2 ((hLs x).mp h3)⟩, k1⟩
  refine wp_tupM blockD (fun pre l' S' => (∃ o3 o4 o5 : Option D, l' = [some (progD arrs params blocks), some (.tup (labels.map D.str)), some (.ref s), o3, o4, o5]) ∧ S' = S1 ∧ Keeps arrs (· ∈ L) pre.flatten) ⟨⟨_, _, _, rfl⟩, rfl, by simp [Keeps]⟩ ?_ ?_
  · rintro pre b post l' S' hsp ⟨⟨o3, o4, o5, rfl⟩, rfl, hk⟩
    have hb : b ∈ blocks := by rw [hsp]; simp
    simp_arith []
    unfold lb_keep2
    simp_arith [oIt]
    refine wp_tupM Row.D (fun pre2 l' S2 => (∃ o3 o4 o5 : Option D, l' = [some (progD arrs params blocks), some (.tup (labels.map D.str)), some (.ref s), o3, o4, o5]) ∧ S2 = S' ∧ Keeps arrs (· ∈ L) (pre.flatten ++ pre2)) ⟨⟨_, _, _, rfl⟩, rfl, by simpa using hk⟩ ?_ ?_
    · rintro pre2 r post2 l2 S2 hsp2 ⟨⟨o3, o4, o5, rfl⟩, rfl, hk2⟩
      have hrb : r ∈ b := by rw [hsp2]; simp
      have hrf : r ∈ blocks.flatten := List.mem_flatten.mpr ⟨b, hb, hrb⟩
      simp_arith []
      unfold lb_keep1
      simp_arith [prog_arrs]
      refine Wp.call (watched_ok (hr b hb r hrb)) ?_
      rintro _ S3 ⟨rfl, rfl⟩
      simp_arith [oIt]
      refine wp_tupM nD (fun pre3 l' S4 => (∃ o3 o4 o5 : Option D, l' = [some (progD arrs params blocks), some (.tup (labels.map D.str)), some (.ref s), o3, o4, o5]) ∧ S4 = S3 ∧ ∀ x ∈ pre3, x ∉ L) ⟨⟨_, _, _, rfl⟩, rfl, by simp⟩ ?_ ?_
      · rintro pre3 x post3 l3 S4 hsp3 ⟨⟨o3, o4, o5, rfl⟩, rfl, hk3⟩
        have hxw : x ∈ watched arrs r := by rw [hsp3]; simp
        unfold lb_keep0
        simp_arith [oIn_dic hs]
        by_cases hx : x ∈ L
        · simp_arith [hx]
          exact bad r x hrf hxw hx
        · simp_arith [hx]
          refine ⟨⟨_, _, _, rfl⟩, fun y hy => ?_⟩
          rcases List.mem_append.mp hy with hy | hy
          · exact hk3 y hy
          · simp only [List.mem_singleton] at hy; subst hy; exact hx
      · rintro l3 S4 ⟨⟨o3, o4, o5, rfl⟩, rfl, hk3⟩
        refine ⟨⟨_, _, _, rfl⟩, rfl, ?_⟩
        rw [← List.append_assoc]
        intro r' hr' y hy
        rcases List.mem_append.mp hr' with h | h
        · exact hk2 r' h y hy
        · simp only [List.mem_singleton] at h; subst h; exact hk3 y hy
    · rintro l2 S2 ⟨hL2, rfl, hk2⟩
      exact ⟨hL2, rfl, by simpa using hk2⟩
  · rintro l' S' ⟨⟨o3, o4, o5, rfl⟩, rfl, hk⟩
    simp_arith []
    exact ⟨⟨true, rfl, by simp; exact fun r h1 x h2 h3 => hk r h1 x h2 ((hLs x).mpr h3)⟩, k1⟩
end
end Ly
set_option Elab.async false
set_option linter.all false
set_option maxRecDepth 100000
namespace Ly
open PySem PySem.Spec L2
open PyProof.Rows hiding St
/-! ### what laws do: comparing, cutting -/
theorem eq_nil {S : Hs} {i j : Nat} {xs : List D} (hi : S[i]? = some (.lst xs)) (hj : S[j]? = some (.lst [])) (hp : D.plains xs = true) (hd : PyData.depthAll (D.toPs xs) ≤ 30) : cEqD (.ref i) (.ref j) S = some xs.isEmpty := by
  unfold cEqD
  rw [(pd_lst hi hp hd).1, (pd_lst hj rfl (by simp [D.toPs, PyData.depthAll])).1]
  simp only [cEqS]
  rw [if_pos ⟨(pd_lst hi hp hd).2, (pd_lst hj rfl (by simp [D.toPs, PyData.depthAll])).2⟩]
  cases xs with
  | nil => rfl
  | cons a xs => rfl
theorem plains_nats {L : List Nat} : D.plains (nDs L) = true := by rw [plains_mem]; intro x hx; rw [List.mem_map] at hx; obtain ⟨n, _, rfl⟩ := hx; rfl
theorem depth_nats {L : List Nat} : PyData.depthAll (D.toPs (nDs L)) ≤ 30 := by
  refine depthAll_mem _ fun y hy => ?_
  rw [List.mem_map] at hy; obtain ⟨n, _, rfl⟩ := hy
  simp [D.toP, PyData.depth]
theorem eq_tups {S : Hs} {L : List Nat} : oNe (.tup (nDs L)) (.tup (nDs L)) S = .ok (.bl false) S := by
  have := cEqD_same (x := .tup (nDs L)) (y := .tup (nDs L)) (S := S) rfl (pd_tup plains_nats depth_nats).1 (pd_tup plains_nats depth_nats).1 (pd_tup (S := S) plains_nats depth_nats).2
  simp only [oNe, this, Bool.not_true]
theorem oEq_nil_nats {S : Hs} {i j : Nat} {L : List Nat} (hi : S[i]? = some (.lst (nDs L))) (hj : S[j]? = some (.lst [])) : oNe (.ref i) (.ref j) S = .ok (.bl (!L.isEmpty)) S := by
  simp only [oNe, eq_nil hi hj plains_nats depth_nats]
  cases L <;> rfl
theorem row_plain {nr na nb : Nat} {r : Row} (h : r.ok nr na nb) : r.D.plain = true := by
  have hs : ∀ s ∈ signsL, PyData.strOk s = true := by decide +kernel
  have hw : ∀ s ∈ (["const", "copy", "op", "select", "load", "store", "out", "jump", "branch", "stop"] : List Str), PyData.strOk s = true := by decide +kernel
  cases r <;> simp only [Row.D, D.plain, D.plains, Bool.and_true, Bool.true_and] <;> first | exact hw _ (by simp) | skip
  rename_i s d a b
  rw [hs s h.1]; simp only [Bool.and_true]; exact hw _ (by simp)
theorem row_depth {r : Row} : r.D.toP.depth ≤ 30 := by
  cases r <;> simp [Row.D, D.toP, D.toPs, PyData.depth, PyData.depthAll]
theorem oEq_nil_rows {nr na nb : Nat} {S : Hs} {i j : Nat} {rows : List Row} (hr : ∀ r ∈ rows, r.ok nr na nb) (hi : S[i]? = some (.lst (rows.map Row.D))) (hj : S[j]? = some (.lst [])) : oEq (.ref i) (.ref j) S = .ok (.bl rows.isEmpty) S := by
  have hp : D.plains (rows.map Row.D) = true := by rw [plains_mem]; intro x hx; rw [List.mem_map] at hx; obtain ⟨r, h, rfl⟩ := hx; exact row_plain (hr r h)
  have hd : PyData.depthAll (D.toPs (rows.map Row.D)) ≤ 30 := depthAll_mem _ fun y hy => by rw [List.mem_map] at hy; obtain ⟨r, h, rfl⟩ := hy; exact row_depth
  simp only [oEq, eq_nil hi hj hp hd]
  cases rows <;> rfl
theorem cut2 {a b : D} {ds : List D} : cutD (a :: b :: ds) (some 2) none = ds := by simp [cutD, HT.sIx]
theorem cut3 {a b c : D} {ds : List D} : cutD (a :: b :: c :: ds) (some 3) none = ds := by simp [cutD, HT.sIx]
theorem oIn_new2 {S : Hs} {x a b : Str} : oIn (.str x) (.ref S.length) (S ++ [.lst [.str a, .str b]]) = .ok (.bl (decide (x = a ∨ x = b))) (S ++ [.lst [.str a, .str b]]) := by
  have := oIn_strs (S := S ++ [.lst [.str a, .str b]]) (x := x) (y := .ref S.length) (xs := [a, b]) (.inr (.inr ⟨_, rfl, by simp⟩))
  simpa using this
theorem oIn_new3 {S : Hs} {x a b c : Str} : oIn (.str x) (.ref S.length) (S ++ [.lst [.str a, .str b, .str c]]) = .ok (.bl (decide (x = a ∨ x = b ∨ x = c))) (S ++ [.lst [.str a, .str b, .str c]]) := by
  have := oIn_strs (S := S ++ [.lst [.str a, .str b, .str c]]) (x := x) (y := .ref S.length) (xs := [a, b, c]) (.inr (.inr ⟨_, rfl, by simp⟩))
  simpa using this
theorem oNeg_int {a : Int} {S : Hs} : oNeg (.int a) S = .ok (.int (-a)) S := nr rfl
theorem rg_nats {n : Nat} : rgD 0 (n : Int) = nDs (List.range n) := by simp [rgD, nDs, nD]
theorem oLRg_nat {n : Nat} {S : Hs} (h : n ≤ 1000000) : oLRg 0 (n : Int) S = .ok (.ref S.length) (S ++ [.lst (nDs (List.range n))]) := by
  have hc : -(2 ^ 62) ≤ (0 : Int) ∧ (0 : Int) < 2 ^ 62 ∧ -(2 ^ 62) ≤ (n : Int) ∧ (n : Int) < 2 ^ 62 ∧ ((n : Int) - 0).toNat ≤ 2 ^ 24 := by
    refine ⟨by decide +kernel, by decide +kernel, ?_, ?_, ?_⟩
    · exact Int.le_trans (by decide +kernel) (Int.natCast_nonneg n)
    · exact Int.lt_of_le_of_lt (Int.ofNat_le.mpr h) (by decide +kernel)
    · rw [Int.sub_zero, Int.toNat_natCast]; exact Nat.le_trans h (by decide +kernel)
  unfold oLRg
  rw [if_pos hc, rg_nats]
end Ly
set_option Elab.async false
set_option linter.all false
set_option maxRecDepth 100000
namespace Ly
open PySem PySem.Spec L2
open PyProof.Rows hiding St
local macro_rules | `(tactic| simp_arith [$ls,*]) => `(tactic| simp only [Ly.line_le, Ly.atX_no, Ly.v_ok, Ly.v_bad, Ly.v_bind, Ly.k_bd, Ly.v_at, Ly.v_bin, Ly.k_bi, Ly.k_bi2, Ly.v_var, Ly.v_c, Ly.v_un, Ly.k_un, Ly.v_if, Ly.k_ife, Ly.v_and, Ly.k_and, Ly.k_and2, Ly.v_or, Ly.k_or, Ly.k_or2, Ly.v_tup, Ly.k_tup, Ly.v_lst, Ly.k_lst, Ly.v_call, Ly.k_ca, Ly.v_fn, Ly.k_fn, Ly.v_bm, Ly.k_bm, Ly.k_bm2, Ly.v_sl, Ly.k_sl, Ly.k_sl2, Ly.k_sl3, Ly.v_ixK, Ly.k_ixk, Ly.v_inK, Ly.k_ink, Ly.v_notinK, Ly.k_nink, Ly.v_getK2, Ly.k_gk2, Ly.k_gk, Ly.v_get2, Ly.k_g2, Ly.k_g22, Ly.k_g23, Ly.v_nil, Ly.v_cons, Ly.k_co, Ly.k_co2, Ly.v_no, Ly.v_some, Ly.k_so, Ly.k_cm, Ly.v_cmp, Ly.v_tru, Ly.k_tr, Ly.v_notB, Ly.k_no, Ly.v_andB, Ly.k_an, Ly.v_orB, Ly.k_orb, Ly.v_yes, Ly.v_inKB, Ly.k_inkB, Ly.v_notinKB, Ly.k_ninkB, Ly.v_set, Ly.k_st, Ly.v_expr, Ly.k_ex, Ly.v_ret, Ly.k_re, Ly.v_retN, Ly.v_pass, Ly.v_brk, Ly.v_cnt, Ly.v_seq, Ly.k_sq_nx, Ly.k_sq_rt, Ly.k_sq_bk, Ly.k_sq_ct, Ly.v_ifS, Ly.k_ifs, Ly.v_asg, Ly.k_as, Ly.k_as2, Ly.v_aug, Ly.k_au, Ly.v_for, Ly.k_fo, Ly.v_it, Ly.k_it, Ly.k_ij, Ly.v_rng1, Ly.v_rng2, Ly.v_enum, Ly.v_zip, Ly.v_gN, Ly.v_gsN, Ly.v_gsC, Ly.k_gc, Ly.v_gT, Ly.v_gTw, Ly.v_gSb, Ly.k_gsb, Ly.k_gsb2, Ly.k_gsb3, Ly.k_en_rt, Ly.k_en_nx, Ly.k_tu_nx, Ly.k_tu_ct, Ly.k_tu_bk, Ly.k_tu_rt, Ly.v_lc, Ly.k_lc, Ly.v_augI, Ly.k_ag, Ly.k_ag2, Ly.k_ag3, Ly.k_ag4, Ly.k_ag5, Ly.v_del, Ly.k_dl, Ly.k_dl2, Ly.v_setd, Ly.v_pop2, Ly.k_d3, Ly.k_d32, Ly.k_d33, Ly.v_get1, Ly.k_g1, Ly.k_g12, Ly.v_rg1, Ly.k_rg, Ly.v_rg2, Ly.k_rg2, Ly.k_rg22, Ly.v_dicK, Ly.v_dicT, Ly.v_dc, Ly.k_dc, List.getElem?_cons_zero, List.getElem?_cons_succ, List.set_cons_zero, List.set_cons_succ, List.length_cons, List.length_nil, List.map_cons, List.map_nil, List.cons_append, List.nil_append, List.replicate, if_true, if_false, Bool.false_eq_true, Bool.not_true, Bool.not_false, Bool.true_and, Bool.false_and, decide_true, decide_false, decide_eq_true_eq, Nat.zero_add, Nat.reduceAdd, Nat.reduceLeDiff, true_and, and_true, $ls,*])
/-! ### apply: the table of the actions -/
def d_ACT (fA : Nat → Addr) : List (Str × D) := [("+", (.cst (fA 0))), ("-", (.cst (fA 1))), ("*", (.cst (fA 2))), ("&", (.cst (fA 3))), ("|", (.cst (fA 4))), ("^", (.cst (fA 5))), ("<<", (.cst (fA 6))), (">>", (.cst (fA 7))), ("==", (.cst (fA 8))), ("<", (.cst (fA 9))), ("<=", (.cst (fA 10))), ("div", (.cst (fA 11))), ("mod", (.cst (fA 12)))]
noncomputable def tblF (fA : Nat → Addr) : List (Addr × MD) := [(fA 0, m_s0), (fA 1, m_s1), (fA 2, m_s2), (fA 3, m_s3), (fA 4, m_s4), (fA 5, m_s5), (fA 6, m_s6), (fA 7, m_s7), (fA 8, m_s8), (fA 9, m_s9), (fA 10, m_s10), (fA 11, m_s11), (fA 12, m_s12)]
noncomputable def b_applyF (fA : Nat → Addr) : MS := (mSeq (mSet 3 (mIxK (d_ACT fA) (mVar 0)))
    (mRet (mCalA (tblF fA) 3 (lCons (mVar 1) (lCons (mVar 2) lNil)))))
noncomputable def m_applyF (fA : Nat → Addr) : MD := mDef 3 1 (b_applyF fA)
/-- the actions are different defs -/
def ActOk (fA : Nat → Addr) : Prop := ∀ i j, i < 13 → j < 13 → fA i = fA j → i = j
theorem v_calA {X : XP} {tbl : List (Addr × MD)} {i : Nat} {g : ML} {l : Ls} {S : Hs} {f : Addr} {md : MD} {Q : D → Hs → Prop} (h : l[i]? = some (some (.cst f))) (e : tbl.lookup f = some md) : Wp X (mCalA tbl i g l S) Q = Wp X (g l S) (fnK X md l Q) := by
  unfold mCalA
  simp only [h, e]
  rw [v_bind]; congr 1; funext ds S1; unfold bdK fnK; rw [v_at]
theorem applyF_ok {fA : Nat → Addr} (hA : ActOk fA) {S : Hs} {s : Str} {a b : Nat} (hs : s ∈ signsL) (ha : a < 4294967296) (hb : b < 4294967296) : Wp NoX (m_applyF fA [.str s, nD a, nD b] S) fun v S' => v = nD (opN s a b) ∧ S' = S := by
  refine wp_def0 rfl ?_
  unfold b_applyF
  have hne : ∀ i j, i < 13 → j < 13 → i ≠ j → (fA i == fA j) = false := fun i j hi hj hn => by simpa using fun e => hn (hA i j hi hj e)
  have lk : ∀ k, k < 13 → (tblF fA).lookup (fA k) = [m_s0, m_s1, m_s2, m_s3, m_s4, m_s5, m_s6, m_s7, m_s8, m_s9, m_s10, m_s11, m_s12][k]? := by
    intro k hk
    have hc : k = 0 ∨ k = 1 ∨ k = 2 ∨ k = 3 ∨ k = 4 ∨ k = 5 ∨ k = 6 ∨ k = 7 ∨ k = 8 ∨ k = 9 ∨ k = 10 ∨ k = 11 ∨ k = 12 := by omega
    have st : ∀ (i : Nat) (md : MD) (r : List (Addr × MD)), i < 13 → i ≠ k → ((fA i, md) :: r).lookup (fA k) = r.lookup (fA k) := fun i md r hi hn => by
      rw [List.lookup_cons, hne k i hk hi (fun e => hn e.symm)]
    have hit : ∀ (md : MD) (r : List (Addr × MD)), ((fA k, md) :: r).lookup (fA k) = some md := fun md r => by rw [List.lookup_cons, beq_self_eq_true]
    unfold tblF
    rcases hc with rfl | rfl | rfl | rfl | rfl | rfl | rfl | rfl | rfl | rfl | rfl | rfl | rfl
    all_goals repeat (first | exact hit _ _ | rw [st _ _ _ (by decide) (by decide)])
  simp only [signsL, List.mem_cons, List.not_mem_nil, or_false] at hs
  have fin : ∀ (k : Nat) (md : MD), k < 13 → (d_ACT fA).lookup s = some (.cst (fA k)) → [m_s0, m_s1, m_s2, m_s3, m_s4, m_s5, m_s6, m_s7, m_s8, m_s9, m_s10, m_s11, m_s12][k]? = some md →
      (Wp NoX (md [nD a, nD b] S) fun v S' => v = nD (opN s a b) ∧ S' = S) → Wp NoX (mSeq (mSet 3 (mIxK (d_ACT fA) (mVar 0))) (mRet (mCalA (tblF fA) 3 (lCons (mVar 1) (lCons (mVar 2) lNil)))) (List.map some [.str s, nD a, nD b] ++ List.replicate 1 none) S) (enK fun v S' => v = nD (opN s a b) ∧ S' = S) := by
    intro k md hk e1 e2 hW
    simp_arith [e1]
    rw [v_calA (f := fA k) (md := md) rfl ((lk k hk).trans e2)]
    simp_arith []
    exact hW
  rcases hs with rfl | rfl | rfl | rfl | rfl | rfl | rfl | rfl | rfl | rfl | rfl | rfl | rfl
  · exact fin 0 _ (by decide) (by simp [d_ACT, List.lookup, beq_lit]) rfl (s0_ok ha hb)
  · exact fin 1 _ (by decide) (by simp [d_ACT, List.lookup, beq_lit]) rfl (s1_ok ha hb)
  · exact fin 2 _ (by decide) (by simp [d_ACT, List.lookup, beq_lit]) rfl (s2_ok ha hb)
  · exact fin 3 _ (by decide) (by simp [d_ACT, List.lookup, beq_lit]) rfl (s3_ok ha hb)
  · exact fin 4 _ (by decide) (by simp [d_ACT, List.lookup, beq_lit]) rfl (s4_ok ha hb)
  · exact fin 5 _ (by decide) (by simp [d_ACT, List.lookup, beq_lit]) rfl (s5_ok ha hb)
  · exact fin 6 _ (by decide) (by simp [d_ACT, List.lookup, beq_lit]) rfl (s6_ok ha hb)
  · exact fin 7 _ (by decide) (by simp [d_ACT, List.lookup, beq_lit]) rfl (s7_ok ha hb)
  · exact fin 8 _ (by decide) (by simp [d_ACT, List.lookup, beq_lit]) rfl (s8_ok ha hb)
  · exact fin 9 _ (by decide) (by simp [d_ACT, List.lookup, beq_lit]) rfl (s9_ok ha hb)
  · exact fin 10 _ (by decide) (by simp [d_ACT, List.lookup, beq_lit]) rfl (s10_ok ha hb)
  · exact fin 11 _ (by decide) (by simp [d_ACT, List.lookup, beq_lit]) rfl (s11_ok ha hb)
  · exact fin 12 _ (by decide) (by simp [d_ACT, List.lookup, beq_lit]) rfl (s12_ok ha hb)
/-! ### machine code -/
def d_CODE_FORMSM : List (Str × D) := [("const", (.wt [(.str "write"), (.str "word")])), ("op", (.wt [(.str "sign"), (.str "write"), (.str "read"), (.str "read")])), ("select", (.wt [(.str "write"), (.str "read"), (.str "read"), (.str "read")])), ("load", (.wt [(.str "write"), (.str "read"), (.str "base"), (.str "mask")])), ("store", (.wt [(.str "read"), (.str "base"), (.str "mask"), (.str "read")])), ("out", (.wt [(.str "read")])), ("jump", (.wt [(.str "target")])), ("branch", (.wt [(.str "read"), (.str "target")])), ("stop", (.wt [(.str "read")]))]
def d_REGISTERSM : D := (.int 16)
noncomputable def lb_memory_of_0M : MS := (mExpr (mBM "list" oExtendA (mVar 1) (lCons (mVar 2) lNil)))
noncomputable def b_memory_ofM : MS := (mSeq (mSet 1 (mLst lNil))
    (mSeq (mFor (mIt (mVar 0)) (gN 2) lb_memory_of_0M)
    (mRet (mUn oDE (mVar 1)))))
noncomputable def m_memory_ofM : MD := mDef 1 2 b_memory_ofM
noncomputable def b_contents_ofM : MS := (mRet (mCall bTuple (lCons (mLc (mIt (mVar 0)) (cT [2, 3, 4]) mYes (mCall bTuple (lCons (mLc (mRng2 (lCons (mVar 2) (lCons (mBin oAdd (mVar 2) (mVar 3)) lNil))) (cN 5) mYes (mBin oIx (mVar 1) (mVar 5)) [5]) lNil)) [2, 3, 4]) lNil)))
noncomputable def m_contents_ofM : MD := mDef 2 4 b_contents_ofM
noncomputable def b_address_ofM : MS := (mSeq (mIfS (mCmp oEq (mBin oIx (mVar 0) (mC (.int 0))) (mC (.str "load"))) (mRet (mBin oAdd (mBin oIx (mVar 0) (mC (.int 3))) (mBin oAnd (mBin oIx (mVar 1) (mBin oIx (mVar 0) (mC (.int 2)))) (mBin oIx (mVar 0) (mC (.int 4)))))) mPass)
    (mRet (mBin oAdd (mBin oIx (mVar 0) (mC (.int 2))) (mBin oAnd (mBin oIx (mVar 1) (mBin oIx (mVar 0) (mC (.int 1)))) (mBin oIx (mVar 0) (mC (.int 3)))))))
noncomputable def m_address_ofM : MD := mDef 2 0 b_address_ofM
noncomputable def b_word_ofM (fA : Nat → Addr) : MS := (mSeq (mIfS (mCmp oEq (mBin oIx (mVar 0) (mC (.int 0))) (mC (.str "op"))) (mRet (mFn (m_applyF fA) (lCons (mBin oIx (mVar 0) (mC (.int 1))) (lCons (mBin oIx (mVar 1) (mBin oIx (mVar 0) (mC (.int 3)))) (lCons (mBin oIx (mVar 1) (mBin oIx (mVar 0) (mC (.int 4)))) lNil))))) mPass)
    (mSeq (mIfS (mCmp oEq (mBin oIx (mVar 0) (mC (.int 0))) (mC (.str "const"))) (mRet (mBin oIx (mVar 0) (mC (.int 2)))) mPass)
    (mRet (mIf (mCmp oNe (mBin oIx (mVar 1) (mBin oIx (mVar 0) (mC (.int 2)))) (mC (.int 0))) (mBin oIx (mVar 1) (mBin oIx (mVar 0) (mC (.int 3)))) (mBin oIx (mVar 1) (mBin oIx (mVar 0) (mC (.int 4))))))))
noncomputable def m_word_ofM (fA : Nat → Addr) : MD := mDef 2 0 (b_word_ofM fA)
noncomputable def lb_writes_0M : MS := (mIfS (mCmp oEq (mVar 2) (mC (.str "write"))) (mRet (mVar 1)) mPass)
noncomputable def b_writesM : MS := (mSeq (mFor (mZip (lCons (mSl (mVar 0) (oSome (mC (.int 1))) oNo) (lCons (mIxK d_CODE_FORMSM (mBin oIx (mVar 0) (mC (.int 0)))) lNil))) (gT 2 (gsC (gN 1) (gsC (gN 2) gsN))) lb_writes_0M)
    (mRet (mUn oNeg (mC (.int 1)))))
noncomputable def m_writesM : MD := mDef 1 2 b_writesM
noncomputable def lb_plain_run_0M (fA : Nat → Addr) : MS := (mSeq (mSet 11 (mBin oIx (mVar 4) (mVar 9)))
    (mSeq (mSet 12 (mBin oIx (mVar 11) (mC (.int 0))))
    (mSeq (mAug 9 oIAdd (mC (.int 1)))
    (mIfS (mCmp oEq (mVar 12) (mC (.str "jump"))) (mSet 9 (mBin oIx (mVar 11) (mC (.int 1)))) (mIfS (mCmp oEq (mVar 12) (mC (.str "branch"))) (mIfS (mCmp oNe (mBin oIx (mVar 6) (mBin oIx (mVar 11) (mC (.int 1)))) (mC (.int 0))) (mSet 9 (mBin oIx (mVar 11) (mC (.int 2)))) mPass) (mIfS (mCmp oEq (mVar 12) (mC (.str "load"))) (mAsg (mGet2 (mVar 5) (mFn m_address_ofM (lCons (mVar 11) (lCons (mVar 6) lNil))) (mC (.int 0))) (gSb (mVar 6) (mBin oIx (mVar 11) (mC (.int 1))))) (mIfS (mCmp oEq (mVar 12) (mC (.str "store"))) (mAsg (mBin oIx (mVar 6) (mBin oIx (mVar 11) (mC (.int 4)))) (gSb (mVar 5) (mFn m_address_ofM (lCons (mVar 11) (lCons (mVar 6) lNil))))) (mIfS (mCmp oEq (mVar 12) (mC (.str "out"))) (mExpr (mBM "list" oAppend (mVar 7) (lCons (mBin oIx (mVar 6) (mBin oIx (mVar 11) (mC (.int 1)))) lNil))) (mIfS (mCmp oEq (mVar 12) (mC (.str "stop"))) (mSeq (mSet 8 (mBin oIx (mVar 6) (mBin oIx (mVar 11) (mC (.int 1)))))
    mBrk) (mAsg (mFn (m_word_ofM fA) (lCons (mVar 11) (lCons (mVar 6) lNil))) (gSb (mVar 6) (mFn m_writesM (lCons (mVar 11) lNil)))))))))))))
noncomputable def b_plain_runM (fA : Nat → Addr) : MS := (mSeq (mAsg (mVar 0) (gT 2 (gsC (gN 3) (gsC (gN 4) gsN))))
    (mSeq (mSet 5 (mFn m_memory_ofM (lCons (mVar 1) lNil)))
    (mSeq (mSet 6 (mBin oMul (mLst (lCons (mC (.int 0)) lNil)) (mC d_REGISTERSM)))
    (mSeq (mSet 7 (mLst lNil))
    (mSeq (mSet 8 (mC .non))
    (mSeq (mSet 9 (mC (.int 0)))
    (mSeq (mFor (mRng1 (lCons (mVar 2) lNil)) (gN 10) (lb_plain_run_0M fA))
    (mRet (mTup (lCons (mCall bTuple (lCons (mVar 7) lNil)) (lCons (mVar 8) (lCons (mFn m_contents_ofM (lCons (mVar 3) (lCons (mVar 5) lNil))) lNil))))))))))))
noncomputable def m_plain_runM (fA : Nat → Addr) : MD := mDef 3 10 (b_plain_runM fA)
inductive MRow where
  | const (d n : Nat) | op (s : Str) (d a b : Nat) | select (d c a b : Nat) | load (d a base mask : Nat) | store (a base mask v : Nat) | out (a : Nat) | jump (t : Nat) | branch (a t : Nat) | stop (a : Nat)
def MRow.D : MRow → D
  | .const d n => .tup [.str "const", nD d, nD n]
  | .op s d a b => .tup [.str "op", .str s, nD d, nD a, nD b]
  | .select d c a b => .tup [.str "select", nD d, nD c, nD a, nD b]
  | .load d a base mask => .tup [.str "load", nD d, nD a, nD base, nD mask]
  | .store a base mask v => .tup [.str "store", nD a, nD base, nD mask, nD v]
  | .out a => .tup [.str "out", nD a]
  | .jump t => .tup [.str "jump", nD t]
  | .branch a t => .tup [.str "branch", nD a, nD t]
  | .stop a => .tup [.str "stop", nD a]
def MRow.ok (many : Nat) : MRow → Prop
  | .const d n => d < 16 ∧ n < 4294967296
  | .op s d a b => s ∈ signsL ∧ d < 16 ∧ a < 16 ∧ b < 16
  | .select d c a b => d < 16 ∧ c < 16 ∧ a < 16 ∧ b < 16
  | .load d a base mask => d < 16 ∧ a < 16 ∧ base ≤ 1000000 ∧ mask < 4294967296
  | .store a base mask v => a < 16 ∧ base ≤ 1000000 ∧ mask < 4294967296 ∧ v < 16
  | .out a => a < 16
  | .jump t => t < many
  | .branch a t => a < 16 ∧ t < many
  | .stop a => a < 16
def MRow.last : MRow → Bool
  | .jump _ => true
  | .stop _ => true
  | _ => false
structure Rg where
  base : Nat
  size : Nat
  label : Str
def Rg.D (r : Rg) : D := .tup [nD r.base, nD r.size, .str r.label]
def Contig : Nat → List Rg → Prop
  | _, [] => True
  | b, r :: rs => r.base = b ∧ 0 < r.size ∧ Contig (b + r.size) rs
def sizes (rs : List Rg) : Nat := (rs.map (·.size)).sum
structure CodeOk (regs : List Rg) (rows : List MRow) : Prop where
  cg : Contig 0 regs
  small : sizes regs ≤ 5000000
  ok : ∀ r ∈ rows, r.ok rows.length
  ne : 0 < rows.length
  len : rows.length ≤ 100000
  fin : ∀ r, rows[rows.length - 1]? = some r → r.last = true
def codeD (regs : List Rg) (rows : List MRow) : D := .tup [.tup (regs.map Rg.D), .tup (rows.map MRow.D)]
def contD (cs : List (List Nat)) : D := .tup (cs.map fun c => .tup (c.map nD))
/-- words of the regions -/
structure ContOk (regs : List Rg) (cs : List (List Nat)) : Prop where
  len : cs.map (·.length) = regs.map (·.size)
  lt : ∀ c ∈ cs, ∀ w ∈ c, w < 4294967296
abbrev Mem := Nat → Option Nat
def Mem.get (f : Mem) (a : Nat) : Nat := (f a).getD 0
def Mem.put (f : Mem) (a v : Nat) : Mem := fun x => if x = a then some v else f x
def mem0 (cs : List (List Nat)) : Mem := fun a => cs.flatten[a]?
structure PS where
  held : List Nat
  mem : Mem
  outs : List Nat
  pc : Nat
def PS.h (s : PS) (a : Nat) : Nat := s.held.getD a 0
def MRow.addr (r : MRow) (h : Nat → Nat) : Nat := match r with
  | .load _ a base mask => base + (h a &&& mask)
  | .store a base mask _ => base + (h a &&& mask)
  | _ => 0
def MRow.word (r : MRow) (h : Nat → Nat) : Nat := match r with
  | .const _ n => n
  | .op s _ a b => opN s (h a) (h b)
  | .select _ c a b => if h c ≠ 0 then h a else h b
  | _ => 0
def PS.exec (s : PS) (r : MRow) : PS := match r with
  | .const d _ => { s with held := s.held.set d (r.word s.h), pc := s.pc + 1 }
  | .op _ d _ _ => { s with held := s.held.set d (r.word s.h), pc := s.pc + 1 }
  | .select d _ _ _ => { s with held := s.held.set d (r.word s.h), pc := s.pc + 1 }
  | .load d _ _ _ => { s with held := s.held.set d (s.mem.get (r.addr s.h)), pc := s.pc + 1 }
  | .store _ _ _ v => { s with mem := s.mem.put (r.addr s.h) (s.h v), pc := s.pc + 1 }
  | .out a => { s with outs := s.outs ++ [s.h a], pc := s.pc + 1 }
  | .jump t => { s with pc := t }
  | .branch a t => { s with pc := if s.h a ≠ 0 then t else s.pc + 1 }
  | .stop _ => s
def MRow.stops : MRow → Option Nat
  | .stop a => some a
  | _ => none
def plainN (rows : List MRow) : Nat → PS → Option Nat × PS
  | 0, s => (none, s)
  | n + 1, s => match (rows.getD s.pc (.stop 0)).stops with
    | some a => (some (s.h a), s)
    | none => plainN rows n (s.exec (rows.getD s.pc (.stop 0)))
structure PSOk (many : Nat) (s : PS) : Prop where
  len : s.held.length = 16
  lt : ∀ w ∈ s.held, w < 4294967296
  mlt : ∀ a v, s.mem a = some v → v < 4294967296
  pc : s.pc < many
section
variable {s : PS} {r : MRow} {many : Nat} {rows : List MRow} {regs : List Rg}
theorem PSOk.h_lt (h : PSOk many s) (a : Nat) : s.h a < 4294967296 := by
  unfold PS.h
  by_cases hl : a < s.held.length
  · have : s.held.getD a 0 = s.held[a] := by simp [List.getD, List.getElem?_eq_getElem hl]
    rw [this]; exact h.lt _ (List.getElem_mem hl)
  · have : s.held.getD a 0 = 0 := by simp [List.getD, List.getElem?_eq_none (Nat.le_of_not_lt hl)]
    rw [this]; omega
theorem PSOk.word_lt (h : PSOk many s) (hr : r.ok many) : r.word s.h < 4294967296 := by
  cases r with
  | const d n => exact hr.2
  | op z d a b => exact opN_lt (h.h_lt a) (h.h_lt b)
  | select d c a b =>
    show (if s.h c ≠ 0 then s.h a else s.h b) < _
    split
    · exact h.h_lt a
    · exact h.h_lt b
  | _ => show (0 : Nat) < _; omega
theorem PSOk.get_lt (h : PSOk many s) (a : Nat) : s.mem.get a < 4294967296 := by
  unfold Mem.get
  cases e : s.mem a with
  | none => simp
  | some v => simp; exact h.mlt a v e
theorem PSOk.set (h : PSOk many s) {d w pc : Nat} (hw : w < 4294967296) (hp : pc < many) : PSOk many { s with held := s.held.set d w, pc := pc } :=
  ⟨by simp [h.len], fun x hx => by rcases List.mem_or_eq_of_mem_set hx with h1 | h1; exact h.lt x h1; omega, h.mlt, hp⟩
theorem PSOk.exec (h : PSOk many s) (hr : r.ok many) (hl : r.last = false → s.pc + 1 < many) : PSOk many (s.exec r) := by
  cases r with
  | const d n => exact h.set (h.word_lt hr) (hl rfl)
  | op z d a b => exact h.set (h.word_lt hr) (hl rfl)
  | select d c a b => exact h.set (h.word_lt hr) (hl rfl)
  | load d a base mask => exact h.set (h.get_lt _) (hl rfl)
  | store a base mask v =>
    refine ⟨h.len, h.lt, fun x y e => ?_, hl rfl⟩
    simp only [PS.exec, Mem.put] at e
    split at e
    · cases e; exact h.h_lt v
    · exact h.mlt x y e
  | out a => exact ⟨h.len, h.lt, h.mlt, hl rfl⟩
  | jump t => exact ⟨h.len, h.lt, h.mlt, hr⟩
  | branch a t =>
    refine ⟨h.len, h.lt, h.mlt, ?_⟩
    show (if s.h a ≠ 0 then t else s.pc + 1) < many
    split
    · exact hr.2
    · exact hl rfl
  | stop a => exact h
theorem CodeOk.row (c : CodeOk regs rows) {pc : Nat} (h : pc < rows.length) : rows[pc]? = some (rows.getD pc (.stop 0)) ∧ (rows.getD pc (.stop 0)).ok rows.length ∧ ((rows.getD pc (.stop 0)).last = false → pc + 1 < rows.length) := by
  have e : rows[pc]? = some (rows.getD pc (.stop 0)) := by simp [List.getD, List.getElem?_eq_getElem h]
  refine ⟨e, c.ok _ (List.mem_of_getElem? e), fun hl => ?_⟩
  apply Classical.byContradiction
  intro hc
  have : pc = rows.length - 1 := by omega
  subst this
  rw [c.fin _ e] at hl; cases hl
end
/-! ### the memory as a dict -/
theorem getK_setK {kvs : List (Key × D)} {k k' : Key} {v : D} : getK (setK kvs k v) k' = if k' = k then some v else getK kvs k' := by
  unfold setK
  split
  · rename_i h
    induction kvs with
    | nil => simp at h
    | cons x kvs ih =>
      unfold getK at ih ⊢
      simp only [List.map_cons, List.find?_cons]
      by_cases hx : x.1 = k
      · rw [if_pos hx]
        by_cases hk : k' = k
        · have : decide (x.1 = k') = true := by simp [hx, hk]
          simp only [this, if_pos hk]; rfl
        · have h1 : decide (x.1 = k') = false := by simp [hx]; exact fun e => hk e.symm
          simp only [h1, if_neg hk]
          by_cases ha : (kvs.any fun kv => decide (kv.1 = k)) = true
          · have := ih ha
            rw [if_neg hk] at this; exact this
          · have e : kvs.map (fun kv => if kv.1 = k then (kv.1, v) else kv) = kvs := by
              have : ∀ kv ∈ kvs, ¬ kv.1 = k := fun kv hm e => ha (List.any_eq_true.mpr ⟨kv, hm, by simp [e]⟩)
              conv => rhs; rw [← List.map_id kvs]
              exact List.map_congr_left fun kv hm => by rw [if_neg (this kv hm)]; rfl
            rw [e]
      · rw [if_neg hx]
        have ha : (kvs.any fun kv => decide (kv.1 = k)) = true := by
          simp only [List.any_cons, Bool.or_eq_true, decide_eq_true_eq] at h
          exact h.resolve_left hx
        by_cases hk' : x.1 = k'
        · have : decide (x.1 = k') = true := by simp [hk']
          have hkk : ¬ k' = k := fun e => hx (hk'.trans e)
          simp only [this, if_neg hkk]
        · have : decide (x.1 = k') = false := by simp [hk']
          simp only [this]
          exact ih ha
  · rename_i h
    unfold getK
    rw [List.find?_append]
    by_cases hk : k' = k
    · rw [if_pos hk]
      have : kvs.find? (fun kv => decide (kv.1 = k')) = none := by
        rw [List.find?_eq_none]
        intro x hx e
        refine h (List.any_eq_true.mpr ⟨x, hx, ?_⟩)
        rw [← hk]; exact e
      rw [this]; simp [hk]
    · rw [if_neg hk]
      have : decide (k = k') = false := by simp; exact fun e => hk e.symm
      simp [this]
theorem setK_len {kvs : List (Key × D)} {k : Key} {v : D} : (setK kvs k v).length ≤ kvs.length + 1 := by
  unfold setK; split <;> simp
theorem enum_get {ds : List D} {n a : Nat} (h : n ≤ a) : getK (enumK ds n) (.inl (a : Int)) = ds[a - n]? := by
  induction ds generalizing n with
  | nil => simp [enumK, getK]
  | cons d ds ih =>
    unfold getK at ih ⊢
    rw [enumK, List.find?_cons]
    by_cases hn : n = a
    · subst hn; simp
    · have : decide ((.inl (n : Int) : Key) = .inl (a : Int)) = false := by
        rw [decide_eq_false_iff_not]; intro e; have := Sum.inl.inj e; omega
      rw [this]
      have := ih (n := n + 1) (by omega)
      obtain ⟨z, hz⟩ : ∃ z, a - n = z + 1 := ⟨a - n - 1, by omega⟩
      rw [hz, List.getElem?_cons_succ, show z = a - (n + 1) by omega]
      exact this
structure MemAt (S : Hs) (q : Nat) (f : Mem) (N : Nat) : Prop where
  ex : ∃ kvs : List (Key × D), S[q]? = some (.dic kvs) ∧ kvs.length ≤ N ∧ ∀ a : Nat, getK kvs (.inl (a : Int)) = (f a).map nD
section
variable {S S' : Hs} {q N : Nat} {f : Mem} {B : List Nat}
theorem MemAt.kp (h : MemAt S q f N) (k : Kp B S S') (hq : q ∉ B) : MemAt S' q f N := by
  obtain ⟨kvs, h1, h2⟩ := h.ex; exact ⟨kvs, k.get h1 hq, h2⟩
theorem MemAt.lt (h : MemAt S q f N) : q < S.length := by obtain ⟨kvs, h1, _⟩ := h.ex; exact Real.lt h1
theorem MemAt.put (h : MemAt S q f N) (hN : N ≤ 10000000) (a v : Nat) : ∃ o, oSet (.ref q) (nD a) (nD v) S = .ok () (S.set q o) ∧ MemAt (S.set q o) q (f.put a v) (N + 1) := by
  obtain ⟨kvs, h1, h2, h3⟩ := h.ex
  refine ⟨.dic (setK kvs (.inl (a : Int)) (nD v)), oSet_dic h1 key_int (Nat.lt_of_le_of_lt (Nat.le_trans h2 hN) (by decide)), ⟨_, get_put h1, Nat.le_trans setK_len (by omega), fun x => ?_⟩⟩
  rw [getK_setK, h3]
  unfold Mem.put
  by_cases hx : x = a
  · subst hx; simp
  · have : ¬ ((.inl (x : Int) : Key) = .inl (a : Int)) := by intro e; have := Sum.inl.inj e; omega
    rw [if_neg this, if_neg hx]
theorem MemAt.dget (h : MemAt S q f N) (a : Nat) : dGet (.ref q) (nD a) S = some ((f a).map nD) := by
  obtain ⟨kvs, h1, h2, h3⟩ := h.ex
  rw [dGet_dic h1 key_int, h3]
theorem MemAt.ix (h : MemAt S q f N) {a v : Nat} (ha : f a = some v) : oIx (.ref q) (nD a) S = .ok (nD v) S := by
  obtain ⟨kvs, h1, h2, h3⟩ := h.ex
  exact oIx_dic h1 key_int (by rw [h3, ha]; rfl)
theorem MemAt.ty (h : MemAt S q f N) : hasTy "dict" (.ref q) S = true := by
  obtain ⟨kvs, h1, h2, h3⟩ := h.ex
  simp [hasTy, h1]
theorem memory_ok {cs : List (List Nat)} (hl : cs.flatten.length ≤ 6000000) : Wp NoX (m_memory_ofM [contD cs] S) fun v S' => ∃ q, v = .ref q ∧ MemAt S' q (mem0 cs) cs.flatten.length ∧ S.length ≤ q ∧ Kp [] S S' := by
  refine wp_def0 rfl ?_
  unfold b_memory_ofM
  simp_arith [Ly.v_fld, Ly.v_meth, Ly.k_me2, Ly.v_make, Ly.k_mk, Ly.v_fldset, Ly.k_fs, Ly.v_fldaug, Ly.k_fa2, Ly.look1, List.mem_cons, List.not_mem_nil, or_false, true_or, or_true, contD, oIt]
  refine wp_tupM (fun c : List Nat => D.tup (c.map nD)) (xs := cs) (fun pre l' S' => (∃ o2 : Option D, l' = [some (.tup (cs.map fun c => .tup (c.map nD))), some (.ref S.length), o2]) ∧ S'[S.length]? = some (.lst (pre.flatten.map nD)) ∧ Kp [] S S') ⟨⟨_, rfl⟩, by simp, Kp.new⟩ ?_ ?_
  · rintro pre c post l' S' hsp ⟨⟨o2, rfl⟩, hq, hK⟩
    unfold lb_memory_of_0M
    have hsz : (pre.flatten.map nD).length + (c.map nD).length ≤ sizeLine := by
      have e : cs.flatten.length = pre.flatten.length + (c.length + post.flatten.length) := by rw [hsp]; simp
      simp only [List.length_map]
      exact Nat.le_trans (show _ ≤ 6000000 by omega) (by decide)
    have hext : oExtendA (.ref S.length) [.tup (c.map nD)] S' = .ok .non (S'.set S.length (.lst (pre.flatten.map nD ++ c.map nD))) := by
      simp only [oExtendA, hq]; rw [if_pos hsz]
    simp_arith [Ly.v_fld, Ly.v_meth, Ly.k_me2, Ly.v_make, Ly.k_mk, Ly.v_fldset, Ly.k_fs, Ly.v_fldaug, Ly.k_fa2, Ly.look1, List.mem_cons, List.not_mem_nil, or_false, true_or, or_true, hasTy_lst hq, hext]
    exact ⟨⟨_, rfl⟩, by rw [get_put hq]; simp, hK.setNew (Nat.le_refl _)⟩
  · rintro l' S' ⟨⟨o2, rfl⟩, hq, hK⟩
    simp_arith [Ly.v_fld, Ly.v_meth, Ly.k_me2, Ly.v_make, Ly.k_mk, Ly.v_fldset, Ly.k_fs, Ly.v_fldaug, Ly.k_fa2, Ly.look1, List.mem_cons, List.not_mem_nil, or_false, true_or, or_true, oDE_lst hq]
    refine ⟨_, rfl, ⟨enumDs (cs.flatten.map nD), by simp, by unfold enumDs; rw [enumK_len, List.length_map]; exact Nat.le_refl _, fun a => ?_⟩, hK.le, hK.app⟩
    unfold enumDs
    rw [enum_get (Nat.zero_le _), Nat.sub_zero, List.getElem?_map]; rfl
end
/-- a region's words -/
def rgWords (f : Mem) (r : Rg) : List Nat := (List.range r.size).map fun j => f.get (r.base + j)
def endsD (f : Mem) (regs : List Rg) : D := .tup (regs.map fun r => .tup ((rgWords f r).map nD))
theorem contig_bound : ∀ {regs : List Rg} {b : Nat}, Contig b regs → ∀ r ∈ regs, b ≤ r.base ∧ r.base + r.size ≤ b + sizes regs
  | [], _, _, r, hr => by simp at hr
  | x :: xs, b, h, r, hr => by
    obtain ⟨h1, h2, h3⟩ := h
    have e : sizes (x :: xs) = x.size + sizes xs := by simp [sizes]
    rcases List.mem_cons.mp hr with rfl | hr
    · omega
    · have := contig_bound h3 r hr; omega
section
variable {S : Hs} {q N : Nat} {f : Mem} {regs : List Rg}
theorem contents_ok (hm : MemAt S q f N) (hc : Contig 0 regs) (hs : sizes regs ≤ 5000000) (hl : regs.length ≤ 100000) (hd : ∀ a, a < sizes regs → (f a).isSome = true) : Wp NoX (m_contents_ofM [.tup (regs.map Rg.D), .ref q] S) fun v S' => v = endsD f regs ∧ Kp [] S S' := by
  refine wp_def0 rfl ?_
  unfold b_contents_ofM
  have hql := hm.lt
  simp_arith [Ly.v_fld, Ly.v_meth, Ly.k_me2, Ly.v_make, Ly.k_mk, Ly.v_fldset, Ly.k_fs, Ly.v_fldaug, Ly.k_fa2, Ly.look1, List.mem_cons, List.not_mem_nil, or_false, true_or, or_true, oIt, wipe1]
  refine wp_lcTupM Rg.D (xs := regs) (fun pre acc S' => acc = (pre.map fun r => .tup ((rgWords f r).map nD)) ∧ S'[S.length]? = some (.lst acc) ∧ Kp [] S S') ⟨rfl, by simp, Kp.new⟩ ?_ ?_
  · rintro pre r post acc S' hsp ⟨rfl, hq, hK⟩
    have hr : r ∈ regs := by rw [hsp]; simp
    have hb := contig_bound hc r hr
    refine ⟨[some (.tup (regs.map Rg.D)), some (.ref q), some (nD r.base), some (nD r.size), some (.str r.label), none], rfl, ?_⟩
    have eb : (r.base : Int) + (r.size : Int) = ((r.base + r.size : Nat) : Int) := by omega
    have eb2 : ((((r.base + r.size : Nat) : Int) - (r.base : Int))).toNat = r.size := by omega
    simp_arith [Ly.v_fld, Ly.v_meth, Ly.k_me2, Ly.v_make, Ly.k_mk, Ly.v_fldset, Ly.k_fs, Ly.v_fldaug, Ly.k_fa2, Ly.look1, List.mem_cons, List.not_mem_nil, or_false, true_or, or_true, oAdd_int, eb, rng2 (a := (r.base : Int)) (b := ((r.base + r.size : Nat) : Int)) S' (by omega) (by omega) (by omega) (by omega), eb2, wipe1]
    refine wp_lcRng (fun k acc2 S'' => acc2 = (((List.range k).map fun j => f.get (r.base + j)).map nD) ∧ S''[S'.length]? = some (.lst acc2) ∧ Kp [] S' S'') ?_ ?_ ?_
    · exact ⟨rfl, by simp, Kp.new⟩
    · rintro k acc2 S'' hk ⟨rfl, hq2, hK2⟩
      refine ⟨_, rfl, ?_⟩
      have hm2 := (hm.kp hK (by simp)).kp hK2 (by simp)
      obtain ⟨w, hw⟩ := Option.isSome_iff_exists.mp (hd (r.base + k) (by omega))
      have ea : (r.base : Int) + (k : Int) = ((r.base + k : Nat) : Int) := by omega
      simp_arith [Ly.v_fld, Ly.v_meth, Ly.k_me2, Ly.v_make, Ly.k_mk, Ly.v_fldset, Ly.k_fs, Ly.v_fldaug, Ly.k_fa2, Ly.look1, List.mem_cons, List.not_mem_nil, or_false, true_or, or_true, ea, hm2.ix hw]
      refine ⟨hq2, by simp only [List.length_map, List.length_range]; exact Nat.lt_of_le_of_lt (show k ≤ 5000000 by omega) (by decide), ?_, get_put hq2, hK2.setNew (Nat.le_refl _)⟩
      simp [List.range_succ, Mem.get, hw]
    · rintro acc2 S'' ⟨rfl, hq2, hK2⟩
      simp_arith [Ly.v_fld, Ly.v_meth, Ly.k_me2, Ly.v_make, Ly.k_mk, Ly.v_fldset, Ly.k_fs, Ly.v_fldaug, Ly.k_fa2, Ly.look1, List.mem_cons, List.not_mem_nil, or_false, true_or, or_true, bTuple_lst hq2]
      have hq3 := hK2.get hq (by simp)
      exact ⟨hq3, by simp only [List.length_map]; have : pre.length ≤ regs.length := by rw [hsp]; simp
                     exact line_big (by omega), by simp [rgWords], get_put hq3, (hK.trans hK2).setNew (Nat.le_refl _)⟩
  · rintro acc S' ⟨rfl, hq, hK⟩
    simp_arith [Ly.v_fld, Ly.v_meth, Ly.k_me2, Ly.v_make, Ly.k_mk, Ly.v_fldset, Ly.k_fs, Ly.v_fldaug, Ly.k_fa2, Ly.look1, List.mem_cons, List.not_mem_nil, or_false, true_or, or_true, bTuple_lst hq]
    exact ⟨rfl, hK⟩
end
theorem mx4 {xs : List D} {d e f g h : D} {S : Hs} : oIx (.tup (d :: e :: f :: g :: h :: xs)) (.int 4) S = .ok h S := by
  have : (4 : Int) < ((d :: e :: f :: g :: h :: xs).length : Int) := by simp only [List.length_cons]; omega
  simp only [oIx, L2.atI, L2.ixN]; rw [if_pos (by decide), if_pos this]; rfl
/-! the registers, as a list -/
theorem held_ix {S : Hs} {q : Nat} {s : PS} {many a : Nat} (h : S[q]? = some (.lst (s.held.map nD))) (ok : PSOk many s) (ha : a < 16) : oIx (.ref q) (nD a) S = .ok (nD (s.h a)) S := by
  have hl : a < s.held.length := by rw [ok.len]; exact ha
  exact oIx_lst h (by omega) (by simpa using hl) (by simp [List.getElem?_eq_getElem hl, PS.h, List.getD])
theorem held_set {S : Hs} {q : Nat} {s : PS} {many d w : Nat} (h : S[q]? = some (.lst (s.held.map nD))) (ok : PSOk many s) (ha : d < 16) : oSet (.ref q) (nD d) (nD w) S = .ok () (S.set q (.lst ((s.held.set d w).map nD))) := by
  have e1 : ixN (s.held.map nD).length (d : Int) = some d := by
    unfold ixN
    rw [if_pos (by omega), if_pos (by rw [List.length_map, ok.len]; omega)]; rfl
  simp only [oSet, h, e1, List.map_set]
section
variable {S : Hs} {q many : Nat} {s : PS} {r : MRow} {fA : Nat → Addr}
def MRow.isMem : MRow → Bool
  | .load _ _ _ _ => true
  | .store _ _ _ _ => true
  | _ => false
theorem address_ok (h : S[q]? = some (.lst (s.held.map nD))) (ok : PSOk many s) (hr : r.ok many) (hm : r.isMem = true) : Wp NoX (m_address_ofM [r.D, .ref q] S) fun v S' => v = nD (r.addr s.h) ∧ S' = S := by
  refine wp_def0 rfl ?_
  unfold b_address_ofM
  cases r with
  | load d a base mask =>
    have ea : (base : Int) + ((s.h a &&& mask : Nat) : Int) = ((base + (s.h a &&& mask) : Nat) : Int) := by omega
    simp_arith [Ly.v_fld, Ly.v_meth, Ly.k_me2, Ly.v_make, Ly.k_mk, Ly.v_fldset, Ly.k_fs, Ly.v_fldaug, Ly.k_fa2, Ly.look1, List.mem_cons, List.not_mem_nil, or_false, true_or, or_true, MRow.D, tix0, tix2, tix3, mx4, oEq_str, held_ix h ok hr.2.1, oAnd_int, PySem.W.os_band, oAdd_int, ea]
    rfl
  | store a base mask v =>
    have ea : (base : Int) + ((s.h a &&& mask : Nat) : Int) = ((base + (s.h a &&& mask) : Nat) : Int) := by omega
    simp_arith [Ly.v_fld, Ly.v_meth, Ly.k_me2, Ly.v_make, Ly.k_mk, Ly.v_fldset, Ly.k_fs, Ly.v_fldaug, Ly.k_fa2, Ly.look1, List.mem_cons, List.not_mem_nil, or_false, true_or, or_true, MRow.D, tix0, tix1, tix2, tix3, oEq_str, ofString_inj, String.reduceEq, held_ix h ok hr.1, oAnd_int, PySem.W.os_band, oAdd_int, ea]
    rfl
  | _ => cases hm
def MRow.isWord : MRow → Bool
  | .const _ _ => true
  | .op _ _ _ _ => true
  | .select _ _ _ _ => true
  | _ => false
def MRow.wr : MRow → Nat
  | .const d _ => d
  | .op _ d _ _ => d
  | .select d _ _ _ => d
  | .load d _ _ _ => d
  | _ => 0
theorem word_ok (hA : ActOk fA) (h : S[q]? = some (.lst (s.held.map nD))) (ok : PSOk many s) (hr : r.ok many) (hm : r.isWord = true) : Wp NoX (m_word_ofM fA [r.D, .ref q] S) fun v S' => v = nD (r.word s.h) ∧ S' = S := by
  refine wp_def0 rfl ?_
  unfold b_word_ofM
  cases r with
  | const d n =>
    simp_arith [Ly.v_fld, Ly.v_meth, Ly.k_me2, Ly.v_make, Ly.k_mk, Ly.v_fldset, Ly.k_fs, Ly.v_fldaug, Ly.k_fa2, Ly.look1, List.mem_cons, List.not_mem_nil, or_false, true_or, or_true, MRow.D, tix0, tix2, oEq_str, ofString_inj, String.reduceEq]
    rfl
  | op z d a b =>
    obtain ⟨h1, h2, h3, h4⟩ := hr
    simp_arith [Ly.v_fld, Ly.v_meth, Ly.k_me2, Ly.v_make, Ly.k_mk, Ly.v_fldset, Ly.k_fs, Ly.v_fldaug, Ly.k_fa2, Ly.look1, List.mem_cons, List.not_mem_nil, or_false, true_or, or_true, MRow.D, tix0, tix1, tix3, mx4, oEq_str, held_ix h ok h3, held_ix h ok h4]
    refine Wp.call (applyF_ok hA h1 (ok.h_lt a) (ok.h_lt b)) ?_
    rintro _ S ⟨rfl, rfl⟩
    simp_arith [Ly.v_fld, Ly.v_meth, Ly.k_me2, Ly.v_make, Ly.k_mk, Ly.v_fldset, Ly.k_fs, Ly.v_fldaug, Ly.k_fa2, Ly.look1, List.mem_cons, List.not_mem_nil, or_false, true_or, or_true]
    rfl
  | select d c a b =>
    obtain ⟨h1, h2, h3, h4⟩ := hr
    by_cases hc : s.h c = 0
    · have hci : ((s.h c : Nat) : Int) = 0 := by omega
      simp_arith [Ly.v_fld, Ly.v_meth, Ly.k_me2, Ly.v_make, Ly.k_mk, Ly.v_fldset, Ly.k_fs, Ly.v_fldaug, Ly.k_fa2, Ly.look1, List.mem_cons, List.not_mem_nil, or_false, true_or, or_true, MRow.D, tix0, tix2, tix3, mx4, oEq_str, ofString_inj, String.reduceEq, held_ix h ok h2, oNe_int, hci, held_ix h ok h4]
      simp [MRow.word, hc]
    · have hci : ¬ ((s.h c : Nat) : Int) = 0 := by omega
      simp_arith [Ly.v_fld, Ly.v_meth, Ly.k_me2, Ly.v_make, Ly.k_mk, Ly.v_fldset, Ly.k_fs, Ly.v_fldaug, Ly.k_fa2, Ly.look1, List.mem_cons, List.not_mem_nil, or_false, true_or, or_true, MRow.D, tix0, tix2, tix3, mx4, oEq_str, ofString_inj, String.reduceEq, held_ix h ok h2, oNe_int, hci, held_ix h ok h3]
      simp [MRow.word, hc]
  | _ => cases hm
theorem writes_ok (hm : r.isWord = true) : Wp NoX (m_writesM [r.D] S) fun v S' => v = nD r.wr ∧ S' = S := by
  refine wp_def0 rfl ?_
  unfold b_writesM
  cases r with
  | const d n =>
    have e2 : oSl (.tup [.str "const", nD d, nD n]) (some 1) none S = .ok (.tup [nD d, nD n]) S := by simp only [oSl, cut1]
    have ek : d_CODE_FORMSM.lookup ("const" : Str) = some (D.wt [(.str "write"), (.str "word")]) := by simp [d_CODE_FORMSM, List.lookup, beq_lit]
    have ez : oZip [.tup [nD d, nD n], .wt [(.str "write"), (.str "word")]] S = .ok (.zip (.t [nD d, nD n]) (.t [(.str "write"), (.str "word")])) S := by simp [oZip, sqOf]
    simp_arith [Ly.v_fld, Ly.v_meth, Ly.k_me2, Ly.v_make, Ly.k_mk, Ly.v_fldset, Ly.k_fs, Ly.v_fldaug, Ly.k_fa2, Ly.look1, List.mem_cons, List.not_mem_nil, or_false, true_or, or_true, MRow.D, e2, tix0, ek, ez]
    rw [fLoop_eq]
    simp only [itGo, Sq.at]
    simp
    simp_arith [Ly.v_fld, Ly.v_meth, Ly.k_me2, Ly.v_make, Ly.k_mk, Ly.v_fldset, Ly.k_fs, Ly.v_fldaug, Ly.k_fa2, Ly.look1, List.mem_cons, List.not_mem_nil, or_false, true_or, or_true, lb_writes_0M, v_gT, oEq_str]
    rfl
  | op z d a b =>
    have e2 : oSl (.tup [.str "op", .str z, nD d, nD a, nD b]) (some 1) none S = .ok (.tup [.str z, nD d, nD a, nD b]) S := by simp only [oSl, cut1]
    have ek : d_CODE_FORMSM.lookup ("op" : Str) = some (D.wt [(.str "sign"), (.str "write"), (.str "read"), (.str "read")]) := by simp [d_CODE_FORMSM, List.lookup, beq_lit]
    have ez : oZip [.tup [.str z, nD d, nD a, nD b], .wt [(.str "sign"), (.str "write"), (.str "read"), (.str "read")]] S = .ok (.zip (.t [.str z, nD d, nD a, nD b]) (.t [(.str "sign"), (.str "write"), (.str "read"), (.str "read")])) S := by simp [oZip, sqOf]
    simp_arith [Ly.v_fld, Ly.v_meth, Ly.k_me2, Ly.v_make, Ly.k_mk, Ly.v_fldset, Ly.k_fs, Ly.v_fldaug, Ly.k_fa2, Ly.look1, List.mem_cons, List.not_mem_nil, or_false, true_or, or_true, MRow.D, e2, tix0, ek, ez]
    rw [fLoop_eq]
    simp only [itGo, Sq.at]
    simp
    simp_arith [Ly.v_fld, Ly.v_meth, Ly.k_me2, Ly.v_make, Ly.k_mk, Ly.v_fldset, Ly.k_fs, Ly.v_fldaug, Ly.k_fa2, Ly.look1, List.mem_cons, List.not_mem_nil, or_false, true_or, or_true, lb_writes_0M, v_gT, oEq_str, ofString_inj, String.reduceEq]
    rw [fLoop_eq]
    simp only [itGo, Sq.at]
    simp
    simp_arith [Ly.v_fld, Ly.v_meth, Ly.k_me2, Ly.v_make, Ly.k_mk, Ly.v_fldset, Ly.k_fs, Ly.v_fldaug, Ly.k_fa2, Ly.look1, List.mem_cons, List.not_mem_nil, or_false, true_or, or_true, lb_writes_0M, v_gT, oEq_str]
    rfl
  | select d c a b =>
    have e2 : oSl (.tup [.str "select", nD d, nD c, nD a, nD b]) (some 1) none S = .ok (.tup [nD d, nD c, nD a, nD b]) S := by simp only [oSl, cut1]
    have ek : d_CODE_FORMSM.lookup ("select" : Str) = some (D.wt [(.str "write"), (.str "read"), (.str "read"), (.str "read")]) := by simp [d_CODE_FORMSM, List.lookup, beq_lit]
    have ez : oZip [.tup [nD d, nD c, nD a, nD b], .wt [(.str "write"), (.str "read"), (.str "read"), (.str "read")]] S = .ok (.zip (.t [nD d, nD c, nD a, nD b]) (.t [(.str "write"), (.str "read"), (.str "read"), (.str "read")])) S := by simp [oZip, sqOf]
    simp_arith [Ly.v_fld, Ly.v_meth, Ly.k_me2, Ly.v_make, Ly.k_mk, Ly.v_fldset, Ly.k_fs, Ly.v_fldaug, Ly.k_fa2, Ly.look1, List.mem_cons, List.not_mem_nil, or_false, true_or, or_true, MRow.D, e2, tix0, ek, ez]
    rw [fLoop_eq]
    simp only [itGo, Sq.at]
    simp
    simp_arith [Ly.v_fld, Ly.v_meth, Ly.k_me2, Ly.v_make, Ly.k_mk, Ly.v_fldset, Ly.k_fs, Ly.v_fldaug, Ly.k_fa2, Ly.look1, List.mem_cons, List.not_mem_nil, or_false, true_or, or_true, lb_writes_0M, v_gT, oEq_str]
    rfl
  | _ => cases hm
end
theorem k_g23m {S : Hs} {q N a : Nat} {f : Mem} {Q : D → Hs → Prop} (h : MemAt S q f N) : g2K3 (.ref q) (nD a) Q (.int 0) S = Q (nD (f.get a)) S := by
  rw [k_g23, h.dget a]
  unfold Mem.get
  cases f a <;> rfl
theorem mrep_ok {S : Hs} {q n : Nat} {d : D} (h : S[q]? = some (.lst [d])) (hn : n ≤ 100000) : oMul (.ref q) (nD n) S = .ok (.ref S.length) (S ++ [.lst (List.replicate n d)]) := by
  have h1 : -(2 ^ 63) ≤ (n : Int) ∧ (n : Int) < 2 ^ 63 ∧ [d].length * (n : Int).toNat ≤ sizeLine := by
    refine ⟨by omega, by omega, ?_⟩
    simp only [List.length_cons, List.length_nil, Int.toNat_natCast]
    exact Nat.le_of_lt (line_big (by omega))
  simp only [oMul, h]
  rw [if_pos h1]
  simp [List.flatten_replicate_singleton]
def ps0 (cs : List (List Nat)) : PS := ⟨List.replicate 16 0, mem0 cs, [], 0⟩
theorem ps0_ok {cs : List (List Nat)} {regs : List Rg} (hc : ContOk regs cs) {many : Nat} (hm : 0 < many) : PSOk many (ps0 cs) := by
  refine ⟨rfl, fun w hw => ?_, fun a v e => ?_, hm⟩
  · have := List.eq_of_mem_replicate hw; omega
  · obtain ⟨c, hc1, hc2⟩ := List.mem_flatten.mp (List.mem_of_getElem? e)
    exact hc.lt c hc1 v hc2
theorem ContOk.flat {cs : List (List Nat)} {regs : List Rg} (hc : ContOk regs cs) : cs.flatten.length = sizes regs := by
  rw [List.length_flatten, hc.len]; rfl
theorem ContOk.dom {cs : List (List Nat)} {regs : List Rg} (hc : ContOk regs cs) : ∀ a, a < sizes regs → (mem0 cs a).isSome = true := fun a ha => by
  unfold mem0; rw [List.getElem?_eq_getElem (by rw [hc.flat]; exact ha)]; rfl
def resD (o : Option Nat) : D := match o with
  | some v => nD v
  | none => .non
def plainD (regs : List Rg) (rows : List MRow) (cs : List (List Nat)) (n : Nat) : D :=
  .tup [.tup ((plainN rows n (ps0 cs)).2.outs.map nD), resD (plainN rows n (ps0 cs)).1, endsD (plainN rows n (ps0 cs)).2.mem regs]
/-- a run's state in the store: memory, registers, outs -/
structure Run (many : Nat) (regs : List Rg) (qm qh qo N k : Nat) (s : PS) (S : Hs) : Prop where
  ok : PSOk many s
  mem : MemAt S qm s.mem (N + k)
  held : S[qh]? = some (.lst (s.held.map nD))
  outs : S[qo]? = some (.lst (s.outs.map nD))
  short : s.outs.length ≤ k
  dom : ∀ a, a < sizes regs → (s.mem a).isSome = true
section
variable {S S' : Hs} {many qm qh qo N k : Nat} {s : PS} {r : MRow} {fA : Nat → Addr} {regs : List Rg} {rows : List MRow} {cs : List (List Nat)}
theorem Run.kp {B : List Nat} (h : Run many regs qm qh qo N k s S) (hk : Kp B S S') (b1 : qm ∉ B) (b2 : qh ∉ B) (b3 : qo ∉ B) : Run many regs qm qh qo N k s S' :=
  ⟨h.ok, h.mem.kp hk b1, hk.get h.held b2, hk.get h.outs b3, h.short, h.dom⟩
theorem MemAt.more {f : Mem} {M : Nat} (h : MemAt S qm f N) (hn : N ≤ M) : MemAt S qm f M := by
  obtain ⟨kvs, h1, h2, h3⟩ := h.ex; exact ⟨kvs, h1, by omega, h3⟩
theorem MemAt.set {f : Mem} {o : O} (h : MemAt S qm f N) (hn : qm ≠ qh) : MemAt (S.set qh o) qm f N :=
  h.kp (B := [qh]) (Kp.set (by simp)) (by simpa using hn)
theorem get_set_ne {o o' : O} {i j : Nat} (h : S[i]? = some o) (hn : i ≠ j) : (S.set j o')[i]? = some o := by
  rw [List.getElem?_set_ne (fun e => hn e.symm)]; exact h
/-- a register is set -/
theorem Run.reg (h : Run many regs qm qh qo N k s S) (hd1 : qm ≠ qh) (hd2 : qo ≠ qh) {d w pc : Nat} (hw : w < 4294967296) (hp : pc < many) :
    Run many regs qm qh qo N (k + 1) { s with held := s.held.set d w, pc := pc } (S.set qh (.lst ((s.held.set d w).map nD))) :=
  ⟨h.ok.set hw hp, (h.mem.more (by omega)).set hd1, get_put h.held, get_set_ne h.outs hd2, by have := h.short; show s.outs.length ≤ k + 1; omega, h.dom⟩
theorem Run.pc (h : Run many regs qm qh qo N k s S) {pc : Nat} (hp : pc < many) : Run many regs qm qh qo N (k + 1) { s with pc := pc } S :=
  ⟨⟨h.ok.len, h.ok.lt, h.ok.mlt, hp⟩, h.mem.more (by omega), h.held, h.outs, by have := h.short; show s.outs.length ≤ k + 1; omega, h.dom⟩
theorem Run.out (h : Run many regs qm qh qo N k s S) (hd1 : qm ≠ qo) (hd2 : qh ≠ qo) {w pc : Nat} (hp : pc < many) :
    Run many regs qm qh qo N (k + 1) { s with outs := s.outs ++ [w], pc := pc } (S.set qo (.lst (s.outs.map nD ++ [nD w]))) :=
  ⟨⟨h.ok.len, h.ok.lt, h.ok.mlt, hp⟩, (h.mem.more (by omega)).set hd1, get_set_ne h.held hd2, by rw [get_put h.outs]; simp, by have := h.short; simp; omega, h.dom⟩
theorem Run.put (h : Run many regs qm qh qo N k s S) (hN : N + k ≤ 10000000) (hd1 : qh ≠ qm) (hd2 : qo ≠ qm) {a w pc : Nat} (hw : w < 4294967296) (hp : pc < many) :
    ∃ o, oSet (.ref qm) (nD a) (nD w) S = .ok () (S.set qm o) ∧ Run many regs qm qh qo N (k + 1) { s with mem := s.mem.put a w, pc := pc } (S.set qm o) := by
  obtain ⟨o, h1, h2⟩ := h.mem.put hN a w
  refine ⟨o, h1, ⟨⟨h.ok.len, h.ok.lt, fun x y e => ?_, hp⟩, h2.more (by omega), get_set_ne h.held hd1, get_set_ne h.outs hd2, by have := h.short; show s.outs.length ≤ k + 1; omega, fun x hx => ?_⟩⟩
  · simp only [Mem.put] at e
    split at e
    · cases e; exact hw
    · exact h.ok.mlt x y e
  · show (s.mem.put a w x).isSome = true
    unfold Mem.put
    split
    · rfl
    · exact h.dom x hx
def plainL (regs : List Rg) (rows : List MRow) (cs : List (List Nat)) (n qm qh qo : Nat) (res : D) (pc : Nat) (o1 o2 o3 : Option D) : Ls :=
  [some (codeD regs rows), some (contD cs), some (nD n), some (.tup (regs.map Rg.D)), some (.tup (rows.map MRow.D)), some (.ref qm), some (.ref qh), some (.ref qo), some res, some (nD pc), o1, o2, o3]
theorem plain_step (hA : ActOk fA) (c : CodeOk regs rows) {n x : Nat} {S0 : Hs} (h : Run rows.length regs qm qh qo N k s S) (hK : Kp [] S0 S) (b1 : S0.length ≤ qm) (b2 : S0.length ≤ qh) (b3 : S0.length ≤ qo) (d1 : qm ≠ qh) (d2 : qm ≠ qo) (d3 : qh ≠ qo) (hN : N + k ≤ 10000000) (hk : k ≤ 100000) {o2 o3 : Option D} :
    Wp NoX (lb_plain_run_0M fA (plainL regs rows cs n qm qh qo .non s.pc (some (nD x)) o2 o3) S) fun r S' => Kp [] S0 S' ∧ match (rows.getD s.pc (.stop 0)).stops with
      | some a => (∃ p1 p2 p3 pc, r = .bk (plainL regs rows cs n qm qh qo (nD (s.h a)) pc p1 p2 p3)) ∧ Run rows.length regs qm qh qo N k s S'
      | none => (∃ p1 p2 p3, r = .nx (plainL regs rows cs n qm qh qo .non (s.exec (rows.getD s.pc (.stop 0))).pc p1 p2 p3)) ∧ Run rows.length regs qm qh qo N (k + 1) (s.exec (rows.getD s.pc (.stop 0))) S' := by
  obtain ⟨e1, e2, e3⟩ := c.row h.ok.pc
  have ex : oIx (.tup (rows.map MRow.D)) (nD s.pc) S = .ok (rows.getD s.pc (.stop 0)).D S := oIx_tup (by rw [List.getElem?_map, e1]; rfl)
  generalize rows.getD s.pc (.stop 0) = r at *
  unfold lb_plain_run_0M plainL
  have ei : ((s.pc : Nat) : Int) + 1 = ((s.pc + 1 : Nat) : Int) := by omega
  have hkS : ∀ {q : Nat} {o : O}, S0.length ≤ q → Kp [] S0 (S.set q o) := fun hq => hK.setNew hq
  simp_arith [Ly.v_fld, Ly.v_meth, Ly.k_me2, Ly.v_make, Ly.k_mk, Ly.v_fldset, Ly.k_fs, Ly.v_fldaug, Ly.k_fa2, Ly.look1, List.mem_cons, List.not_mem_nil, or_false, true_or, or_true, ex, -v_ifS]
  cases r with
  | jump t =>
    simp_arith [Ly.v_fld, Ly.v_meth, Ly.k_me2, Ly.v_make, Ly.k_mk, Ly.v_fldset, Ly.k_fs, Ly.v_fldaug, Ly.k_fa2, Ly.look1, List.mem_cons, List.not_mem_nil, or_false, true_or, or_true, MRow.D, tix0, tix1, oIAdd, ei, oEq_str, ofString_inj, String.reduceEq]
    exact ⟨hK, ⟨_, _, _, rfl⟩, h.pc e2⟩
  | branch a t =>
    obtain ⟨r1, r2⟩ := e2
    by_cases hc : s.h a = 0
    · have hci : ((s.h a : Nat) : Int) = 0 := by omega
      have ee : s.exec (.branch a t) = { s with pc := s.pc + 1 } := by simp [PS.exec, hc]
      simp_arith [Ly.v_fld, Ly.v_meth, Ly.k_me2, Ly.v_make, Ly.k_mk, Ly.v_fldset, Ly.k_fs, Ly.v_fldaug, Ly.k_fa2, Ly.look1, List.mem_cons, List.not_mem_nil, or_false, true_or, or_true, MRow.D, tix0, tix1, tix2, oIAdd, ei, oEq_str, ofString_inj, String.reduceEq, held_ix h.held h.ok r1, oNe_int, hci]
      rw [ee]
      exact ⟨hK, ⟨_, _, _, rfl⟩, h.pc (e3 rfl)⟩
    · have hci : ¬ ((s.h a : Nat) : Int) = 0 := by omega
      have ee : s.exec (.branch a t) = { s with pc := t } := by simp [PS.exec, hc]
      simp_arith [Ly.v_fld, Ly.v_meth, Ly.k_me2, Ly.v_make, Ly.k_mk, Ly.v_fldset, Ly.k_fs, Ly.v_fldaug, Ly.k_fa2, Ly.look1, List.mem_cons, List.not_mem_nil, or_false, true_or, or_true, MRow.D, tix0, tix1, tix2, oIAdd, ei, oEq_str, ofString_inj, String.reduceEq, held_ix h.held h.ok r1, oNe_int, hci]
      rw [ee]
      exact ⟨hK, ⟨_, _, _, rfl⟩, h.pc r2⟩
  | load d a base mask =>
    have had := address_ok (r := .load d a base mask) h.held h.ok e2 rfl
    simp_arith [Ly.v_fld, Ly.v_meth, Ly.k_me2, Ly.v_make, Ly.k_mk, Ly.v_fldset, Ly.k_fs, Ly.v_fldaug, Ly.k_fa2, Ly.look1, List.mem_cons, List.not_mem_nil, or_false, true_or, or_true, tix0, tix1, oIAdd, ei, oEq_str, ofString_inj, String.reduceEq, show (MRow.load d a base mask).D = .tup [.str "load", nD d, nD a, nD base, nD mask] from rfl, h.mem.ty]
    refine Wp.call had ?_
    rintro _ S ⟨rfl, rfl⟩
    simp_arith [Ly.v_fld, Ly.v_meth, Ly.k_me2, Ly.v_make, Ly.k_mk, Ly.v_fldset, Ly.k_fs, Ly.v_fldaug, Ly.k_fa2, Ly.look1, List.mem_cons, List.not_mem_nil, or_false, true_or, or_true, k_g23m h.mem, -k_g23, tix1, held_set h.held h.ok e2.1]
    exact ⟨hkS b2, ⟨_, _, _, rfl⟩, h.reg d1 d3.symm (h.ok.get_lt _) (e3 rfl)⟩
  | store a base mask v =>
    have had := address_ok (r := .store a base mask v) h.held h.ok e2 rfl
    obtain ⟨o, ho1, ho2⟩ := h.put hN d1.symm d2.symm (a := (MRow.store a base mask v).addr s.h) (h.ok.h_lt v) (e3 rfl)
    simp_arith [Ly.v_fld, Ly.v_meth, Ly.k_me2, Ly.v_make, Ly.k_mk, Ly.v_fldset, Ly.k_fs, Ly.v_fldaug, Ly.k_fa2, Ly.look1, List.mem_cons, List.not_mem_nil, or_false, true_or, or_true, tix0, mx4, oIAdd, ei, oEq_str, ofString_inj, String.reduceEq, show (MRow.store a base mask v).D = .tup [.str "store", nD a, nD base, nD mask, nD v] from rfl, held_ix h.held h.ok e2.2.2.2]
    refine Wp.call had ?_
    rintro _ S ⟨rfl, rfl⟩
    simp_arith [Ly.v_fld, Ly.v_meth, Ly.k_me2, Ly.v_make, Ly.k_mk, Ly.v_fldset, Ly.k_fs, Ly.v_fldaug, Ly.k_fa2, Ly.look1, List.mem_cons, List.not_mem_nil, or_false, true_or, or_true, ho1]
    exact ⟨hkS b1, ⟨_, _, _, rfl⟩, ho2⟩
  | out a =>
    simp_arith [Ly.v_fld, Ly.v_meth, Ly.k_me2, Ly.v_make, Ly.k_mk, Ly.v_fldset, Ly.k_fs, Ly.v_fldaug, Ly.k_fa2, Ly.look1, List.mem_cons, List.not_mem_nil, or_false, true_or, or_true, MRow.D, tix0, tix1, oIAdd, ei, oEq_str, ofString_inj, String.reduceEq, hasTy_lst h.outs, held_ix h.held h.ok e2, oAppend_lst h.outs (by simp only [List.length_map]; have := h.short; exact line_big (by omega))]
    exact ⟨hkS b3, ⟨_, _, _, rfl⟩, h.out d2 d3 (e3 rfl)⟩
  | stop a =>
    simp_arith [Ly.v_fld, Ly.v_meth, Ly.k_me2, Ly.v_make, Ly.k_mk, Ly.v_fldset, Ly.k_fs, Ly.v_fldaug, Ly.k_fa2, Ly.look1, List.mem_cons, List.not_mem_nil, or_false, true_or, or_true, MRow.D, tix0, tix1, oIAdd, ei, oEq_str, ofString_inj, String.reduceEq, held_ix h.held h.ok e2]
    exact ⟨hK, ⟨_, _, _, _, rfl⟩, h⟩
  | const d m =>
    have hw := word_ok (fA := fA) (r := .const d m) hA h.held h.ok e2 rfl
    simp_arith [Ly.v_fld, Ly.v_meth, Ly.k_me2, Ly.v_make, Ly.k_mk, Ly.v_fldset, Ly.k_fs, Ly.v_fldaug, Ly.k_fa2, Ly.look1, List.mem_cons, List.not_mem_nil, or_false, true_or, or_true, tix0, oIAdd, ei, oEq_str, ofString_inj, String.reduceEq, show (MRow.const d m).D = .tup [.str "const", nD d, nD m] from rfl]
    refine Wp.call hw ?_
    rintro _ S ⟨rfl, rfl⟩
    simp_arith [Ly.v_fld, Ly.v_meth, Ly.k_me2, Ly.v_make, Ly.k_mk, Ly.v_fldset, Ly.k_fs, Ly.v_fldaug, Ly.k_fa2, Ly.look1, List.mem_cons, List.not_mem_nil, or_false, true_or, or_true]
    refine Wp.call (writes_ok (r := .const d m) rfl) ?_
    rintro _ S ⟨rfl, rfl⟩
    simp_arith [Ly.v_fld, Ly.v_meth, Ly.k_me2, Ly.v_make, Ly.k_mk, Ly.v_fldset, Ly.k_fs, Ly.v_fldaug, Ly.k_fa2, Ly.look1, List.mem_cons, List.not_mem_nil, or_false, true_or, or_true, MRow.wr, held_set h.held h.ok e2.1]
    exact ⟨hkS b2, ⟨_, _, _, rfl⟩, h.reg d1 d3.symm (h.ok.word_lt e2) (e3 rfl)⟩
  | op z d a b =>
    have hw := word_ok (fA := fA) (r := .op z d a b) hA h.held h.ok e2 rfl
    simp_arith [Ly.v_fld, Ly.v_meth, Ly.k_me2, Ly.v_make, Ly.k_mk, Ly.v_fldset, Ly.k_fs, Ly.v_fldaug, Ly.k_fa2, Ly.look1, List.mem_cons, List.not_mem_nil, or_false, true_or, or_true, tix0, oIAdd, ei, oEq_str, ofString_inj, String.reduceEq, show (MRow.op z d a b).D = .tup [.str "op", .str z, nD d, nD a, nD b] from rfl]
    refine Wp.call hw ?_
    rintro _ S ⟨rfl, rfl⟩
    simp_arith [Ly.v_fld, Ly.v_meth, Ly.k_me2, Ly.v_make, Ly.k_mk, Ly.v_fldset, Ly.k_fs, Ly.v_fldaug, Ly.k_fa2, Ly.look1, List.mem_cons, List.not_mem_nil, or_false, true_or, or_true]
    refine Wp.call (writes_ok (r := .op z d a b) rfl) ?_
    rintro _ S ⟨rfl, rfl⟩
    simp_arith [Ly.v_fld, Ly.v_meth, Ly.k_me2, Ly.v_make, Ly.k_mk, Ly.v_fldset, Ly.k_fs, Ly.v_fldaug, Ly.k_fa2, Ly.look1, List.mem_cons, List.not_mem_nil, or_false, true_or, or_true, MRow.wr, held_set h.held h.ok e2.2.1]
    exact ⟨hkS b2, ⟨_, _, _, rfl⟩, h.reg d1 d3.symm (h.ok.word_lt e2) (e3 rfl)⟩
  | select d cc a b =>
    have hw := word_ok (fA := fA) (r := .select d cc a b) hA h.held h.ok e2 rfl
    simp_arith [Ly.v_fld, Ly.v_meth, Ly.k_me2, Ly.v_make, Ly.k_mk, Ly.v_fldset, Ly.k_fs, Ly.v_fldaug, Ly.k_fa2, Ly.look1, List.mem_cons, List.not_mem_nil, or_false, true_or, or_true, tix0, oIAdd, ei, oEq_str, ofString_inj, String.reduceEq, show (MRow.select d cc a b).D = .tup [.str "select", nD d, nD cc, nD a, nD b] from rfl]
    refine Wp.call hw ?_
    rintro _ S ⟨rfl, rfl⟩
    simp_arith [Ly.v_fld, Ly.v_meth, Ly.k_me2, Ly.v_make, Ly.k_mk, Ly.v_fldset, Ly.k_fs, Ly.v_fldaug, Ly.k_fa2, Ly.look1, List.mem_cons, List.not_mem_nil, or_false, true_or, or_true]
    refine Wp.call (writes_ok (r := .select d cc a b) rfl) ?_
    rintro _ S ⟨rfl, rfl⟩
    simp_arith [Ly.v_fld, Ly.v_meth, Ly.k_me2, Ly.v_make, Ly.k_mk, Ly.v_fldset, Ly.k_fs, Ly.v_fldaug, Ly.k_fa2, Ly.look1, List.mem_cons, List.not_mem_nil, or_false, true_or, or_true, MRow.wr, held_set h.held h.ok e2.1]
    exact ⟨hkS b2, ⟨_, _, _, rfl⟩, h.reg d1 d3.symm (h.ok.word_lt e2) (e3 rfl)⟩
theorem plainN_ok (hA : ActOk fA) (c : CodeOk regs rows) {n : Nat} (hn : n ≤ 100000) {s0 : PS} (h : Run rows.length regs qm qh qo N 0 s0 S) {S0 : Hs} (hK : Kp [] S0 S) (b1 : S0.length ≤ qm) (b2 : S0.length ≤ qh) (b3 : S0.length ≤ qo) (d1 : qm ≠ qh) (d2 : qm ≠ qo) (d3 : qh ≠ qo) (hN : N ≤ 9000000) (hp : s0.pc = 0)
    {Q : F → Hs → Prop} (hQ : ∀ l S', Kp [] S0 S' → (∃ pc o1 o2 o3, l = plainL regs rows cs n qm qh qo (resD (plainN rows n s0).1) pc o1 o2 o3) → Run rows.length regs qm qh qo N n (plainN rows n s0).2 S' → Q (.nx l) S') :
    Wp NoX (fLoop (.rng 0 n) (gN 10) (lb_plain_run_0M fA) 0 (plainL regs rows cs n qm qh qo .non 0 none none none) S) Q := by
  refine wp_rng (fun k l S' => ∃ s o1 o2 o3, l = plainL regs rows cs n qm qh qo .non s.pc o1 o2 o3 ∧ Kp [] S0 S' ∧ k ≤ n ∧ plainN rows n s0 = plainN rows (n - k) s ∧ Run rows.length regs qm qh qo N k s S') ⟨s0, none, none, none, by rw [hp], hK, Nat.zero_le _, by rw [Nat.sub_zero], h⟩ ?_ ?_
  · rintro k l S' hk ⟨s, o1, o2, o3, rfl, hK', -, hpl, hr⟩
    have e0 : (0 : Int) + (k : Int) = ((k : Nat) : Int) := by omega
    rw [e0]
    have := plain_step (cs := cs) hA c (n := n) (x := k) hr hK' b1 b2 b3 d1 d2 d3 (by omega) (by omega) (o2 := o2) (o3 := o3)
    unfold plainL at this ⊢
    simp_arith [Ly.v_fld, Ly.v_meth, Ly.k_me2, Ly.v_make, Ly.k_mk, Ly.v_fldset, Ly.k_fs, Ly.v_fldaug, Ly.k_fa2, Ly.look1, List.mem_cons, List.not_mem_nil, or_false, true_or, or_true]
    refine this.mono (fun _ _ _ _ h => h.elim) ?_
    obtain ⟨m, hm⟩ : ∃ m, n - k = m + 1 := ⟨n - k - 1, by omega⟩
    rw [hm, plainN] at hpl
    rintro r S2 ⟨hK2, hcase⟩
    cases hst : (rows.getD s.pc (.stop 0)).stops with
    | some a =>
      simp only [hst] at hcase hpl
      obtain ⟨⟨p1, p2, p3, pc, rfl⟩, hr2⟩ := hcase
      rw [k_tu_bk]
      refine hQ _ _ hK2 ⟨pc, p1, p2, p3, by rw [hpl]; rfl⟩ ?_
      rw [hpl]
      exact ⟨hr2.ok, hr2.mem.more (by omega), hr2.held, hr2.outs, by have := hr2.short; show s.outs.length ≤ n; omega, hr2.dom⟩
    | none =>
      simp only [hst] at hcase hpl
      obtain ⟨⟨p1, p2, p3, rfl⟩, hr2⟩ := hcase
      rw [k_tu_nx]
      exact ⟨_, _, _, _, rfl, hK2, by omega, by rw [hpl]; congr 1; omega, hr2⟩
  · rintro l S' ⟨s, o1, o2, o3, rfl, hK', -, hpl, hr⟩
    rw [Nat.sub_self, plainN] at hpl
    refine hQ _ _ hK' ⟨s.pc, o1, o2, o3, by rw [hpl]; rfl⟩ ?_
    rw [hpl]; exact hr
theorem plain_run_ok (hA : ActOk fA) (c : CodeOk regs rows) (hc : ContOk regs cs) (hl : regs.length ≤ 100000) {n : Nat} (hn : n ≤ 100000) : Wp NoX (m_plain_runM fA [codeD regs rows, contD cs, nD n] S) fun v S' => v = plainD regs rows cs n ∧ Kp [] S S' := by
  refine wp_def0 rfl ?_
  unfold b_plain_runM
  have hfl : cs.flatten.length ≤ 5000000 := by rw [hc.flat]; exact c.small
  simp_arith [Ly.v_fld, Ly.v_meth, Ly.k_me2, Ly.v_make, Ly.k_mk, Ly.v_fldset, Ly.k_fs, Ly.v_fldaug, Ly.k_fa2, Ly.look1, List.mem_cons, List.not_mem_nil, or_false, true_or, or_true, codeD, v_gT, -v_for]
  refine Wp.call (memory_ok (by omega)) ?_
  rintro _ S1 ⟨qm, rfl, hm, hq, hK⟩
  have g1 : (S1 ++ [O.lst [D.int 0]])[S1.length]? = some (.lst [D.int 0]) := by simp
  have hmlt := hm.lt
  simp_arith [Ly.v_fld, Ly.v_meth, Ly.k_me2, Ly.v_make, Ly.k_mk, Ly.v_fldset, Ly.k_fs, Ly.v_fldaug, Ly.k_fa2, Ly.look1, List.mem_cons, List.not_mem_nil, or_false, true_or, or_true, d_REGISTERSM, -v_for, show oMul (.ref S1.length) (.int 16) (S1 ++ [O.lst [D.int 0]]) = _ from mrep_ok (n := 16) g1 (by omega), rng1 (n := (n : Int)) _ (by omega) (by omega), Int.toNat_natCast]
  simp_arith [Ly.v_fld, Ly.v_meth, Ly.k_me2, Ly.v_make, Ly.k_mk, Ly.v_fldset, Ly.k_fs, Ly.v_fldaug, Ly.k_fa2, Ly.look1, List.mem_cons, List.not_mem_nil, or_false, true_or, or_true, -v_for, v_for, show oRng1 [.int (n : Int)] _ = _ from rng1 _ (by omega) (by omega), Int.toNat_natCast]
  simp only [List.length_append, List.length_cons, List.length_nil, Nat.zero_add]
  have hm' : MemAt (S1 ++ [O.lst [D.int 0]] ++ [O.lst [D.int 0, D.int 0, D.int 0, D.int 0, D.int 0, D.int 0, D.int 0, D.int 0, D.int 0, D.int 0, D.int 0, D.int 0, D.int 0, D.int 0, D.int 0, D.int 0]] ++ [O.lst []]) qm (mem0 cs) cs.flatten.length := ((hm.kp (B := []) Kp.new (by simp)).kp (B := []) Kp.new (by simp)).kp (B := []) Kp.new (by simp)
  refine plainN_ok (cs := cs) (regs := regs) (rows := rows) (s0 := ps0 cs) (qm := qm) (qh := S1.length + 1) (qo := S1.length + 2) (S0 := S) (N := cs.flatten.length) hA c hn ⟨ps0_ok hc c.ne, hm', ?_, ?_, Nat.zero_le _, hc.dom⟩ ((hK.app).app.app) hq (by have := hK.le; omega) (by have := hK.le; omega) (by omega) (by omega) (by omega) (by omega) rfl ?_
  · rw [List.getElem?_append_left (by simp), List.getElem?_append_right (by simp)]; simp [ps0]
  · rw [List.getElem?_append_right (by simp)]; simp [ps0]
  · rintro l S' hK' ⟨pc, o1, o2, o3, rfl⟩ hr
    unfold plainL
    simp_arith [Ly.v_fld, Ly.v_meth, Ly.k_me2, Ly.v_make, Ly.k_mk, Ly.v_fldset, Ly.k_fs, Ly.v_fldaug, Ly.k_fa2, Ly.look1, List.mem_cons, List.not_mem_nil, or_false, true_or, or_true, bTuple_lst hr.outs]
    refine Wp.call (contents_ok hr.mem c.cg c.small hl hr.dom) ?_
    rintro _ S2 ⟨rfl, hK2⟩
    simp_arith [Ly.v_fld, Ly.v_meth, Ly.k_me2, Ly.v_make, Ly.k_mk, Ly.v_fldset, Ly.k_fs, Ly.v_fldaug, Ly.k_fa2, Ly.look1, List.mem_cons, List.not_mem_nil, or_false, true_or, or_true]
    exact ⟨rfl, hK'.trans hK2⟩
end
end Ly
set_option Elab.async false
set_option linter.all false
set_option maxRecDepth 100000
namespace Ly
open PySem PySem.Spec L2
open PyProof.Rows hiding St
local macro_rules | `(tactic| simp_arith [$ls,*]) => `(tactic| simp only [Ly.line_le, Ly.atX_no, Ly.v_ok, Ly.v_bad, Ly.v_bind, Ly.k_bd, Ly.v_at, Ly.v_bin, Ly.k_bi, Ly.k_bi2, Ly.v_var, Ly.v_c, Ly.v_un, Ly.k_un, Ly.v_if, Ly.k_ife, Ly.v_and, Ly.k_and, Ly.k_and2, Ly.v_or, Ly.k_or, Ly.k_or2, Ly.v_tup, Ly.k_tup, Ly.v_lst, Ly.k_lst, Ly.v_call, Ly.k_ca, Ly.v_fn, Ly.k_fn, Ly.v_bm, Ly.k_bm, Ly.k_bm2, Ly.v_sl, Ly.k_sl, Ly.k_sl2, Ly.k_sl3, Ly.v_ixK, Ly.k_ixk, Ly.v_inK, Ly.k_ink, Ly.v_notinK, Ly.k_nink, Ly.v_getK2, Ly.k_gk2, Ly.k_gk, Ly.v_get2, Ly.k_g2, Ly.k_g22, Ly.k_g23, Ly.v_nil, Ly.v_cons, Ly.k_co, Ly.k_co2, Ly.v_no, Ly.v_some, Ly.k_so, Ly.k_cm, Ly.v_cmp, Ly.v_tru, Ly.k_tr, Ly.v_notB, Ly.k_no, Ly.v_andB, Ly.k_an, Ly.v_orB, Ly.k_orb, Ly.v_yes, Ly.v_inKB, Ly.k_inkB, Ly.v_notinKB, Ly.k_ninkB, Ly.v_set, Ly.k_st, Ly.v_expr, Ly.k_ex, Ly.v_ret, Ly.k_re, Ly.v_retN, Ly.v_pass, Ly.v_brk, Ly.v_cnt, Ly.v_seq, Ly.k_sq_nx, Ly.k_sq_rt, Ly.k_sq_bk, Ly.k_sq_ct, Ly.v_ifS, Ly.k_ifs, Ly.v_asg, Ly.k_as, Ly.k_as2, Ly.v_aug, Ly.k_au, Ly.v_for, Ly.k_fo, Ly.v_it, Ly.k_it, Ly.k_ij, Ly.v_rng1, Ly.v_rng2, Ly.v_enum, Ly.v_zip, Ly.v_gN, Ly.v_gsN, Ly.v_gsC, Ly.k_gc, Ly.v_gT, Ly.v_gTw, Ly.v_gSb, Ly.k_gsb, Ly.k_gsb2, Ly.k_gsb3, Ly.k_en_rt, Ly.k_en_nx, Ly.k_tu_nx, Ly.k_tu_ct, Ly.k_tu_bk, Ly.k_tu_rt, Ly.v_lc, Ly.k_lc, Ly.v_augI, Ly.k_ag, Ly.k_ag2, Ly.k_ag3, Ly.k_ag4, Ly.k_ag5, Ly.v_del, Ly.k_dl, Ly.k_dl2, Ly.v_setd, Ly.v_pop2, Ly.k_d3, Ly.k_d32, Ly.k_d33, Ly.v_get1, Ly.k_g1, Ly.k_g12, Ly.v_rg1, Ly.k_rg, Ly.v_rg2, Ly.k_rg2, Ly.k_rg22, Ly.v_dicK, Ly.v_dicT, Ly.v_dc, Ly.k_dc, List.getElem?_cons_zero, List.getElem?_cons_succ, List.set_cons_zero, List.set_cons_succ, List.length_cons, List.length_nil, List.map_cons, List.map_nil, List.cons_append, List.nil_append, List.replicate, if_true, if_false, Bool.false_eq_true, Bool.not_true, Bool.not_false, Bool.true_and, Bool.false_and, decide_true, decide_false, decide_eq_true_eq, Nat.zero_add, Nat.reduceAdd, Nat.reduceLeDiff, true_and, and_true, $ls,*])
noncomputable def lb_Nregions_0 : MS := (mSeq (mSet 4 (mBin oIx (mLst (lCons (mC (.int 1)) (lCons (mC (.int 2)) (lCons (mC (.int 4)) (lCons (mC (.int 16)) (lCons (mBin oAdd (mC (.int 1)) (mFn m_nextD (lCons (mVar 0) (lCons (mC (.int 30)) lNil)))) lNil)))))) (mFn m_nextD (lCons (mVar 0) (lCons (mC (.int 5)) lNil)))))
    (mSeq (mExpr (mBM "list" oAppend (mVar 1) (lCons (mTup (lCons (mVar 2) (lCons (mVar 4) (lCons (mBin oIx (mLst (lCons (mC (.str "public")) (lCons (mC (.str "secret")) lNil))) (mFn m_nextD (lCons (mVar 0) (lCons (mC (.int 2)) lNil)))) lNil)))) lNil)))
    (mSet 2 (mBin oAdd (mVar 2) (mVar 4)))))
noncomputable def b_Nregions : MS := (mSeq (mSet 1 (mLst lNil))
    (mSeq (mSet 2 (mC (.int 0)))
    (mSeq (mFor (mRng1 (lCons (mBin oAdd (mC (.int 1)) (mFn m_nextD (lCons (mVar 0) (lCons (mC (.int 4)) lNil)))) lNil)) (gN 3) lb_Nregions_0)
    (mRet (mCall bTuple (lCons (mVar 1) lNil))))))
noncomputable def m_Nregions : MD := mDef 1 4 b_Nregions
noncomputable def b_Nregister : MS := (mRet (mFn m_nextD (lCons (mVar 0) (lCons (mBin oIx (mLst (lCons (mC (.int 3)) (lCons (mC (.int 6)) (lCons (mC (.int 16)) lNil)))) (mFn m_nextD (lCons (mVar 0) (lCons (mC (.int 3)) lNil)))) lNil))))
noncomputable def m_Nregister : MD := mDef 1 0 b_Nregister
noncomputable def b_Nop : MS := (mSeq (mSet 1 (mBin oIx (mLst (lCons (mC (.str "+")) (lCons (mC (.str "-")) (lCons (mC (.str "*")) (lCons (mC (.str "&")) (lCons (mC (.str "|")) (lCons (mC (.str "^")) (lCons (mC (.str "<<")) (lCons (mC (.str ">>")) (lCons (mC (.str "==")) (lCons (mC (.str "<")) (lCons (mC (.str "<=")) (lCons (mC (.str "div")) (lCons (mC (.str "mod")) lNil)))))))))))))) (mFn m_nextD (lCons (mVar 0) (lCons (mC (.int 13)) lNil)))))
    (mRet (mTup (lCons (mC (.str "op")) (lCons (mVar 1) (lCons (mFn m_Nregister (lCons (mVar 0) lNil)) (lCons (mFn m_Nregister (lCons (mVar 0) lNil)) (lCons (mFn m_Nregister (lCons (mVar 0) lNil)) lNil))))))))
noncomputable def m_Nop : MD := mDef 1 1 b_Nop
noncomputable def c_Nspan_0 : MB := (mCmp oLe (mBin oAdd (mBin oMul (mC (.int 2)) (mVar 5)) (mC (.int 2))) (mVar 3))
noncomputable def lb_Nspan_1 : MS := (mSet 5 (mBin oAdd (mBin oMul (mC (.int 2)) (mVar 5)) (mC (.int 1))))
noncomputable def b_Nspan : MS := (mSeq (mIfS (mCmp oEq (mFn m_nextD (lCons (mVar 0) (lCons (mC (.int 8)) lNil))) (mC (.int 0))) (mRet (mTup (lCons (mFn m_nextD (lCons (mVar 0) (lCons (mC (.int 60)) lNil))) (lCons (mBin oSub (mBin oShl (mC (.int 1)) (mFn m_nextD (lCons (mVar 0) (lCons (mC (.int 6)) lNil)))) (mC (.int 1))) lNil)))) mPass)
    (mSeq (mAsg (mBin oIx (mVar 1) (mFn m_nextD (lCons (mVar 0) (lCons (mCall bLen (lCons (mVar 1) lNil)) lNil)))) (gT 3 (gsC (gN 2) (gsC (gN 3) (gsC (gN 4) gsN)))))
    (mSeq (mSet 5 (mC (.int 0)))
    (mSeq (mWhile c_Nspan_0 lb_Nspan_1)
    (mRet (mTup (lCons (mVar 2) (lCons (mVar 5) lNil))))))))
noncomputable def m_Nspan : MD := mDef 2 4 b_Nspan
noncomputable def b_Nword : MS := (mSeq (mSet 1 (mFn m_nextD (lCons (mVar 0) (lCons (mC (.int 4)) lNil))))
    (mSeq (mIfS (mCmp oEq (mVar 1) (mC (.int 0))) (mRet (mFn m_nextD (lCons (mVar 0) (lCons (mC (.int 3)) lNil)))) mPass)
    (mSeq (mIfS (mCmp oEq (mVar 1) (mC (.int 1))) (mRet (mFn m_nextD (lCons (mVar 0) (lCons (mC (.int 70)) lNil)))) mPass)
    (mSeq (mIfS (mCmp oEq (mVar 1) (mC (.int 2))) (mRet (mBin oSub (mC (.int 4294967295)) (mFn m_nextD (lCons (mVar 0) (lCons (mC (.int 9)) lNil))))) mPass)
    (mRet (mBin oMod (mCall bInt (lCons (mBin oAdd (mBin oMul (mFn m_nextD (lCons (mVar 0) (lCons (mC (.int 1000)) lNil))) (mC (.int 4294967))) (mBin oMul (mFn m_nextD (lCons (mVar 0) (lCons (mC (.int 1000)) lNil))) (mC (.int 4297)))) lNil)) (mC (.int 4294967296))))))))
noncomputable def m_Nword : MD := mDef 1 1 b_Nword
noncomputable def b_Nrow : MS := (mSeq (mSet 4 (mFn m_nextD (lCons (mVar 0) (lCons (mC (.int 20)) lNil))))
    (mSeq (mIfS (mCmp oLt (mVar 4) (mC (.int 4))) (mRet (mTup (lCons (mC (.str "const")) (lCons (mFn m_Nregister (lCons (mVar 0) lNil)) (lCons (mFn m_Nword (lCons (mVar 0) lNil)) lNil))))) mPass)
    (mSeq (mIfS (mCmp oLt (mVar 4) (mC (.int 8))) (mRet (mFn m_Nop (lCons (mVar 0) lNil))) mPass)
    (mSeq (mIfS (mCmp oEq (mVar 4) (mC (.int 8))) (mRet (mTup (lCons (mC (.str "select")) (lCons (mFn m_Nregister (lCons (mVar 0) lNil)) (lCons (mFn m_Nregister (lCons (mVar 0) lNil)) (lCons (mFn m_Nregister (lCons (mVar 0) lNil)) (lCons (mFn m_Nregister (lCons (mVar 0) lNil)) lNil))))))) mPass)
    (mSeq (mIfS (mCmp oLt (mVar 4) (mC (.int 12))) (mSeq (mAsg (mFn m_Nspan (lCons (mVar 0) (lCons (mVar 3) lNil))) (gT 2 (gsC (gN 5) (gsC (gN 6) gsN))))
    (mRet (mTup (lCons (mC (.str "load")) (lCons (mFn m_Nregister (lCons (mVar 0) lNil)) (lCons (mFn m_Nregister (lCons (mVar 0) lNil)) (lCons (mVar 5) (lCons (mVar 6) lNil)))))))) mPass)
    (mSeq (mIfS (mCmp oLt (mVar 4) (mC (.int 14))) (mSeq (mAsg (mFn m_Nspan (lCons (mVar 0) (lCons (mVar 3) lNil))) (gT 2 (gsC (gN 5) (gsC (gN 6) gsN))))
    (mRet (mTup (lCons (mC (.str "store")) (lCons (mFn m_Nregister (lCons (mVar 0) lNil)) (lCons (mVar 5) (lCons (mVar 6) (lCons (mFn m_Nregister (lCons (mVar 0) lNil)) lNil)))))))) mPass)
    (mSeq (mIfS (mCmp oEq (mVar 4) (mC (.int 14))) (mRet (mTup (lCons (mC (.str "out")) (lCons (mFn m_Nregister (lCons (mVar 0) lNil)) lNil)))) mPass)
    (mSeq (mIfS (mCmp oEq (mVar 4) (mC (.int 15))) (mRet (mTup (lCons (mC (.str "jump")) (lCons (mCall bMin (lCons (mBin oSub (mVar 2) (mC (.int 1))) (lCons (mBin oAdd (mBin oAdd (mVar 1) (mC (.int 1))) (mFn m_nextD (lCons (mVar 0) (lCons (mC (.int 5)) lNil)))) lNil))) lNil)))) mPass)
    (mSeq (mIfS (mAndB (mCmp oEq (mVar 4) (mC (.int 16))) (mCmp oEq (mFn m_nextD (lCons (mVar 0) (lCons (mC (.int 4)) lNil))) (mC (.int 0)))) (mRet (mTup (lCons (mC (.str "stop")) (lCons (mFn m_Nregister (lCons (mVar 0) lNil)) lNil)))) mPass)
    (mSeq (mIfS (mCmp oEq (mVar 4) (mC (.int 17))) (mRet (mTup (lCons (mC (.str "branch")) (lCons (mFn m_Nregister (lCons (mVar 0) lNil)) (lCons (mFn m_nextD (lCons (mVar 0) (lCons (mVar 2) lNil))) lNil))))) mPass)
    (mRet (mTup (lCons (mC (.str "branch")) (lCons (mFn m_Nregister (lCons (mVar 0) lNil)) (lCons (mCall bMin (lCons (mBin oSub (mVar 2) (mC (.int 1))) (lCons (mBin oAdd (mBin oAdd (mVar 1) (mC (.int 1))) (mFn m_nextD (lCons (mVar 0) (lCons (mC (.int 6)) lNil)))) lNil))) lNil)))))))))))))))
noncomputable def m_Nrow : MD := mDef 4 3 b_Nrow
noncomputable def b_Ncode : MS := (mSeq (mSet 1 (mFn m_Nregions (lCons (mVar 0) lNil)))
    (mSeq (mSet 2 (mBin oAdd (mBin oAdd (mC (.int 1)) (mBin oIx (mLst (lCons (mC (.int 2)) (lCons (mC (.int 8)) (lCons (mC (.int 30)) lNil)))) (mFn m_nextD (lCons (mVar 0) (lCons (mC (.int 3)) lNil))))) (mFn m_nextD (lCons (mVar 0) (lCons (mC (.int 12)) lNil)))))
    (mSeq (mSet 3 (mLc (mRng1 (lCons (mBin oSub (mVar 2) (mC (.int 1))) lNil)) (cN 4) mYes (mFn m_Nrow (lCons (mVar 0) (lCons (mVar 4) (lCons (mVar 2) (lCons (mVar 1) lNil))))) [4]))
    (mSeq (mIfS (mCmp oEq (mFn m_nextD (lCons (mVar 0) (lCons (mC (.int 4)) lNil))) (mC (.int 0))) (mExpr (mBM "list" oAppend (mVar 3) (lCons (mTup (lCons (mC (.str "jump")) (lCons (mFn m_nextD (lCons (mVar 0) (lCons (mVar 2) lNil))) lNil))) lNil))) (mExpr (mBM "list" oAppend (mVar 3) (lCons (mTup (lCons (mC (.str "stop")) (lCons (mFn m_Nregister (lCons (mVar 0) lNil)) lNil))) lNil))))
    (mRet (mTup (lCons (mVar 1) (lCons (mCall bTuple (lCons (mVar 3) lNil)) lNil))))))))
noncomputable def m_Ncode : MD := mDef 1 4 b_Ncode
noncomputable def b_Ncontents : MS := (mRet (mCall bTuple (lCons (mLc (mIt (mBin oIx (mVar 1) (mC (.int 0)))) (cT [2, 3, 4]) mYes (mCall bTuple (lCons (mLc (mRng1 (lCons (mVar 3) lNil)) (cN 5) mYes (mFn m_Nword (lCons (mVar 0) lNil)) [5]) lNil)) [2, 3, 4]) lNil)))
noncomputable def m_Ncontents : MD := mDef 2 4 b_Ncontents
noncomputable def lb_Nmemory_0 : MS := (mAsg (mBin oIx (mBin oIx (mVar 1) (mVar 3)) (mVar 4)) (gSb (mVar 2) (mBin oAdd (mBin oIx (mBin oIx (mBin oIx (mVar 0) (mC (.int 0))) (mVar 3)) (mC (.int 0))) (mVar 4))))
noncomputable def lb_Nmemory_1 : MS := (mFor (mRng1 (lCons (mBin oIx (mBin oIx (mBin oIx (mVar 0) (mC (.int 0))) (mVar 3)) (mC (.int 1))) lNil)) (gN 4) lb_Nmemory_0)
noncomputable def b_Nmemory : MS := (mSeq (mSet 2 mDicK)
    (mSeq (mFor (mRng1 (lCons (mCall bLen (lCons (mBin oIx (mVar 0) (mC (.int 0))) lNil)) lNil)) (gN 3) lb_Nmemory_1)
    (mRet (mVar 2))))
noncomputable def m_Nmemory : MD := mDef 2 3 b_Nmemory
noncomputable def b_Napply : MS := (mSeq (mIfS (mCmp oIn (mVar 0) (mLst (lCons (mC (.str "+")) (lCons (mC (.str "-")) (lCons (mC (.str "*")) lNil))))) (mRet (mBin oMod (mCall bInt (lCons (mBin oIx (mDisp (dpCons (mC (.str "+")) (mBin oAdd (mVar 1) (mVar 2)) (dpCons (mC (.str "-")) (mBin oSub (mVar 1) (mVar 2)) (dpCons (mC (.str "*")) (mBin oMul (mVar 1) (mVar 2)) dpNil)))) (mVar 0)) lNil)) (mC (.int 4294967296)))) mPass)
    (mSeq (mIfS (mCmp oIn (mVar 0) (mLst (lCons (mC (.str "&")) (lCons (mC (.str "|")) (lCons (mC (.str "^")) lNil))))) (mRet (mBin oIx (mDisp (dpCons (mC (.str "&")) (mBin oAnd (mVar 1) (mVar 2)) (dpCons (mC (.str "|")) (mBin oOr (mVar 1) (mVar 2)) (dpCons (mC (.str "^")) (mBin oXor (mVar 1) (mVar 2)) dpNil)))) (mVar 0))) mPass)
    (mSeq (mIfS (mCmp oEq (mVar 0) (mC (.str "<<"))) (mRet (mBin oMod (mCall bInt (lCons (mBin oMul (mVar 1) (mBin oShl (mC (.int 1)) (mBin oMod (mVar 2) (mC (.int 32))))) lNil)) (mC (.int 4294967296)))) mPass)
    (mSeq (mIfS (mCmp oEq (mVar 0) (mC (.str ">>"))) (mRet (mBin oFdiv (mVar 1) (mBin oShl (mC (.int 1)) (mBin oMod (mVar 2) (mC (.int 32)))))) mPass)
    (mSeq (mIfS (mCmp oIn (mVar 0) (mLst (lCons (mC (.str "==")) (lCons (mC (.str "<")) (lCons (mC (.str "<=")) lNil))))) (mRet (mCall bInt (lCons (mBin oIx (mDisp (dpCons (mC (.str "==")) (mBin oEq (mVar 1) (mVar 2)) (dpCons (mC (.str "<")) (mBin oLt (mVar 1) (mVar 2)) (dpCons (mC (.str "<=")) (mBin oLe (mVar 1) (mVar 2)) dpNil)))) (mVar 0)) lNil))) mPass)
    (mSeq (mIfS (mCmp oEq (mVar 2) (mC (.int 0))) (mRet (mBin oIx (mDisp (dpCons (mC (.str "div")) (mC (.int 0)) (dpCons (mC (.str "mod")) (mVar 1) dpNil))) (mVar 0))) mPass)
    (mRet (mBin oIx (mDisp (dpCons (mC (.str "div")) (mBin oFdiv (mVar 1) (mVar 2)) (dpCons (mC (.str "mod")) (mBin oMod (mVar 1) (mVar 2)) dpNil))) (mVar 0)))))))))
noncomputable def m_Napply : MD := mDef 3 0 b_Napply
noncomputable def b_Ndo : MS := (mSeq (mSet 2 (mBin oIx (mVar 0) (mC (.str "held"))))
    (mSeq (mIfS (mCmp oEq (mBin oIx (mVar 1) (mC (.int 0))) (mC (.str "const"))) (mAsg (mBin oIx (mVar 1) (mC (.int 2))) (gSb (mVar 2) (mBin oIx (mVar 1) (mC (.int 1))))) mPass)
    (mSeq (mIfS (mCmp oEq (mBin oIx (mVar 1) (mC (.int 0))) (mC (.str "op"))) (mAsg (mFn m_Napply (lCons (mBin oIx (mVar 1) (mC (.int 1))) (lCons (mBin oIx (mVar 2) (mBin oIx (mVar 1) (mC (.int 3)))) (lCons (mBin oIx (mVar 2) (mBin oIx (mVar 1) (mC (.int 4)))) lNil)))) (gSb (mVar 2) (mBin oIx (mVar 1) (mC (.int 2))))) mPass)
    (mSeq (mIfS (mCmp oEq (mBin oIx (mVar 1) (mC (.int 0))) (mC (.str "select"))) (mAsg (mBin oIx (mVar 2) (mBin oIx (mVar 1) (mBin oAdd (mC (.int 3)) (mCall bInt (lCons (mBin oEq (mBin oIx (mVar 2) (mBin oIx (mVar 1) (mC (.int 2)))) (mC (.int 0))) lNil))))) (gSb (mVar 2) (mBin oIx (mVar 1) (mC (.int 1))))) mPass)
    (mSeq (mIfS (mCmp oEq (mBin oIx (mVar 1) (mC (.int 0))) (mC (.str "load"))) (mAsg (mGet2 (mBin oIx (mVar 0) (mC (.str "words"))) (mBin oAdd (mBin oIx (mVar 1) (mC (.int 3))) (mBin oAnd (mBin oIx (mVar 2) (mBin oIx (mVar 1) (mC (.int 2)))) (mBin oIx (mVar 1) (mC (.int 4))))) (mC (.int 0))) (gSb (mVar 2) (mBin oIx (mVar 1) (mC (.int 1))))) mPass)
    (mSeq (mIfS (mCmp oEq (mBin oIx (mVar 1) (mC (.int 0))) (mC (.str "store"))) (mAsg (mBin oIx (mVar 2) (mBin oIx (mVar 1) (mC (.int 4)))) (gSb (mBin oIx (mVar 0) (mC (.str "words"))) (mBin oAdd (mBin oIx (mVar 1) (mC (.int 2))) (mBin oAnd (mBin oIx (mVar 2) (mBin oIx (mVar 1) (mC (.int 1)))) (mBin oIx (mVar 1) (mC (.int 3))))))) mPass)
    (mIfS (mCmp oEq (mBin oIx (mVar 1) (mC (.int 0))) (mC (.str "out"))) (mExpr (mBM "list" oAppend (mBin oIx (mVar 0) (mC (.str "outs"))) (lCons (mBin oIx (mVar 2) (mBin oIx (mVar 1) (mC (.int 1)))) lNil))) mPass)))))))
noncomputable def m_Ndo : MD := mDef 2 1 b_Ndo
noncomputable def b_Nnext_row : MS := (mSeq (mIfS (mCmp oEq (mBin oIx (mVar 1) (mC (.int 0))) (mC (.str "jump"))) (mRet (mBin oIx (mVar 1) (mC (.int 1)))) mPass)
    (mSeq (mIfS (mAndB (mCmp oEq (mBin oIx (mVar 1) (mC (.int 0))) (mC (.str "branch"))) (mCmp oNe (mBin oIx (mBin oIx (mVar 0) (mC (.str "held"))) (mBin oIx (mVar 1) (mC (.int 1)))) (mC (.int 0)))) (mRet (mBin oIx (mVar 1) (mC (.int 2)))) mPass)
    (mRet (mBin oAdd (mBin oIx (mVar 0) (mC (.str "at"))) (mC (.int 1))))))
noncomputable def m_Nnext_row : MD := mDef 2 0 b_Nnext_row
noncomputable def b_Nheld : MS := (mRet (mCall bTuple (lCons (mLc (mIt (mBin oIx (mVar 0) (mC (.int 0)))) (cT [2, 3, 4]) mYes (mCall bTuple (lCons (mLc (mRng1 (lCons (mVar 3) lNil)) (cN 5) mYes (mBin oIx (mVar 1) (mBin oAdd (mVar 2) (mVar 5))) [5]) lNil)) [2, 3, 4]) lNil)))
noncomputable def m_Nheld : MD := mDef 2 4 b_Nheld
noncomputable def lb_Nplain_0 : MS := (mSeq (mSet 6 (mBin oIx (mBin oIx (mVar 0) (mC (.int 1))) (mBin oIx (mVar 3) (mC (.str "at")))))
    (mSeq (mIfS (mCmp oEq (mBin oIx (mVar 6) (mC (.int 0))) (mC (.str "stop"))) (mSeq (mSet 4 (mBin oIx (mBin oIx (mVar 3) (mC (.str "held"))) (mBin oIx (mVar 6) (mC (.int 1)))))
    mBrk) mPass)
    (mSeq (mExpr (mFn m_Ndo (lCons (mVar 3) (lCons (mVar 6) lNil))))
    (mAsg (mFn m_Nnext_row (lCons (mVar 3) (lCons (mVar 6) lNil))) (gSb (mVar 3) (mC (.str "at")))))))
noncomputable def b_Nplain : MS := (mSeq (mSet 3 (mDisp (dpCons (mC (.str "held")) (mBin oMul (mLst (lCons (mC (.int 0)) lNil)) (mC (.int 16))) (dpCons (mC (.str "words")) (mFn m_Nmemory (lCons (mVar 0) (lCons (mVar 1) lNil))) (dpCons (mC (.str "outs")) (mLst lNil) (dpCons (mC (.str "at")) (mC (.int 0)) dpNil))))))
    (mSeq (mSet 4 (mC .non))
    (mSeq (mFor (mRng1 (lCons (mVar 2) lNil)) (gN 5) lb_Nplain_0)
    (mRet (mTup (lCons (mCall bTuple (lCons (mBin oIx (mVar 3) (mC (.str "outs"))) lNil)) (lCons (mVar 4) (lCons (mFn m_Nheld (lCons (mVar 0) (lCons (mBin oIx (mVar 3) (mC (.str "words"))) lNil))) lNil))))))))
noncomputable def m_Nplain : MD := mDef 3 4 b_Nplain

section
variable {X : XP} {S : Hs} {i j : Nat}
theorem nx {many : Int} {Q : D → Hs → Prop} (d : DrwN S i j) (hm : 0 < many) (h : ∀ (x : Nat) S', (x : Int) < many → DrwN S' i j → Kp [i] S S' → S'.length = S.length → Q (nD x) S') : Wp X (m_nextD [.ref i, .int many] S) Q := by
  refine Wp.call (nextD_ok d hm) ?_
  rintro _ S' ⟨x, rfl, h1, h2, h3, h4⟩
  exact h x S' h1 h2 h3 h4
/-- what is drawn: a thing of the given form, and nothing else is touched -/
def Dw (i j : Nat) (S : Hs) (P : D → Prop) : D → Hs → Prop := fun v S' => P v ∧ DrwN S' i j ∧ Kp [i] S S'
theorem Nregister_ok (d : DrwN S i j) : Wp NoX (m_Nregister [.ref i] S) (Dw i j S fun v => ∃ a : Nat, v = nD a ∧ a < 16) := by
  refine wp_def0 rfl ?_
  unfold b_Nregister
  simp_arith [Ly.v_fld, Ly.v_meth, Ly.k_me2, Ly.v_make, Ly.k_mk, Ly.v_fldset, Ly.k_fs, Ly.v_fldaug, Ly.k_fa2, Ly.look1, List.mem_cons, List.not_mem_nil, or_false, true_or, or_true]
  refine nx d.new (by decide) fun p S1 hp d1 k1 _ => ?_
  have hq : S1[S.length]? = some (.lst [.int 3, .int 6, .int 16]) := k1.get (i := S.length) (by simp) (by have := d.lt; simp; omega)
  obtain ⟨m, hm, h0, h16⟩ : ∃ m : Int, ([.int 3, .int 6, .int 16] : List D)[p]? = some (.int m) ∧ 0 < m ∧ m ≤ 16 := by
    rcases (show p = 0 ∨ p = 1 ∨ p = 2 by omega) with rfl | rfl | rfl
    · exact ⟨3, rfl, by decide, by decide⟩
    · exact ⟨6, rfl, by decide, by decide⟩
    · exact ⟨16, rfl, by decide, by decide⟩
  simp_arith [Ly.v_fld, Ly.v_meth, Ly.k_me2, Ly.v_make, Ly.k_mk, Ly.v_fldset, Ly.k_fs, Ly.v_fldaug, Ly.k_fa2, Ly.look1, List.mem_cons, List.not_mem_nil, or_false, true_or, or_true, oIx_lst hq (Int.natCast_nonneg p) (by simp; omega) hm]
  refine nx d1 h0 fun x S2 hx d2 k2 _ => ?_
  simp_arith [Ly.v_fld, Ly.v_meth, Ly.k_me2, Ly.v_make, Ly.k_mk, Ly.v_fldset, Ly.k_fs, Ly.v_fldaug, Ly.k_fa2, Ly.look1, List.mem_cons, List.not_mem_nil, or_false, true_or, or_true]
  exact ⟨⟨x, rfl, by omega⟩, d2, Kp.new.trans (k1.trans k2)⟩
theorem rgn {Q : D → Hs → Prop} (d : DrwN S i j) (h : ∀ (a : Nat) S', a < 16 → DrwN S' i j → Kp [i] S S' → Q (nD a) S') : Wp X (m_Nregister [.ref i] S) Q := by
  refine Wp.call (Nregister_ok d) ?_
  rintro _ S' ⟨⟨a, rfl, ha⟩, d2, k2⟩
  exact h a S' ha d2 k2
theorem Nword_ok (d : DrwN S i j) : Wp NoX (m_Nword [.ref i] S) (Dw i j S fun v => ∃ a : Nat, v = nD a ∧ a < 4294967296) := by
  refine wp_def0 rfl ?_
  unfold b_Nword
  simp_arith [Ly.v_fld, Ly.v_meth, Ly.k_me2, Ly.v_make, Ly.k_mk, Ly.v_fldset, Ly.k_fs, Ly.v_fldaug, Ly.k_fa2, Ly.look1, List.mem_cons, List.not_mem_nil, or_false, true_or, or_true]
  refine nx d (by decide) fun p S1 hp d1 k1 _ => ?_
  rcases (show p = 0 ∨ p = 1 ∨ p = 2 ∨ p = 3 by omega) with rfl | rfl | rfl | rfl
  · simp_arith [Ly.v_fld, Ly.v_meth, Ly.k_me2, Ly.v_make, Ly.k_mk, Ly.v_fldset, Ly.k_fs, Ly.v_fldaug, Ly.k_fa2, Ly.look1, List.mem_cons, List.not_mem_nil, or_false, true_or, or_true, oEq_int]
    refine nx d1 (by decide) fun x S2 hx d2 k2 _ => ?_
    simp_arith [Ly.v_fld, Ly.v_meth, Ly.k_me2, Ly.v_make, Ly.k_mk, Ly.v_fldset, Ly.k_fs, Ly.v_fldaug, Ly.k_fa2, Ly.look1, List.mem_cons, List.not_mem_nil, or_false, true_or, or_true]
    exact ⟨⟨x, rfl, by omega⟩, d2, k1.trans k2⟩
  · simp_arith [Ly.v_fld, Ly.v_meth, Ly.k_me2, Ly.v_make, Ly.k_mk, Ly.v_fldset, Ly.k_fs, Ly.v_fldaug, Ly.k_fa2, Ly.look1, List.mem_cons, List.not_mem_nil, or_false, true_or, or_true, oEq_int]
    refine nx d1 (by decide) fun x S2 hx d2 k2 _ => ?_
    simp_arith [Ly.v_fld, Ly.v_meth, Ly.k_me2, Ly.v_make, Ly.k_mk, Ly.v_fldset, Ly.k_fs, Ly.v_fldaug, Ly.k_fa2, Ly.look1, List.mem_cons, List.not_mem_nil, or_false, true_or, or_true]
    exact ⟨⟨x, rfl, by omega⟩, d2, k1.trans k2⟩
  · simp_arith [Ly.v_fld, Ly.v_meth, Ly.k_me2, Ly.v_make, Ly.k_mk, Ly.v_fldset, Ly.k_fs, Ly.v_fldaug, Ly.k_fa2, Ly.look1, List.mem_cons, List.not_mem_nil, or_false, true_or, or_true, oEq_int]
    refine nx d1 (by decide) fun x S2 hx d2 k2 _ => ?_
    simp_arith [Ly.v_fld, Ly.v_meth, Ly.k_me2, Ly.v_make, Ly.k_mk, Ly.v_fldset, Ly.k_fs, Ly.v_fldaug, Ly.k_fa2, Ly.look1, List.mem_cons, List.not_mem_nil, or_false, true_or, or_true, oSub_int]
    exact ⟨⟨4294967295 - x, by simp only [nD]; congr 1; omega, by omega⟩, d2, k1.trans k2⟩
  · simp_arith [Ly.v_fld, Ly.v_meth, Ly.k_me2, Ly.v_make, Ly.k_mk, Ly.v_fldset, Ly.k_fs, Ly.v_fldaug, Ly.k_fa2, Ly.look1, List.mem_cons, List.not_mem_nil, or_false, true_or, or_true, oEq_int]
    refine nx d1 (by decide) fun x S2 hx d2 k2 _ => ?_
    simp_arith [Ly.v_fld, Ly.v_meth, Ly.k_me2, Ly.v_make, Ly.k_mk, Ly.v_fldset, Ly.k_fs, Ly.v_fldaug, Ly.k_fa2, Ly.look1, List.mem_cons, List.not_mem_nil, or_false, true_or, or_true, oMul_int (mulok_r (show Int.natAbs 4294967 < 2 ^ 64 by decide))]
    refine nx d2 (by decide) fun y S3 hy d3 k3 _ => ?_
    simp_arith [Ly.v_fld, Ly.v_meth, Ly.k_me2, Ly.v_make, Ly.k_mk, Ly.v_fldset, Ly.k_fs, Ly.v_fldaug, Ly.k_fa2, Ly.look1, List.mem_cons, List.not_mem_nil, or_false, true_or, or_true, oMul_int (mulok_r (show Int.natAbs 4297 < 2 ^ 64 by decide)), oAdd_int, bInt_int, oMod_int (show (0:Int) < 4294967296 by decide)]
    exact ⟨⟨(x * 4294967 + y * 4297) % 4294967296, by simp [nD], by omega⟩, d3, k1.trans (k2.trans k3)⟩
theorem wdn {Q : D → Hs → Prop} (d : DrwN S i j) (h : ∀ (a : Nat) S', a < 4294967296 → DrwN S' i j → Kp [i] S S' → Q (nD a) S') : Wp X (m_Nword [.ref i] S) Q := by
  refine Wp.call (Nword_ok d) ?_
  rintro _ S' ⟨⟨a, rfl, ha⟩, d2, k2⟩
  exact h a S' ha d2 k2
theorem Nop_ok (d : DrwN S i j) {many : Nat} : Wp NoX (m_Nop [.ref i] S) (Dw i j S fun v => ∃ r : MRow, v = r.D ∧ r.ok many) := by
  refine wp_def0 rfl ?_
  unfold b_Nop
  simp_arith [Ly.v_fld, Ly.v_meth, Ly.k_me2, Ly.v_make, Ly.k_mk, Ly.v_fldset, Ly.k_fs, Ly.v_fldaug, Ly.k_fa2, Ly.look1, List.mem_cons, List.not_mem_nil, or_false, true_or, or_true]
  refine nx d.new (by decide) fun p S1 hp d1 k1 _ => ?_
  have hq : S1[S.length]? = some (.lst (signsL.map D.str)) := k1.get (i := S.length) (by simp [signsL]) (by have := d.lt; simp; omega)
  have hpl : p < signsL.length := by simp [signsL]; omega
  obtain ⟨z, hz⟩ : ∃ z, signsL[p]? = some z := ⟨_, List.getElem?_eq_getElem hpl⟩
  simp_arith [Ly.v_fld, Ly.v_meth, Ly.k_me2, Ly.v_make, Ly.k_mk, Ly.v_fldset, Ly.k_fs, Ly.v_fldaug, Ly.k_fa2, Ly.look1, List.mem_cons, List.not_mem_nil, or_false, true_or, or_true, oIx_lst (d := .str z) hq (Int.natCast_nonneg p) (by rw [List.length_map]; omega) (by simp [hz])]
  refine rgn d1 fun a S2 ha d2 k2 => ?_
  simp_arith [Ly.v_fld, Ly.v_meth, Ly.k_me2, Ly.v_make, Ly.k_mk, Ly.v_fldset, Ly.k_fs, Ly.v_fldaug, Ly.k_fa2, Ly.look1, List.mem_cons, List.not_mem_nil, or_false, true_or, or_true]
  refine rgn d2 fun b S3 hb d3 k3 => ?_
  simp_arith [Ly.v_fld, Ly.v_meth, Ly.k_me2, Ly.v_make, Ly.k_mk, Ly.v_fldset, Ly.k_fs, Ly.v_fldaug, Ly.k_fa2, Ly.look1, List.mem_cons, List.not_mem_nil, or_false, true_or, or_true]
  refine rgn d3 fun c S4 hc d4 k4 => ?_
  simp_arith [Ly.v_fld, Ly.v_meth, Ly.k_me2, Ly.v_make, Ly.k_mk, Ly.v_fldset, Ly.k_fs, Ly.v_fldaug, Ly.k_fa2, Ly.look1, List.mem_cons, List.not_mem_nil, or_false, true_or, or_true]
  exact ⟨⟨.op z a b c, rfl, List.mem_of_getElem? hz, ha, hb, hc⟩, d4, Kp.new.trans (k1.trans (k2.trans (k3.trans k4)))⟩
theorem Nspan_ok (d : DrwN S i j) {regs : List Rg} (hl : 0 < regs.length) (hl2 : regs.length ≤ 1000) (hr : ∀ r ∈ regs, r.base ≤ 1000000 ∧ r.size ≤ 1000000) : Wp NoX (m_Nspan [.ref i, .tup (regs.map Rg.D)] S) (Dw i j S fun v => ∃ b m : Nat, v = .tup [nD b, nD m] ∧ b ≤ 1000000 ∧ m < 4294967296) := by
  refine wp_def0 rfl ?_
  unfold b_Nspan
  simp_arith [Ly.v_fld, Ly.v_meth, Ly.k_me2, Ly.v_make, Ly.k_mk, Ly.v_fldset, Ly.k_fs, Ly.v_fldaug, Ly.k_fa2, Ly.look1, List.mem_cons, List.not_mem_nil, or_false, true_or, or_true]
  refine nx d (by decide) fun p S1 hp d1 k1 _ => ?_
  by_cases h0 : (p : Int) = 0
  · simp_arith [Ly.v_fld, Ly.v_meth, Ly.k_me2, Ly.v_make, Ly.k_mk, Ly.v_fldset, Ly.k_fs, Ly.v_fldaug, Ly.k_fa2, Ly.look1, List.mem_cons, List.not_mem_nil, or_false, true_or, or_true, oEq_int, h0]
    refine nx d1 (by decide) fun b S2 hb d2 k2 _ => ?_
    simp_arith [Ly.v_fld, Ly.v_meth, Ly.k_me2, Ly.v_make, Ly.k_mk, Ly.v_fldset, Ly.k_fs, Ly.v_fldaug, Ly.k_fa2, Ly.look1, List.mem_cons, List.not_mem_nil, or_false, true_or, or_true]
    refine nx d2 (by decide) fun e S3 he d3 k3 _ => ?_
    have hp : 0 < 2 ^ e := Nat.two_pow_pos e
    have hlt : 2 ^ e ≤ 2 ^ 6 := Nat.pow_le_pow_right (by decide) (by omega)
    simp_arith [Ly.v_fld, Ly.v_meth, Ly.k_me2, Ly.v_make, Ly.k_mk, Ly.v_fldset, Ly.k_fs, Ly.v_fldaug, Ly.k_fa2, Ly.look1, List.mem_cons, List.not_mem_nil, or_false, true_or, or_true, oShl_int (a := 1) (b := (e : Int)) (by omega) (by omega) (by decide), oSub_int, Int.toNat_natCast]
    exact ⟨⟨b, 2 ^ e - 1, by simp only [nD]; rw [show (1 : Int) * 2 ^ e - 1 = ((2 ^ e - 1 : Nat) : Int) by rw [int_pow]; omega], by omega, by omega⟩, d3, k1.trans (k2.trans k3)⟩
  · simp_arith [Ly.v_fld, Ly.v_meth, Ly.k_me2, Ly.v_make, Ly.k_mk, Ly.v_fldset, Ly.k_fs, Ly.v_fldaug, Ly.k_fa2, Ly.look1, List.mem_cons, List.not_mem_nil, or_false, true_or, or_true, oEq_int, h0, bLen_tup, List.length_map]
    refine nx d1 (by omega) fun x S2 hx d2 k2 _ => ?_
    have hxl : x < regs.length := by omega
    obtain ⟨r, hrr⟩ : ∃ r, regs[x]? = some r := ⟨_, List.getElem?_eq_getElem hxl⟩
    have hb := hr r (List.mem_of_getElem? hrr)
    have hix : oIx (.tup (regs.map Rg.D)) (nD x) S2 = .ok (.tup [nD r.base, nD r.size, .str r.label]) S2 := oIx_tup (by rw [List.getElem?_map, hrr]; rfl)
    simp_arith [Ly.v_fld, Ly.v_meth, Ly.k_me2, Ly.v_make, Ly.k_mk, Ly.v_fldset, Ly.k_fs, Ly.v_fldaug, Ly.k_fa2, Ly.look1, List.mem_cons, List.not_mem_nil, or_false, true_or, or_true, hix, v_gT]
    refine wp_while (fun m l S' => ∃ k : Nat, l = [some (.ref i), some (.tup (regs.map Rg.D)), some (nD r.base), some (nD r.size), some (.str r.label), some (nD k)] ∧ S' = S2 ∧ k ≤ r.size ∧ m = r.size - k) ?_ r.size _ _ ⟨0, rfl, rfl, by omega, by omega⟩
    rintro m l S' ⟨k, rfl, rfl, hk, rfl⟩
    unfold c_Nspan_0 lb_Nspan_1
    simp_arith [Ly.v_fld, Ly.v_meth, Ly.k_me2, Ly.v_make, Ly.k_mk, Ly.v_fldset, Ly.k_fs, Ly.v_fldaug, Ly.k_fa2, Ly.look1, List.mem_cons, List.not_mem_nil, or_false, true_or, or_true, oMul_int (mulok_l (show Int.natAbs 2 < 2 ^ 64 by decide)), oAdd_int, oLe_int]
    by_cases hc : 2 * (k : Int) + 2 ≤ (r.size : Int)
    · have e : 2 * (k : Int) + 1 = ((2 * k + 1 : Nat) : Int) := by omega
      simp_arith [Ly.v_fld, Ly.v_meth, Ly.k_me2, Ly.v_make, Ly.k_mk, Ly.v_fldset, Ly.k_fs, Ly.v_fldaug, Ly.k_fa2, Ly.look1, List.mem_cons, List.not_mem_nil, or_false, true_or, or_true, hc, oMul_int (mulok_l (show Int.natAbs 2 < 2 ^ 64 by decide)), oAdd_int, e]
      exact ⟨r.size - (2 * k + 1), by omega, 2 * k + 1, rfl, by omega, rfl⟩
    · simp_arith [Ly.v_fld, Ly.v_meth, Ly.k_me2, Ly.v_make, Ly.k_mk, Ly.v_fldset, Ly.k_fs, Ly.v_fldaug, Ly.k_fa2, Ly.look1, List.mem_cons, List.not_mem_nil, or_false, true_or, or_true, hc]
      exact ⟨⟨r.base, k, rfl, hb.1, by omega⟩, d2, k1.trans k2⟩
theorem spn {Q : D → Hs → Prop} (d : DrwN S i j) {regs : List Rg} (hl : 0 < regs.length) (hl2 : regs.length ≤ 1000) (hr : ∀ r ∈ regs, r.base ≤ 1000000 ∧ r.size ≤ 1000000) (h : ∀ (b m : Nat) S', b ≤ 1000000 → m < 4294967296 → DrwN S' i j → Kp [i] S S' → Q (.tup [nD b, nD m]) S') : Wp X (m_Nspan [.ref i, .tup (regs.map Rg.D)] S) Q := by
  refine Wp.call (Nspan_ok d hl hl2 hr) ?_
  rintro _ S' ⟨⟨b, m, rfl, h1, h2⟩, d2, k2⟩
  exact h b m S' h1 h2 d2 k2
theorem min_ok {many at' x : Nat} (hm : 0 < many) {S : Hs} : ∃ t : Nat, bMin [.int ((many : Int) - 1), .int ((at' : Int) + 1 + (x : Int))] S = .ok (nD t) S ∧ t < many := by
  simp only [bMin]
  by_cases h : (at' : Int) + 1 + (x : Int) < (many : Int) - 1
  · exact ⟨at' + 1 + x, by rw [if_pos h]; simp [nD], by omega⟩
  · exact ⟨many - 1, by rw [if_neg h]; simp only [nD]; rw [show (many : Int) - 1 = ((many - 1 : Nat) : Int) by omega], by omega⟩
theorem Nrow_ok (d : DrwN S i j) {regs : List Rg} (hl : 0 < regs.length) (hl2 : regs.length ≤ 1000) (hr : ∀ r ∈ regs, r.base ≤ 1000000 ∧ r.size ≤ 1000000) {k many : Nat} (hm : 0 < many) : Wp NoX (m_Nrow [.ref i, nD k, nD many, .tup (regs.map Rg.D)] S) (Dw i j S fun v => ∃ r : MRow, v = r.D ∧ r.ok many) := by
  refine wp_def0 rfl ?_
  unfold b_Nrow
  simp_arith [Ly.v_fld, Ly.v_meth, Ly.k_me2, Ly.v_make, Ly.k_mk, Ly.v_fldset, Ly.k_fs, Ly.v_fldaug, Ly.k_fa2, Ly.look1, List.mem_cons, List.not_mem_nil, or_false, true_or, or_true]
  refine nx d (by decide) fun p S1 hp d1 k1 _ => ?_
  have hmi : (0 : Int) < (many : Int) := by omega
  by_cases h1 : (p : Int) < 4
  · simp_arith [Ly.v_fld, Ly.v_meth, Ly.k_me2, Ly.v_make, Ly.k_mk, Ly.v_fldset, Ly.k_fs, Ly.v_fldaug, Ly.k_fa2, Ly.look1, List.mem_cons, List.not_mem_nil, or_false, true_or, or_true, oLt_int, h1]
    refine rgn d1 fun a S2 ha d2 k2 => ?_
    simp_arith [Ly.v_fld, Ly.v_meth, Ly.k_me2, Ly.v_make, Ly.k_mk, Ly.v_fldset, Ly.k_fs, Ly.v_fldaug, Ly.k_fa2, Ly.look1, List.mem_cons, List.not_mem_nil, or_false, true_or, or_true]
    refine wdn d2 fun w S3 hw d3 k3 => ?_
    simp_arith [Ly.v_fld, Ly.v_meth, Ly.k_me2, Ly.v_make, Ly.k_mk, Ly.v_fldset, Ly.k_fs, Ly.v_fldaug, Ly.k_fa2, Ly.look1, List.mem_cons, List.not_mem_nil, or_false, true_or, or_true]
    exact ⟨⟨.const a w, rfl, ha, hw⟩, d3, k1.trans (k2.trans k3)⟩
  · simp_arith [Ly.v_fld, Ly.v_meth, Ly.k_me2, Ly.v_make, Ly.k_mk, Ly.v_fldset, Ly.k_fs, Ly.v_fldaug, Ly.k_fa2, Ly.look1, List.mem_cons, List.not_mem_nil, or_false, true_or, or_true, oLt_int, h1]
    by_cases h2 : (p : Int) < 8
    · simp_arith [Ly.v_fld, Ly.v_meth, Ly.k_me2, Ly.v_make, Ly.k_mk, Ly.v_fldset, Ly.k_fs, Ly.v_fldaug, Ly.k_fa2, Ly.look1, List.mem_cons, List.not_mem_nil, or_false, true_or, or_true, h2]
      refine Wp.call (Nop_ok d1 (many := many)) ?_
      rintro _ S2 ⟨⟨r, rfl, ho⟩, d2, k2⟩
      simp_arith [Ly.v_fld, Ly.v_meth, Ly.k_me2, Ly.v_make, Ly.k_mk, Ly.v_fldset, Ly.k_fs, Ly.v_fldaug, Ly.k_fa2, Ly.look1, List.mem_cons, List.not_mem_nil, or_false, true_or, or_true]
      exact ⟨⟨r, rfl, ho⟩, d2, k1.trans k2⟩
    · simp_arith [Ly.v_fld, Ly.v_meth, Ly.k_me2, Ly.v_make, Ly.k_mk, Ly.v_fldset, Ly.k_fs, Ly.v_fldaug, Ly.k_fa2, Ly.look1, List.mem_cons, List.not_mem_nil, or_false, true_or, or_true, h2, oEq_int]
      by_cases h3 : (p : Int) = 8
      · simp_arith [Ly.v_fld, Ly.v_meth, Ly.k_me2, Ly.v_make, Ly.k_mk, Ly.v_fldset, Ly.k_fs, Ly.v_fldaug, Ly.k_fa2, Ly.look1, List.mem_cons, List.not_mem_nil, or_false, true_or, or_true, h3]
        refine rgn d1 fun a S2 ha d2 k2 => ?_
        simp_arith [Ly.v_fld, Ly.v_meth, Ly.k_me2, Ly.v_make, Ly.k_mk, Ly.v_fldset, Ly.k_fs, Ly.v_fldaug, Ly.k_fa2, Ly.look1, List.mem_cons, List.not_mem_nil, or_false, true_or, or_true]
        refine rgn d2 fun b S3 hb d3 k3 => ?_
        simp_arith [Ly.v_fld, Ly.v_meth, Ly.k_me2, Ly.v_make, Ly.k_mk, Ly.v_fldset, Ly.k_fs, Ly.v_fldaug, Ly.k_fa2, Ly.look1, List.mem_cons, List.not_mem_nil, or_false, true_or, or_true]
        refine rgn d3 fun c S4 hc d4 k4 => ?_
        simp_arith [Ly.v_fld, Ly.v_meth, Ly.k_me2, Ly.v_make, Ly.k_mk, Ly.v_fldset, Ly.k_fs, Ly.v_fldaug, Ly.k_fa2, Ly.look1, List.mem_cons, List.not_mem_nil, or_false, true_or, or_true]
        refine rgn d4 fun e S5 he d5 k5 => ?_
        simp_arith [Ly.v_fld, Ly.v_meth, Ly.k_me2, Ly.v_make, Ly.k_mk, Ly.v_fldset, Ly.k_fs, Ly.v_fldaug, Ly.k_fa2, Ly.look1, List.mem_cons, List.not_mem_nil, or_false, true_or, or_true]
        exact ⟨⟨.select a b c e, rfl, ha, hb, hc, he⟩, d5, k1.trans (k2.trans (k3.trans (k4.trans k5)))⟩
      · simp_arith [Ly.v_fld, Ly.v_meth, Ly.k_me2, Ly.v_make, Ly.k_mk, Ly.v_fldset, Ly.k_fs, Ly.v_fldaug, Ly.k_fa2, Ly.look1, List.mem_cons, List.not_mem_nil, or_false, true_or, or_true, h3]
        by_cases h4 : (p : Int) < 12
        · simp_arith [Ly.v_fld, Ly.v_meth, Ly.k_me2, Ly.v_make, Ly.k_mk, Ly.v_fldset, Ly.k_fs, Ly.v_fldaug, Ly.k_fa2, Ly.look1, List.mem_cons, List.not_mem_nil, or_false, true_or, or_true, oLt_int, h4]
          refine spn d1 hl hl2 hr fun b m S2 hb hmk d2 k2 => ?_
          simp_arith [Ly.v_fld, Ly.v_meth, Ly.k_me2, Ly.v_make, Ly.k_mk, Ly.v_fldset, Ly.k_fs, Ly.v_fldaug, Ly.k_fa2, Ly.look1, List.mem_cons, List.not_mem_nil, or_false, true_or, or_true, v_gT]
          refine rgn d2 fun a S3 ha d3 k3 => ?_
          simp_arith [Ly.v_fld, Ly.v_meth, Ly.k_me2, Ly.v_make, Ly.k_mk, Ly.v_fldset, Ly.k_fs, Ly.v_fldaug, Ly.k_fa2, Ly.look1, List.mem_cons, List.not_mem_nil, or_false, true_or, or_true]
          refine rgn d3 fun c S4 hc d4 k4 => ?_
          simp_arith [Ly.v_fld, Ly.v_meth, Ly.k_me2, Ly.v_make, Ly.k_mk, Ly.v_fldset, Ly.k_fs, Ly.v_fldaug, Ly.k_fa2, Ly.look1, List.mem_cons, List.not_mem_nil, or_false, true_or, or_true]
          exact ⟨⟨.load a c b m, rfl, ha, hc, hb, hmk⟩, d4, k1.trans (k2.trans (k3.trans k4))⟩
        · simp_arith [Ly.v_fld, Ly.v_meth, Ly.k_me2, Ly.v_make, Ly.k_mk, Ly.v_fldset, Ly.k_fs, Ly.v_fldaug, Ly.k_fa2, Ly.look1, List.mem_cons, List.not_mem_nil, or_false, true_or, or_true, oLt_int, h4]
          by_cases h5 : (p : Int) < 14
          · simp_arith [Ly.v_fld, Ly.v_meth, Ly.k_me2, Ly.v_make, Ly.k_mk, Ly.v_fldset, Ly.k_fs, Ly.v_fldaug, Ly.k_fa2, Ly.look1, List.mem_cons, List.not_mem_nil, or_false, true_or, or_true, oLt_int, h5]
            refine spn d1 hl hl2 hr fun b m S2 hb hmk d2 k2 => ?_
            simp_arith [Ly.v_fld, Ly.v_meth, Ly.k_me2, Ly.v_make, Ly.k_mk, Ly.v_fldset, Ly.k_fs, Ly.v_fldaug, Ly.k_fa2, Ly.look1, List.mem_cons, List.not_mem_nil, or_false, true_or, or_true, v_gT]
            refine rgn d2 fun a S3 ha d3 k3 => ?_
            simp_arith [Ly.v_fld, Ly.v_meth, Ly.k_me2, Ly.v_make, Ly.k_mk, Ly.v_fldset, Ly.k_fs, Ly.v_fldaug, Ly.k_fa2, Ly.look1, List.mem_cons, List.not_mem_nil, or_false, true_or, or_true]
            refine rgn d3 fun c S4 hc d4 k4 => ?_
            simp_arith [Ly.v_fld, Ly.v_meth, Ly.k_me2, Ly.v_make, Ly.k_mk, Ly.v_fldset, Ly.k_fs, Ly.v_fldaug, Ly.k_fa2, Ly.look1, List.mem_cons, List.not_mem_nil, or_false, true_or, or_true]
            exact ⟨⟨.store a b m c, rfl, ha, hb, hmk, hc⟩, d4, k1.trans (k2.trans (k3.trans k4))⟩
          · simp_arith [Ly.v_fld, Ly.v_meth, Ly.k_me2, Ly.v_make, Ly.k_mk, Ly.v_fldset, Ly.k_fs, Ly.v_fldaug, Ly.k_fa2, Ly.look1, List.mem_cons, List.not_mem_nil, or_false, true_or, or_true, oLt_int, h5]
            by_cases h6 : (p : Int) = 14
            · simp_arith [Ly.v_fld, Ly.v_meth, Ly.k_me2, Ly.v_make, Ly.k_mk, Ly.v_fldset, Ly.k_fs, Ly.v_fldaug, Ly.k_fa2, Ly.look1, List.mem_cons, List.not_mem_nil, or_false, true_or, or_true, oEq_int, h6]
              refine rgn d1 fun a S3 ha d3 k3 => ?_
              simp_arith [Ly.v_fld, Ly.v_meth, Ly.k_me2, Ly.v_make, Ly.k_mk, Ly.v_fldset, Ly.k_fs, Ly.v_fldaug, Ly.k_fa2, Ly.look1, List.mem_cons, List.not_mem_nil, or_false, true_or, or_true]
              exact ⟨⟨.out a, rfl, ha⟩, d3, k1.trans k3⟩
            · simp_arith [Ly.v_fld, Ly.v_meth, Ly.k_me2, Ly.v_make, Ly.k_mk, Ly.v_fldset, Ly.k_fs, Ly.v_fldaug, Ly.k_fa2, Ly.look1, List.mem_cons, List.not_mem_nil, or_false, true_or, or_true, oEq_int, h6]
              by_cases h7 : (p : Int) = 15
              · simp_arith [Ly.v_fld, Ly.v_meth, Ly.k_me2, Ly.v_make, Ly.k_mk, Ly.v_fldset, Ly.k_fs, Ly.v_fldaug, Ly.k_fa2, Ly.look1, List.mem_cons, List.not_mem_nil, or_false, true_or, or_true, h7, oSub_int, oAdd_int]
                refine nx d1 (by decide) fun x S2 hx d2 k2 _ => ?_
                obtain ⟨t, ht, htm⟩ := min_ok (at' := k) (x := x) hm (S := S2)
                simp_arith [Ly.v_fld, Ly.v_meth, Ly.k_me2, Ly.v_make, Ly.k_mk, Ly.v_fldset, Ly.k_fs, Ly.v_fldaug, Ly.k_fa2, Ly.look1, List.mem_cons, List.not_mem_nil, or_false, true_or, or_true, oAdd_int, ht]
                exact ⟨⟨.jump t, rfl, htm⟩, d2, k1.trans k2⟩
              · simp_arith [Ly.v_fld, Ly.v_meth, Ly.k_me2, Ly.v_make, Ly.k_mk, Ly.v_fldset, Ly.k_fs, Ly.v_fldaug, Ly.k_fa2, Ly.look1, List.mem_cons, List.not_mem_nil, or_false, true_or, or_true, h7]
                have br : ∀ {S2 : Hs}, DrwN S2 i j → Kp [i] S S2 → Wp NoX (m_Nregister [.ref i] S2) fun v S3 => ∃ a : Nat, v = nD a ∧ a < 16 ∧ DrwN S3 i j ∧ Kp [i] S S3 := fun d2 k2 => by
                  refine rgn d2 fun a S3 ha d3 k3 => ⟨a, rfl, ha, d3, k2.trans k3⟩
                by_cases h8 : (p : Int) = 16
                · simp_arith [Ly.v_fld, Ly.v_meth, Ly.k_me2, Ly.v_make, Ly.k_mk, Ly.v_fldset, Ly.k_fs, Ly.v_fldaug, Ly.k_fa2, Ly.look1, List.mem_cons, List.not_mem_nil, or_false, true_or, or_true, oEq_int, h8]
                  refine nx d1 (by decide) fun x S2 hx d2 k2 _ => ?_
                  by_cases h9 : (x : Int) = 0
                  · simp_arith [Ly.v_fld, Ly.v_meth, Ly.k_me2, Ly.v_make, Ly.k_mk, Ly.v_fldset, Ly.k_fs, Ly.v_fldaug, Ly.k_fa2, Ly.look1, List.mem_cons, List.not_mem_nil, or_false, true_or, or_true, h9, oEq_int]
                    refine rgn d2 fun a S3 ha d3 k3 => ?_
                    simp_arith [Ly.v_fld, Ly.v_meth, Ly.k_me2, Ly.v_make, Ly.k_mk, Ly.v_fldset, Ly.k_fs, Ly.v_fldaug, Ly.k_fa2, Ly.look1, List.mem_cons, List.not_mem_nil, or_false, true_or, or_true]
                    exact ⟨⟨.stop a, rfl, ha⟩, d3, k1.trans (k2.trans k3)⟩
                  · simp_arith [Ly.v_fld, Ly.v_meth, Ly.k_me2, Ly.v_make, Ly.k_mk, Ly.v_fldset, Ly.k_fs, Ly.v_fldaug, Ly.k_fa2, Ly.look1, List.mem_cons, List.not_mem_nil, or_false, true_or, or_true, h9, oEq_int, show ¬ (p : Int) = 17 by omega]
                    refine rgn d2 fun a S3 ha d3 k3 => ?_
                    simp_arith [Ly.v_fld, Ly.v_meth, Ly.k_me2, Ly.v_make, Ly.k_mk, Ly.v_fldset, Ly.k_fs, Ly.v_fldaug, Ly.k_fa2, Ly.look1, List.mem_cons, List.not_mem_nil, or_false, true_or, or_true, oSub_int, oAdd_int]
                    refine nx d3 (by decide) fun y S4 hy d4 k4 _ => ?_
                    obtain ⟨t, ht, htm⟩ := min_ok (at' := k) (x := y) hm (S := S4)
                    simp_arith [Ly.v_fld, Ly.v_meth, Ly.k_me2, Ly.v_make, Ly.k_mk, Ly.v_fldset, Ly.k_fs, Ly.v_fldaug, Ly.k_fa2, Ly.look1, List.mem_cons, List.not_mem_nil, or_false, true_or, or_true, oAdd_int, ht]
                    exact ⟨⟨.branch a t, rfl, ha, htm⟩, d4, k1.trans (k2.trans (k3.trans k4))⟩
                · simp_arith [Ly.v_fld, Ly.v_meth, Ly.k_me2, Ly.v_make, Ly.k_mk, Ly.v_fldset, Ly.k_fs, Ly.v_fldaug, Ly.k_fa2, Ly.look1, List.mem_cons, List.not_mem_nil, or_false, true_or, or_true, oEq_int, h8]
                  by_cases h10 : (p : Int) = 17
                  · simp_arith [Ly.v_fld, Ly.v_meth, Ly.k_me2, Ly.v_make, Ly.k_mk, Ly.v_fldset, Ly.k_fs, Ly.v_fldaug, Ly.k_fa2, Ly.look1, List.mem_cons, List.not_mem_nil, or_false, true_or, or_true, oEq_int, h10]
                    refine rgn d1 fun a S3 ha d3 k3 => ?_
                    simp_arith [Ly.v_fld, Ly.v_meth, Ly.k_me2, Ly.v_make, Ly.k_mk, Ly.v_fldset, Ly.k_fs, Ly.v_fldaug, Ly.k_fa2, Ly.look1, List.mem_cons, List.not_mem_nil, or_false, true_or, or_true]
                    refine nx d3 hmi fun y S4 hy d4 k4 _ => ?_
                    simp_arith [Ly.v_fld, Ly.v_meth, Ly.k_me2, Ly.v_make, Ly.k_mk, Ly.v_fldset, Ly.k_fs, Ly.v_fldaug, Ly.k_fa2, Ly.look1, List.mem_cons, List.not_mem_nil, or_false, true_or, or_true]
                    exact ⟨⟨.branch a y, rfl, ha, by omega⟩, d4, k1.trans (k3.trans k4)⟩
                  · simp_arith [Ly.v_fld, Ly.v_meth, Ly.k_me2, Ly.v_make, Ly.k_mk, Ly.v_fldset, Ly.k_fs, Ly.v_fldaug, Ly.k_fa2, Ly.look1, List.mem_cons, List.not_mem_nil, or_false, true_or, or_true, oEq_int, h10]
                    refine rgn d1 fun a S3 ha d3 k3 => ?_
                    simp_arith [Ly.v_fld, Ly.v_meth, Ly.k_me2, Ly.v_make, Ly.k_mk, Ly.v_fldset, Ly.k_fs, Ly.v_fldaug, Ly.k_fa2, Ly.look1, List.mem_cons, List.not_mem_nil, or_false, true_or, or_true, oSub_int, oAdd_int]
                    refine nx d3 (by decide) fun y S4 hy d4 k4 _ => ?_
                    obtain ⟨t, ht, htm⟩ := min_ok (at' := k) (x := y) hm (S := S4)
                    simp_arith [Ly.v_fld, Ly.v_meth, Ly.k_me2, Ly.v_make, Ly.k_mk, Ly.v_fldset, Ly.k_fs, Ly.v_fldaug, Ly.k_fa2, Ly.look1, List.mem_cons, List.not_mem_nil, or_false, true_or, or_true, oAdd_int, ht]
                    exact ⟨⟨.branch a t, rfl, ha, htm⟩, d4, k1.trans (k3.trans k4)⟩
theorem contig_add {b : Nat} {xs : List Rg} {r : Rg} (h : Contig b xs) (hb : r.base = b + sizes xs) (hs : 0 < r.size) : Contig b (xs ++ [r]) := by
  induction xs generalizing b with
  | nil => exact ⟨by simpa [sizes] using hb, hs, trivial⟩
  | cons x xs ih =>
    obtain ⟨h1, h2, h3⟩ := h
    exact ⟨h1, h2, ih h3 (by rw [hb]; simp [sizes]; omega)⟩
theorem sizes_add {xs : List Rg} {r : Rg} : sizes (xs ++ [r]) = sizes xs + r.size := by simp [sizes]
theorem Nregions_ok (d : DrwN S i j) : Wp NoX (m_Nregions [.ref i] S) (Dw i j S fun v => ∃ regs : List Rg, v = .tup (regs.map Rg.D) ∧ Contig 0 regs ∧ sizes regs ≤ 150 ∧ 0 < regs.length ∧ regs.length ≤ 4) := by
  refine wp_def0 rfl ?_
  unfold b_Nregions
  simp_arith [Ly.v_fld, Ly.v_meth, Ly.k_me2, Ly.v_make, Ly.k_mk, Ly.v_fldset, Ly.k_fs, Ly.v_fldaug, Ly.k_fa2, Ly.look1, List.mem_cons, List.not_mem_nil, or_false, true_or, or_true, -v_for]
  have hdl := d.lt
  have hdj := d.ltj
  simp_arith [Ly.v_fld, Ly.v_meth, Ly.k_me2, Ly.v_make, Ly.k_mk, Ly.v_fldset, Ly.k_fs, Ly.v_fldaug, Ly.k_fa2, Ly.look1, List.mem_cons, List.not_mem_nil, or_false, true_or, or_true, -v_for, v_for]
  refine nx d.new (by decide) fun p S1 hp d1 k1 _ => ?_
  have hq : S1[S.length]? = some (.lst []) := k1.get (i := S.length) (by simp) (by simp; omega)
  simp_arith [Ly.v_fld, Ly.v_meth, Ly.k_me2, Ly.v_make, Ly.k_mk, Ly.v_fldset, Ly.k_fs, Ly.v_fldaug, Ly.k_fa2, Ly.look1, List.mem_cons, List.not_mem_nil, or_false, true_or, or_true, oAdd_int, show oRng1 [.int (1 + (p : Int))] S1 = _ from rng1 _ (by omega) (by omega)]
  rw [show (1 + (p : Int)).toNat = 1 + p by omega]
  refine wp_rng (fun k l S' => ∃ (regs : List Rg) (o3 o4 : Option D), l = [some (.ref i), some (.ref S.length), some (nD (sizes regs)), o3, o4] ∧ S'[S.length]? = some (.lst (regs.map Rg.D)) ∧ DrwN S' i j ∧ Kp [i] S S' ∧ Contig 0 regs ∧ sizes regs ≤ 31 * k ∧ regs.length = k) ⟨[], none, none, rfl, hq, d1, Kp.new.trans k1, trivial, by simp [sizes], rfl⟩ ?_ ?_
  · rintro k l S' hk ⟨regs, o3, o4, rfl, hq', d', K', hc, hsz, hln⟩
    unfold lb_Nregions_0
    simp_arith [Ly.v_fld, Ly.v_meth, Ly.k_me2, Ly.v_make, Ly.k_mk, Ly.v_fldset, Ly.k_fs, Ly.v_fldaug, Ly.k_fa2, Ly.look1, List.mem_cons, List.not_mem_nil, or_false, true_or, or_true, oAdd_int]
    refine nx d' (by decide) fun x S2 hx d2 k2 _ => ?_
    have hq2 := k2.get hq' (by simp; omega)
    simp_arith [Ly.v_fld, Ly.v_meth, Ly.k_me2, Ly.v_make, Ly.k_mk, Ly.v_fldset, Ly.k_fs, Ly.v_fldaug, Ly.k_fa2, Ly.look1, List.mem_cons, List.not_mem_nil, or_false, true_or, or_true, oAdd_int]
    refine nx d2.new (by decide) fun y S3 hy d3 k3 hl3 => ?_
    have h3l := d2.lt
    have hq3 := k3.get (i := S.length) (o := .lst (regs.map Rg.D)) (by rw [List.getElem?_append_left (Real.lt hq2)]; exact hq2) (by simp; omega)
    have hz : S3[S2.length]? = some (.lst [.int 1, .int 2, .int 4, .int 16, .int (1 + (x : Int))]) := k3.get (i := S2.length) (by simp) (by simp; omega)
    obtain ⟨m, hm, h0, h31⟩ : ∃ m : Nat, ([.int 1, .int 2, .int 4, .int 16, .int (1 + (x : Int))] : List D)[y]? = some (nD m) ∧ 0 < m ∧ m ≤ 31 := by
      rcases (show y = 0 ∨ y = 1 ∨ y = 2 ∨ y = 3 ∨ y = 4 by omega) with rfl | rfl | rfl | rfl | rfl
      · exact ⟨1, rfl, by decide, by decide⟩
      · exact ⟨2, rfl, by decide, by decide⟩
      · exact ⟨4, rfl, by decide, by decide⟩
      · exact ⟨16, rfl, by decide, by decide⟩
      · exact ⟨1 + x, by simp [nD], by omega, by omega⟩
    simp_arith [Ly.v_fld, Ly.v_meth, Ly.k_me2, Ly.v_make, Ly.k_mk, Ly.v_fldset, Ly.k_fs, Ly.v_fldaug, Ly.k_fa2, Ly.look1, List.mem_cons, List.not_mem_nil, or_false, true_or, or_true, oIx_lst hz (Int.natCast_nonneg y) (by simp; omega) hm, hasTy_lst hq3]
    refine nx d3.new (by decide) fun z S4 hz d4 k4 hl4 => ?_
    have hq4 := k4.get (i := S.length) (o := .lst (regs.map Rg.D)) (by rw [List.getElem?_append_left (Real.lt hq3)]; exact hq3) (by simp; omega)
    have hzz : S4[S3.length]? = some (.lst [.str "public", .str "secret"]) := k4.get (i := S3.length) (by simp) (by have := d3.lt; simp; omega)
    obtain ⟨lb, hlb⟩ : ∃ lb : Str, ([.str "public", .str "secret"] : List D)[z]? = some (.str lb) := by
      rcases (show z = 0 ∨ z = 1 by omega) with rfl | rfl
      · exact ⟨_, rfl⟩
      · exact ⟨_, rfl⟩
    have e1 : ((sizes regs : Nat) : Int) + (m : Int) = ((sizes regs + m : Nat) : Int) := by omega
    simp_arith [Ly.v_fld, Ly.v_meth, Ly.k_me2, Ly.v_make, Ly.k_mk, Ly.v_fldset, Ly.k_fs, Ly.v_fldaug, Ly.k_fa2, Ly.look1, List.mem_cons, List.not_mem_nil, or_false, true_or, or_true, oIx_lst hzz (Int.natCast_nonneg z) (by simp; omega) hlb, oAppend_lst hq4 (by simp only [List.length_map]; exact line_big (by omega)), oAdd_int, e1]
    have K4 : Kp [i] S S4 := K'.trans (k2.trans (Kp.new.trans (k3.trans (Kp.new.trans k4))))
    refine ⟨regs ++ [⟨sizes regs, m, lb⟩], _, _, by rw [sizes_add], ?_, d4.kp (A := [S.length]) (Kp.set (by simp)) (by simp; omega) (by simp; omega), K4.setNew (Nat.le_refl _), contig_add hc (by simp) h0, by rw [sizes_add]; simp only; omega, by simp [hln]⟩
    rw [get_put hq4]; simp [Rg.D]
  · rintro l S' ⟨regs, o3, o4, rfl, hq', d', K', hc, hsz, hln⟩
    simp_arith [Ly.v_fld, Ly.v_meth, Ly.k_me2, Ly.v_make, Ly.k_mk, Ly.v_fldset, Ly.k_fs, Ly.v_fldaug, Ly.k_fa2, Ly.look1, List.mem_cons, List.not_mem_nil, or_false, true_or, or_true, bTuple_lst hq']
    exact ⟨⟨regs, rfl, hc, by omega, by omega, by omega⟩, d', K'⟩
theorem regs_small {regs : List Rg} (hc : Contig 0 regs) (hs : sizes regs ≤ 150) : ∀ r ∈ regs, r.base ≤ 1000000 ∧ r.size ≤ 1000000 := fun r hr => by
  have := contig_bound hc r hr; omega
/-- code as it is drawn -/
structure CodeN (regs : List Rg) (rows : List MRow) : Prop where
  ok : CodeOk regs rows
  sz : sizes regs ≤ 150
  pos : 0 < regs.length
  few : regs.length ≤ 4
  short : rows.length ≤ 60
theorem Ncode_ok (d : DrwN S i j) : Wp NoX (m_Ncode [.ref i] S) (Dw i j S fun v => ∃ regs rows, v = codeD regs rows ∧ CodeN regs rows) := by
  refine wp_def0 rfl ?_
  unfold b_Ncode
  simp_arith [Ly.v_fld, Ly.v_meth, Ly.k_me2, Ly.v_make, Ly.k_mk, Ly.v_fldset, Ly.k_fs, Ly.v_fldaug, Ly.k_fa2, Ly.look1, List.mem_cons, List.not_mem_nil, or_false, true_or, or_true]
  refine Wp.call (Nregions_ok d) ?_
  rintro _ S1 ⟨⟨regs, rfl, hc, hsz, hpos, hfew⟩, d1, k1⟩
  simp_arith [Ly.v_fld, Ly.v_meth, Ly.k_me2, Ly.v_make, Ly.k_mk, Ly.v_fldset, Ly.k_fs, Ly.v_fldaug, Ly.k_fa2, Ly.look1, List.mem_cons, List.not_mem_nil, or_false, true_or, or_true]
  refine nx d1.new (by decide) fun p S2 hp d2 k2 _ => ?_
  have h1l := d1.lt
  have hq : S2[S1.length]? = some (.lst [.int 2, .int 8, .int 30]) := k2.get (i := S1.length) (by simp) (by simp; omega)
  obtain ⟨m, hm, h0, h16⟩ : ∃ m : Nat, ([.int 2, .int 8, .int 30] : List D)[p]? = some (nD m) ∧ 0 < m ∧ m ≤ 30 := by
    rcases (show p = 0 ∨ p = 1 ∨ p = 2 by omega) with rfl | rfl | rfl
    · exact ⟨2, rfl, by decide, by decide⟩
    · exact ⟨8, rfl, by decide, by decide⟩
    · exact ⟨30, rfl, by decide, by decide⟩
  simp_arith [Ly.v_fld, Ly.v_meth, Ly.k_me2, Ly.v_make, Ly.k_mk, Ly.v_fldset, Ly.k_fs, Ly.v_fldaug, Ly.k_fa2, Ly.look1, List.mem_cons, List.not_mem_nil, or_false, true_or, or_true, oIx_lst hq (Int.natCast_nonneg p) (by simp; omega) hm, oAdd_int]
  refine nx d2 (by decide) fun x S3 hx d3 k3 _ => ?_
  have e : (1 : Int) + (m : Int) + (x : Int) = ((1 + m + x : Nat) : Int) := by omega
  have e2 : ((1 + m + x : Nat) : Int) - 1 = ((m + x : Nat) : Int) := by omega
  simp_arith [Ly.v_fld, Ly.v_meth, Ly.k_me2, Ly.v_make, Ly.k_mk, Ly.v_fldset, Ly.k_fs, Ly.v_fldaug, Ly.k_fa2, Ly.look1, List.mem_cons, List.not_mem_nil, or_false, true_or, or_true, oAdd_int, e, oSub_int, e2, show oRng1 [.int ((m + x : Nat) : Int)] S3 = _ from rng1 _ (by omega) (by omega), wipe1, Int.toNat_natCast]
  refine lc_drawN (i := i) (j := j) MRow.D (fun _ r => r.ok (1 + m + x)) d3 (by omega) ?_ ?_
  · intro k S' hk d' k'
    simp_arith [Ly.v_fld, Ly.v_meth, Ly.k_me2, Ly.v_make, Ly.k_mk, Ly.v_fldset, Ly.k_fs, Ly.v_fldaug, Ly.k_fa2, Ly.look1, List.mem_cons, List.not_mem_nil, or_false, true_or, or_true]
    have e0 : (0 : Int) + (k : Int) = ((k : Nat) : Int) := by omega
    rw [e0]
    refine Wp.call (Nrow_ok d' hpos (by omega) (regs_small hc hsz) (k := k) (many := 1 + m + x) (by omega)) ?_
    rintro _ S4 ⟨⟨r, rfl, hr⟩, d4, k4⟩
    exact ⟨r, rfl, hr, d4, k4⟩
  · intro rows S4 hln hok hq4 d4 k4
    have K4 : Kp [i] S S4 := k1.trans (Kp.new.trans (k2.trans (k3.trans k4)))
    have hbig : (rows.map MRow.D).length < sizeLine := by simp only [List.length_map]; exact line_big (by omega)
    have i3 := d3.lt
    simp_arith [Ly.v_fld, Ly.v_meth, Ly.k_me2, Ly.v_make, Ly.k_mk, Ly.v_fldset, Ly.k_fs, Ly.v_fldaug, Ly.k_fa2, Ly.look1, List.mem_cons, List.not_mem_nil, or_false, true_or, or_true]
    refine nx d4 (by decide) fun y S5 hy d5 k5 _ => ?_
    have hq5 := k5.get hq4 (by simp; omega)
    have hfin : ∀ {S6 : Hs} (r : MRow), r.ok (1 + m + x) → r.last = true → CodeN regs (rows ++ [r]) := fun {S6} r hr1 hr2 => by
      refine ⟨⟨hc, by omega, ?_, by simp, by simp; omega, ?_⟩, hsz, hpos, hfew, by simp; omega⟩
      · intro r' hr'
        have hl : (rows ++ [r]).length = 1 + m + x := by simp [hln]; omega
        rw [hl]
        rcases List.mem_append.mp hr' with h | h
        · obtain ⟨n, hn⟩ := List.getElem?_of_mem h
          exact hok n r' hn
        · rw [List.mem_singleton.mp h]; exact hr1
      · intro r' hr'
        rw [show (rows ++ [r]).length - 1 = rows.length by simp, List.getElem?_append_right (Nat.le_refl _), Nat.sub_self] at hr'
        simp at hr'
        rw [← hr']; exact hr2
    by_cases h9 : (y : Int) = 0
    · simp_arith [Ly.v_fld, Ly.v_meth, Ly.k_me2, Ly.v_make, Ly.k_mk, Ly.v_fldset, Ly.k_fs, Ly.v_fldaug, Ly.k_fa2, Ly.look1, List.mem_cons, List.not_mem_nil, or_false, true_or, or_true, oEq_int, h9, hasTy_lst hq5]
      refine nx d5 (by omega) fun z S6 hz d6 k6 _ => ?_
      have hq6 := k6.get hq5 (by simp; omega)
      have hq7 := get_put (u := .lst (rows.map MRow.D ++ [.tup [.str "jump", nD z]])) hq6
      simp_arith [Ly.v_fld, Ly.v_meth, Ly.k_me2, Ly.v_make, Ly.k_mk, Ly.v_fldset, Ly.k_fs, Ly.v_fldaug, Ly.k_fa2, Ly.look1, List.mem_cons, List.not_mem_nil, or_false, true_or, or_true, oAppend_lst hq6 hbig, bTuple_lst hq7]
      refine ⟨⟨regs, rows ++ [.jump z], by simp [codeD, MRow.D], hfin (S6 := S) (.jump z) (by show z < _; omega) rfl⟩, d6.kp (A := [S3.length]) (Kp.set (by simp)) (by simp; omega) (by have := d3.ltj; simp; omega), ?_⟩
      exact (K4.trans (k5.trans k6)).setNew (by have := (k1.trans (Kp.new.trans (k2.trans k3)) : Kp [i] S S3).le; omega)
    · simp_arith [Ly.v_fld, Ly.v_meth, Ly.k_me2, Ly.v_make, Ly.k_mk, Ly.v_fldset, Ly.k_fs, Ly.v_fldaug, Ly.k_fa2, Ly.look1, List.mem_cons, List.not_mem_nil, or_false, true_or, or_true, oEq_int, h9, hasTy_lst hq5]
      refine rgn d5 fun z S6 hz d6 k6 => ?_
      have hq6 := k6.get hq5 (by simp; omega)
      have hq7 := get_put (u := .lst (rows.map MRow.D ++ [.tup [.str "stop", nD z]])) hq6
      simp_arith [Ly.v_fld, Ly.v_meth, Ly.k_me2, Ly.v_make, Ly.k_mk, Ly.v_fldset, Ly.k_fs, Ly.v_fldaug, Ly.k_fa2, Ly.look1, List.mem_cons, List.not_mem_nil, or_false, true_or, or_true, oAppend_lst hq6 hbig, bTuple_lst hq7]
      refine ⟨⟨regs, rows ++ [.stop z], by simp [codeD, MRow.D], hfin (S6 := S) (.stop z) (by show z < _; omega) rfl⟩, d6.kp (A := [S3.length]) (Kp.set (by simp)) (by simp; omega) (by have := d3.ltj; simp; omega), ?_⟩
      exact (K4.trans (k5.trans k6)).setNew (by have := (k1.trans (Kp.new.trans (k2.trans k3)) : Kp [i] S S3).le; omega)
theorem Ncontents_ok (d : DrwN S i j) {regs : List Rg} {rows : List MRow} (c : CodeN regs rows) : Wp NoX (m_Ncontents [.ref i, codeD regs rows] S) (Dw i j S fun v => ∃ cs, v = contD cs ∧ ContOk regs cs) := by
  refine wp_def0 rfl ?_
  unfold b_Ncontents
  have hdl := d.lt
  have hdj := d.ltj
  simp_arith [Ly.v_fld, Ly.v_meth, Ly.k_me2, Ly.v_make, Ly.k_mk, Ly.v_fldset, Ly.k_fs, Ly.v_fldaug, Ly.k_fa2, Ly.look1, List.mem_cons, List.not_mem_nil, or_false, true_or, or_true, codeD, tix0, oIt, wipe1]
  refine wp_lcTupM Rg.D (xs := regs) (fun pre acc S' => ∃ cs : List (List Nat), acc = (cs.map fun c => D.tup (c.map nD)) ∧ cs.map (·.length) = pre.map (·.size) ∧ (∀ c ∈ cs, ∀ w ∈ c, w < 4294967296) ∧ S'[S.length]? = some (.lst acc) ∧ DrwN S' i j ∧ Kp [i] S S') ⟨[], rfl, rfl, by simp, by simp, d.new, Kp.new⟩ ?_ ?_
  · rintro pre r post acc S' hsp ⟨cs, rfl, hl, hw, hq, d', K'⟩
    have hr : r ∈ regs := by rw [hsp]; simp
    have hb := contig_bound c.ok.cg r hr
    have hsz := c.sz
    have hil := d'.lt
    have hjl := d'.ltj
    refine ⟨[some (.ref i), some (.tup [.tup (regs.map Rg.D), .tup (rows.map MRow.D)]), some (nD r.base), some (nD r.size), some (.str r.label), none], rfl, ?_⟩
    simp_arith [Ly.v_fld, Ly.v_meth, Ly.k_me2, Ly.v_make, Ly.k_mk, Ly.v_fldset, Ly.k_fs, Ly.v_fldaug, Ly.k_fa2, Ly.look1, List.mem_cons, List.not_mem_nil, or_false, true_or, or_true, show oRng1 [.int (r.size : Int)] S' = _ from rng1 _ (by omega) (by omega), wipe1, Int.toNat_natCast]
    refine lc_drawN (i := i) (j := j) nD (fun _ w => w < 4294967296) d' (by omega) ?_ ?_
    · intro k S2 hk d2 k2
      simp_arith [Ly.v_fld, Ly.v_meth, Ly.k_me2, Ly.v_make, Ly.k_mk, Ly.v_fldset, Ly.k_fs, Ly.v_fldaug, Ly.k_fa2, Ly.look1, List.mem_cons, List.not_mem_nil, or_false, true_or, or_true]
      refine wdn d2 fun a S3 ha d3 k3 => ⟨a, rfl, ha, d3, k3⟩
    · intro xs S2 hxl hxs hq2 d2 k2
      have hq3 := k2.get hq (by simp; omega)
      simp_arith [Ly.v_fld, Ly.v_meth, Ly.k_me2, Ly.v_make, Ly.k_mk, Ly.v_fldset, Ly.k_fs, Ly.v_fldaug, Ly.k_fa2, Ly.look1, List.mem_cons, List.not_mem_nil, or_false, true_or, or_true, bTuple_lst hq2]
      refine ⟨hq3, ?_, cs ++ [xs], by simp, by simp [hl, hxl], ?_, get_put hq3, d2.kp (A := [S.length]) (Kp.set (by simp)) (by simp; omega) (by simp; omega), (K'.trans k2).setNew (Nat.le_refl _)⟩
      · simp only [List.length_map]
        have : cs.length = pre.length := by have := congrArg List.length hl; simpa using this
        have h2 : pre.length ≤ regs.length := by rw [hsp]; simp
        have := c.few
        exact line_big (by omega)
      · intro z hz w hwz
        rcases List.mem_append.mp hz with h | h
        · exact hw z h w hwz
        · rw [List.mem_singleton.mp h] at hwz
          obtain ⟨n, hn⟩ := List.getElem?_of_mem hwz
          exact hxs n w hn
  · rintro acc S' ⟨cs, rfl, hl, hw, hq, d', K'⟩
    simp_arith [Ly.v_fld, Ly.v_meth, Ly.k_me2, Ly.v_make, Ly.k_mk, Ly.v_fldset, Ly.k_fs, Ly.v_fldaug, Ly.k_fa2, Ly.look1, List.mem_cons, List.not_mem_nil, or_false, true_or, or_true, bTuple_lst hq]
    exact ⟨⟨cs, rfl, hl, hw⟩, d', K'⟩
end
/-! ### the law's own machine -/
theorem disp_endG {ps : List (D × D)} {kvs : List (Key × D)} {Q : D → Hs → Prop} {S : Hs} {q : Nat} (h0 : S[q]? = some (.dic [])) (h1 : keysP ps = some kvs) (h2 : kvs.length ≤ 15) (h3 : mergeD [] kvs = kvs) (hQ : Q (.ref q) (S.set q (.dic kvs))) : dsK q Q ps S := by
  refine ⟨kvs, h1, h0, h2, ?_⟩
  rw [h3]; exact hQ
theorem dsp3 {k1 k2 k3 : Str} {d1 d2 d3 : D} {Q : D → Hs → Prop} {S : Hs} (h12 : k2 ≠ k1) (h13 : k3 ≠ k1) (h23 : k3 ≠ k2) (hQ : Q (.ref S.length) (S ++ [.dic [(.inr k1, d1), (.inr k2, d2), (.inr k3, d3)]])) : dsK S.length Q [(.str k1, d1), (.str k2, d2), (.str k3, d3)] (S ++ [.dic []]) := by
  refine disp_end (kvs := [(.inr k1, d1), (.inr k2, d2), (.inr k3, d3)]) (by simp [keysP, D.key]) (by simp) (by simp [mergeD, setK, h12.symm, h13.symm, h23.symm]) hQ
theorem dsp2 {k1 k2 : Str} {d1 d2 : D} {Q : D → Hs → Prop} {S : Hs} (h12 : k2 ≠ k1) (hQ : Q (.ref S.length) (S ++ [.dic [(.inr k1, d1), (.inr k2, d2)]])) : dsK S.length Q [(.str k1, d1), (.str k2, d2)] (S ++ [.dic []]) := by
  refine disp_end (kvs := [(.inr k1, d1), (.inr k2, d2)]) (by simp [keysP, D.key]) (by simp) (by simp [mergeD, setK, h12.symm]) hQ
theorem last_ix {S : Hs} {kvs : List (Key × D)} {s : Str} {d : D} (h : getK kvs (.inr s) = some d) : oIx (.ref S.length) (.str s) (S ++ [.dic kvs]) = .ok d (S ++ [.dic kvs]) := oIx_dic (kvs := kvs) (by simp) key_str h
theorem ix31 {S : Hs} {k1 k2 k3 : Str} {d1 d2 d3 : D} : oIx (.ref S.length) (.str k1) (S ++ [.dic [(.inr k1, d1), (.inr k2, d2), (.inr k3, d3)]]) = .ok d1 (S ++ [.dic [(.inr k1, d1), (.inr k2, d2), (.inr k3, d3)]]) := last_ix (by simp [getK])
theorem ix32 {S : Hs} {k1 k2 k3 : Str} {d1 d2 d3 : D} (h : ¬ k1 = k2) : oIx (.ref S.length) (.str k2) (S ++ [.dic [(.inr k1, d1), (.inr k2, d2), (.inr k3, d3)]]) = .ok d2 (S ++ [.dic [(.inr k1, d1), (.inr k2, d2), (.inr k3, d3)]]) := last_ix (by simp [getK, h])
theorem ix33 {S : Hs} {k1 k2 k3 : Str} {d1 d2 d3 : D} (h : ¬ k1 = k3) (h2 : ¬ k2 = k3) : oIx (.ref S.length) (.str k3) (S ++ [.dic [(.inr k1, d1), (.inr k2, d2), (.inr k3, d3)]]) = .ok d3 (S ++ [.dic [(.inr k1, d1), (.inr k2, d2), (.inr k3, d3)]]) := last_ix (by simp [getK, h, h2])
theorem ix21 {S : Hs} {k1 k2 : Str} {d1 d2 : D} : oIx (.ref S.length) (.str k1) (S ++ [.dic [(.inr k1, d1), (.inr k2, d2)]]) = .ok d1 (S ++ [.dic [(.inr k1, d1), (.inr k2, d2)]]) := last_ix (by simp [getK])
theorem ix22 {S : Hs} {k1 k2 : Str} {d1 d2 : D} (h : ¬ k1 = k2) : oIx (.ref S.length) (.str k2) (S ++ [.dic [(.inr k1, d1), (.inr k2, d2)]]) = .ok d2 (S ++ [.dic [(.inr k1, d1), (.inr k2, d2)]]) := last_ix (by simp [getK, h])
theorem bInt_bl {b : Bool} {S : Hs} : bInt [.bl b] S = .ok (.int (if b = true then 1 else 0)) S := by cases b <;> rfl
section
variable {S : Hs} {a b : Nat}
theorem Napply_ok {s : Str} (hs : s ∈ signsL) (ha : a < 4294967296) (hb : b < 4294967296) : Wp NoX (m_Napply [.str s, nD a, nD b] S) fun v S' => v = nD (opN s a b) ∧ Kp [] S S' := by
  refine wp_def0 rfl ?_
  unfold b_Napply
  simp only [signsL, List.mem_cons, List.not_mem_nil, or_false] at hs
  have ne : ∀ x y : String, x ≠ y → ¬ ((Str.ofString x) = Str.ofString y) := fun x y h e => h (by simpa [ofString_inj] using e)
  have e32 : (b : Int) % 32 = ((b % 32 : Nat) : Int) := by omega
  have e32b : b % 32 ≤ 1000000 := by omega
  have h2p : 0 < 2 ^ (b % 32) := Nat.two_pow_pos _
  have h2l : 2 ^ (b % 32) < 4294967296 := by
    have : 2 ^ (b % 32) ≤ 2 ^ 31 := Nat.pow_le_pow_right (by decide) (by omega)
    have e : (2:Nat)^31 = 2147483648 := by decide
    omega
  rcases hs with rfl | rfl | rfl | rfl | rfl | rfl | rfl | rfl | rfl | rfl | rfl | rfl | rfl
  · simp_arith [Ly.v_fld, Ly.v_meth, Ly.k_me2, Ly.v_make, Ly.k_mk, Ly.v_fldset, Ly.k_fs, Ly.v_fldaug, Ly.k_fa2, Ly.look1, List.mem_cons, List.not_mem_nil, or_false, true_or, or_true, oIn_new3, ofString_inj, String.reduceEq]
    refine v_disp ?_
    simp_arith [Ly.v_fld, Ly.v_meth, Ly.k_me2, Ly.v_make, Ly.k_mk, Ly.v_fldset, Ly.k_fs, Ly.v_fldaug, Ly.k_fa2, Ly.look1, List.mem_cons, List.not_mem_nil, or_false, true_or, or_true, v_dpCons, k_dp, k_dp2, v_dpNil, k_dp3, oAdd_int, oSub_int, oMul_int (mulok_r (nat64 hb))]
    refine dsp3 (ne _ _ (by decide)) (ne _ _ (by decide)) (ne _ _ (by decide)) ?_
    simp_arith [Ly.v_fld, Ly.v_meth, Ly.k_me2, Ly.v_make, Ly.k_mk, Ly.v_fldset, Ly.k_fs, Ly.v_fldaug, Ly.k_fa2, Ly.look1, List.mem_cons, List.not_mem_nil, or_false, true_or, or_true, ix31, bInt_int, oMod_int (show (0:Int) < 4294967296 by decide)]
    exact ⟨by simp [opN, nD], Kp.new.app⟩
  · simp_arith [Ly.v_fld, Ly.v_meth, Ly.k_me2, Ly.v_make, Ly.k_mk, Ly.v_fldset, Ly.k_fs, Ly.v_fldaug, Ly.k_fa2, Ly.look1, List.mem_cons, List.not_mem_nil, or_false, true_or, or_true, oIn_new3, ofString_inj, String.reduceEq]
    refine v_disp ?_
    simp_arith [Ly.v_fld, Ly.v_meth, Ly.k_me2, Ly.v_make, Ly.k_mk, Ly.v_fldset, Ly.k_fs, Ly.v_fldaug, Ly.k_fa2, Ly.look1, List.mem_cons, List.not_mem_nil, or_false, true_or, or_true, v_dpCons, k_dp, k_dp2, v_dpNil, k_dp3, oAdd_int, oSub_int, oMul_int (mulok_r (nat64 hb))]
    refine dsp3 (ne _ _ (by decide)) (ne _ _ (by decide)) (ne _ _ (by decide)) ?_
    simp_arith [Ly.v_fld, Ly.v_meth, Ly.k_me2, Ly.v_make, Ly.k_mk, Ly.v_fldset, Ly.k_fs, Ly.v_fldaug, Ly.k_fa2, Ly.look1, List.mem_cons, List.not_mem_nil, or_false, true_or, or_true, ix32 (ne _ _ (show "+" ≠ "-" by decide)), bInt_int, oMod_int (show (0:Int) < 4294967296 by decide)]
    refine ⟨?_, Kp.new.app⟩
    have : ((opN "-" a b : Nat) : Int) = ((a : Int) - (b : Int)) % 4294967296 := by
      simp only [opN, ofString_inj, String.reduceEq, if_false, if_true]
      omega
    rw [← this]
  · simp_arith [Ly.v_fld, Ly.v_meth, Ly.k_me2, Ly.v_make, Ly.k_mk, Ly.v_fldset, Ly.k_fs, Ly.v_fldaug, Ly.k_fa2, Ly.look1, List.mem_cons, List.not_mem_nil, or_false, true_or, or_true, oIn_new3, ofString_inj, String.reduceEq]
    refine v_disp ?_
    simp_arith [Ly.v_fld, Ly.v_meth, Ly.k_me2, Ly.v_make, Ly.k_mk, Ly.v_fldset, Ly.k_fs, Ly.v_fldaug, Ly.k_fa2, Ly.look1, List.mem_cons, List.not_mem_nil, or_false, true_or, or_true, v_dpCons, k_dp, k_dp2, v_dpNil, k_dp3, oAdd_int, oSub_int, oMul_int (mulok_r (nat64 hb))]
    refine dsp3 (ne _ _ (by decide)) (ne _ _ (by decide)) (ne _ _ (by decide)) ?_
    simp_arith [Ly.v_fld, Ly.v_meth, Ly.k_me2, Ly.v_make, Ly.k_mk, Ly.v_fldset, Ly.k_fs, Ly.v_fldaug, Ly.k_fa2, Ly.look1, List.mem_cons, List.not_mem_nil, or_false, true_or, or_true, ix33 (ne _ _ (show "+" ≠ "*" by decide)) (ne _ _ (show "-" ≠ "*" by decide)), bInt_int, oMod_int (show (0:Int) < 4294967296 by decide)]
    exact ⟨by simp [opN, nD, ofString_inj], Kp.new.app⟩
  · simp_arith [Ly.v_fld, Ly.v_meth, Ly.k_me2, Ly.v_make, Ly.k_mk, Ly.v_fldset, Ly.k_fs, Ly.v_fldaug, Ly.k_fa2, Ly.look1, List.mem_cons, List.not_mem_nil, or_false, true_or, or_true, oIn_new3, ofString_inj, String.reduceEq]
    refine v_disp ?_
    simp_arith [Ly.v_fld, Ly.v_meth, Ly.k_me2, Ly.v_make, Ly.k_mk, Ly.v_fldset, Ly.k_fs, Ly.v_fldaug, Ly.k_fa2, Ly.look1, List.mem_cons, List.not_mem_nil, or_false, true_or, or_true, v_dpCons, k_dp, k_dp2, v_dpNil, k_dp3, oAnd_int, PySem.W.os_band, oOr_int, bit_or, oXor_int, bit_xor (show a < 2 ^ 32 by rw [pow_big (n := 0)]; exact ha) (show b < 2 ^ 32 by rw [pow_big (n := 0)]; exact hb)]
    refine dsp3 (ne _ _ (by decide)) (ne _ _ (by decide)) (ne _ _ (by decide)) ?_
    simp_arith [Ly.v_fld, Ly.v_meth, Ly.k_me2, Ly.v_make, Ly.k_mk, Ly.v_fldset, Ly.k_fs, Ly.v_fldaug, Ly.k_fa2, Ly.look1, List.mem_cons, List.not_mem_nil, or_false, true_or, or_true, ix31]
    exact ⟨by simp [opN, nD, ofString_inj], Kp.new.app.app⟩
  · simp_arith [Ly.v_fld, Ly.v_meth, Ly.k_me2, Ly.v_make, Ly.k_mk, Ly.v_fldset, Ly.k_fs, Ly.v_fldaug, Ly.k_fa2, Ly.look1, List.mem_cons, List.not_mem_nil, or_false, true_or, or_true, oIn_new3, ofString_inj, String.reduceEq]
    refine v_disp ?_
    simp_arith [Ly.v_fld, Ly.v_meth, Ly.k_me2, Ly.v_make, Ly.k_mk, Ly.v_fldset, Ly.k_fs, Ly.v_fldaug, Ly.k_fa2, Ly.look1, List.mem_cons, List.not_mem_nil, or_false, true_or, or_true, v_dpCons, k_dp, k_dp2, v_dpNil, k_dp3, oAnd_int, PySem.W.os_band, oOr_int, bit_or, oXor_int, bit_xor (show a < 2 ^ 32 by rw [pow_big (n := 0)]; exact ha) (show b < 2 ^ 32 by rw [pow_big (n := 0)]; exact hb)]
    refine dsp3 (ne _ _ (by decide)) (ne _ _ (by decide)) (ne _ _ (by decide)) ?_
    simp_arith [Ly.v_fld, Ly.v_meth, Ly.k_me2, Ly.v_make, Ly.k_mk, Ly.v_fldset, Ly.k_fs, Ly.v_fldaug, Ly.k_fa2, Ly.look1, List.mem_cons, List.not_mem_nil, or_false, true_or, or_true, ix32 (ne _ _ (show "&" ≠ "|" by decide))]
    exact ⟨by simp [opN, nD, ofString_inj], Kp.new.app.app⟩
  · simp_arith [Ly.v_fld, Ly.v_meth, Ly.k_me2, Ly.v_make, Ly.k_mk, Ly.v_fldset, Ly.k_fs, Ly.v_fldaug, Ly.k_fa2, Ly.look1, List.mem_cons, List.not_mem_nil, or_false, true_or, or_true, oIn_new3, ofString_inj, String.reduceEq]
    refine v_disp ?_
    simp_arith [Ly.v_fld, Ly.v_meth, Ly.k_me2, Ly.v_make, Ly.k_mk, Ly.v_fldset, Ly.k_fs, Ly.v_fldaug, Ly.k_fa2, Ly.look1, List.mem_cons, List.not_mem_nil, or_false, true_or, or_true, v_dpCons, k_dp, k_dp2, v_dpNil, k_dp3, oAnd_int, PySem.W.os_band, oOr_int, bit_or, oXor_int, bit_xor (show a < 2 ^ 32 by rw [pow_big (n := 0)]; exact ha) (show b < 2 ^ 32 by rw [pow_big (n := 0)]; exact hb)]
    refine dsp3 (ne _ _ (by decide)) (ne _ _ (by decide)) (ne _ _ (by decide)) ?_
    simp_arith [Ly.v_fld, Ly.v_meth, Ly.k_me2, Ly.v_make, Ly.k_mk, Ly.v_fldset, Ly.k_fs, Ly.v_fldaug, Ly.k_fa2, Ly.look1, List.mem_cons, List.not_mem_nil, or_false, true_or, or_true, ix33 (ne _ _ (show "&" ≠ "^" by decide)) (ne _ _ (show "|" ≠ "^" by decide))]
    exact ⟨by simp [opN, nD, ofString_inj], Kp.new.app.app⟩
  · simp_arith [Ly.v_fld, Ly.v_meth, Ly.k_me2, Ly.v_make, Ly.k_mk, Ly.v_fldset, Ly.k_fs, Ly.v_fldaug, Ly.k_fa2, Ly.look1, List.mem_cons, List.not_mem_nil, or_false, true_or, or_true, oIn_new3, oEq_str, ofString_inj, String.reduceEq, oMod_int (show (0:Int) < 32 by decide), e32, oShl_int (a := 1) (Int.natCast_nonneg (b % 32)) (Int.ofNat_le.mpr e32b) (by decide), Int.toNat_natCast, Int.one_mul, int_pow, oMul_int (mulok_r (nat64 h2l)), bInt_int, oMod_int (show (0:Int) < 4294967296 by decide)]
    refine ⟨?_, Kp.new.app⟩
    simp [opN, nD, ofString_inj]
  · simp_arith [Ly.v_fld, Ly.v_meth, Ly.k_me2, Ly.v_make, Ly.k_mk, Ly.v_fldset, Ly.k_fs, Ly.v_fldaug, Ly.k_fa2, Ly.look1, List.mem_cons, List.not_mem_nil, or_false, true_or, or_true, oIn_new3, oEq_str, ofString_inj, String.reduceEq, oMod_int (show (0:Int) < 32 by decide), e32, oShl_int (a := 1) (Int.natCast_nonneg (b % 32)) (Int.ofNat_le.mpr e32b) (by decide), Int.toNat_natCast, Int.one_mul, int_pow, oFdiv_int (show (0:Int) < ((2 ^ (b % 32) : Nat) : Int) by omega) (by rw [Int.natAbs_natCast]; exact log2_small h2l)]
    refine ⟨?_, Kp.new.app⟩
    simp [opN, nD, ofString_inj]
  · simp_arith [Ly.v_fld, Ly.v_meth, Ly.k_me2, Ly.v_make, Ly.k_mk, Ly.v_fldset, Ly.k_fs, Ly.v_fldaug, Ly.k_fa2, Ly.look1, List.mem_cons, List.not_mem_nil, or_false, true_or, or_true, oIn_new3, oEq_str, ofString_inj, String.reduceEq]
    refine v_disp ?_
    simp_arith [Ly.v_fld, Ly.v_meth, Ly.k_me2, Ly.v_make, Ly.k_mk, Ly.v_fldset, Ly.k_fs, Ly.v_fldaug, Ly.k_fa2, Ly.look1, List.mem_cons, List.not_mem_nil, or_false, true_or, or_true, v_dpCons, k_dp, k_dp2, v_dpNil, k_dp3, oEq_int, Int.natCast_inj, oLt_int, Int.ofNat_lt, oLe_int, Int.ofNat_le]
    refine dsp3 (ne _ _ (by decide)) (ne _ _ (by decide)) (ne _ _ (by decide)) ?_
    simp_arith [Ly.v_fld, Ly.v_meth, Ly.k_me2, Ly.v_make, Ly.k_mk, Ly.v_fldset, Ly.k_fs, Ly.v_fldaug, Ly.k_fa2, Ly.look1, List.mem_cons, List.not_mem_nil, or_false, true_or, or_true, ix31, bInt_bl]
    refine ⟨?_, Kp.new.app.app.app⟩
    by_cases h : a = b <;> simp [h, opN, nD, ofString_inj]
  · simp_arith [Ly.v_fld, Ly.v_meth, Ly.k_me2, Ly.v_make, Ly.k_mk, Ly.v_fldset, Ly.k_fs, Ly.v_fldaug, Ly.k_fa2, Ly.look1, List.mem_cons, List.not_mem_nil, or_false, true_or, or_true, oIn_new3, oEq_str, ofString_inj, String.reduceEq]
    refine v_disp ?_
    simp_arith [Ly.v_fld, Ly.v_meth, Ly.k_me2, Ly.v_make, Ly.k_mk, Ly.v_fldset, Ly.k_fs, Ly.v_fldaug, Ly.k_fa2, Ly.look1, List.mem_cons, List.not_mem_nil, or_false, true_or, or_true, v_dpCons, k_dp, k_dp2, v_dpNil, k_dp3, oEq_int, Int.natCast_inj, oLt_int, Int.ofNat_lt, oLe_int, Int.ofNat_le]
    refine dsp3 (ne _ _ (by decide)) (ne _ _ (by decide)) (ne _ _ (by decide)) ?_
    simp_arith [Ly.v_fld, Ly.v_meth, Ly.k_me2, Ly.v_make, Ly.k_mk, Ly.v_fldset, Ly.k_fs, Ly.v_fldaug, Ly.k_fa2, Ly.look1, List.mem_cons, List.not_mem_nil, or_false, true_or, or_true, ix32 (ne _ _ (show "==" ≠ "<" by decide)), bInt_bl]
    refine ⟨?_, Kp.new.app.app.app⟩
    by_cases h : a < b <;> simp [h, opN, nD, ofString_inj]
  · simp_arith [Ly.v_fld, Ly.v_meth, Ly.k_me2, Ly.v_make, Ly.k_mk, Ly.v_fldset, Ly.k_fs, Ly.v_fldaug, Ly.k_fa2, Ly.look1, List.mem_cons, List.not_mem_nil, or_false, true_or, or_true, oIn_new3, oEq_str, ofString_inj, String.reduceEq]
    refine v_disp ?_
    simp_arith [Ly.v_fld, Ly.v_meth, Ly.k_me2, Ly.v_make, Ly.k_mk, Ly.v_fldset, Ly.k_fs, Ly.v_fldaug, Ly.k_fa2, Ly.look1, List.mem_cons, List.not_mem_nil, or_false, true_or, or_true, v_dpCons, k_dp, k_dp2, v_dpNil, k_dp3, oEq_int, Int.natCast_inj, oLt_int, Int.ofNat_lt, oLe_int, Int.ofNat_le]
    refine dsp3 (ne _ _ (by decide)) (ne _ _ (by decide)) (ne _ _ (by decide)) ?_
    simp_arith [Ly.v_fld, Ly.v_meth, Ly.k_me2, Ly.v_make, Ly.k_mk, Ly.v_fldset, Ly.k_fs, Ly.v_fldaug, Ly.k_fa2, Ly.look1, List.mem_cons, List.not_mem_nil, or_false, true_or, or_true, ix33 (ne _ _ (show "==" ≠ "<=" by decide)) (ne _ _ (show "<" ≠ "<=" by decide)), bInt_bl]
    refine ⟨?_, Kp.new.app.app.app⟩
    by_cases h : a ≤ b <;> simp [h, opN, nD, ofString_inj]
  · by_cases h : b = 0
    · subst h
      simp_arith [Ly.v_fld, Ly.v_meth, Ly.k_me2, Ly.v_make, Ly.k_mk, Ly.v_fldset, Ly.k_fs, Ly.v_fldaug, Ly.k_fa2, Ly.look1, List.mem_cons, List.not_mem_nil, or_false, true_or, or_true, oIn_new3, oEq_str, oEq_int, ofString_inj, String.reduceEq]
      refine v_disp ?_
      simp_arith [Ly.v_fld, Ly.v_meth, Ly.k_me2, Ly.v_make, Ly.k_mk, Ly.v_fldset, Ly.k_fs, Ly.v_fldaug, Ly.k_fa2, Ly.look1, List.mem_cons, List.not_mem_nil, or_false, true_or, or_true, v_dpCons, k_dp, k_dp2, v_dpNil, k_dp3]
      refine dsp2 (ne _ _ (by decide)) ?_
      simp_arith [Ly.v_fld, Ly.v_meth, Ly.k_me2, Ly.v_make, Ly.k_mk, Ly.v_fldset, Ly.k_fs, Ly.v_fldaug, Ly.k_fa2, Ly.look1, List.mem_cons, List.not_mem_nil, or_false, true_or, or_true, ix21]
      exact ⟨by simp [opN, nD, ofString_inj], Kp.new.app.app.app⟩
    · have h0 : ¬ (b : Int) = 0 := by omega
      have h1 : (0 : Int) < (b : Int) := by omega
      simp_arith [Ly.v_fld, Ly.v_meth, Ly.k_me2, Ly.v_make, Ly.k_mk, Ly.v_fldset, Ly.k_fs, Ly.v_fldaug, Ly.k_fa2, Ly.look1, List.mem_cons, List.not_mem_nil, or_false, true_or, or_true, oIn_new3, oEq_str, oEq_int, ofString_inj, String.reduceEq, h0]
      refine v_disp ?_
      simp_arith [Ly.v_fld, Ly.v_meth, Ly.k_me2, Ly.v_make, Ly.k_mk, Ly.v_fldset, Ly.k_fs, Ly.v_fldaug, Ly.k_fa2, Ly.look1, List.mem_cons, List.not_mem_nil, or_false, true_or, or_true, v_dpCons, k_dp, k_dp2, v_dpNil, k_dp3, oFdiv_int h1 (by rw [Int.natAbs_natCast]; exact log2_small hb), oMod_int h1]
      refine dsp2 (ne _ _ (by decide)) ?_
      simp_arith [Ly.v_fld, Ly.v_meth, Ly.k_me2, Ly.v_make, Ly.k_mk, Ly.v_fldset, Ly.k_fs, Ly.v_fldaug, Ly.k_fa2, Ly.look1, List.mem_cons, List.not_mem_nil, or_false, true_or, or_true, ix21]
      exact ⟨by simp [opN, nD, ofString_inj], Kp.new.app.app.app⟩
  · by_cases h : b = 0
    · subst h
      simp_arith [Ly.v_fld, Ly.v_meth, Ly.k_me2, Ly.v_make, Ly.k_mk, Ly.v_fldset, Ly.k_fs, Ly.v_fldaug, Ly.k_fa2, Ly.look1, List.mem_cons, List.not_mem_nil, or_false, true_or, or_true, oIn_new3, oEq_str, oEq_int, ofString_inj, String.reduceEq]
      refine v_disp ?_
      simp_arith [Ly.v_fld, Ly.v_meth, Ly.k_me2, Ly.v_make, Ly.k_mk, Ly.v_fldset, Ly.k_fs, Ly.v_fldaug, Ly.k_fa2, Ly.look1, List.mem_cons, List.not_mem_nil, or_false, true_or, or_true, v_dpCons, k_dp, k_dp2, v_dpNil, k_dp3]
      refine dsp2 (ne _ _ (by decide)) ?_
      simp_arith [Ly.v_fld, Ly.v_meth, Ly.k_me2, Ly.v_make, Ly.k_mk, Ly.v_fldset, Ly.k_fs, Ly.v_fldaug, Ly.k_fa2, Ly.look1, List.mem_cons, List.not_mem_nil, or_false, true_or, or_true, ix22 (ne _ _ (show "div" ≠ "mod" by decide))]
      exact ⟨by simp [opN, nD, ofString_inj], Kp.new.app.app.app⟩
    · have h0 : ¬ (b : Int) = 0 := by omega
      have h1 : (0 : Int) < (b : Int) := by omega
      simp_arith [Ly.v_fld, Ly.v_meth, Ly.k_me2, Ly.v_make, Ly.k_mk, Ly.v_fldset, Ly.k_fs, Ly.v_fldaug, Ly.k_fa2, Ly.look1, List.mem_cons, List.not_mem_nil, or_false, true_or, or_true, oIn_new3, oEq_str, oEq_int, ofString_inj, String.reduceEq, h0]
      refine v_disp ?_
      simp_arith [Ly.v_fld, Ly.v_meth, Ly.k_me2, Ly.v_make, Ly.k_mk, Ly.v_fldset, Ly.k_fs, Ly.v_fldaug, Ly.k_fa2, Ly.look1, List.mem_cons, List.not_mem_nil, or_false, true_or, or_true, v_dpCons, k_dp, k_dp2, v_dpNil, k_dp3, oFdiv_int h1 (by rw [Int.natAbs_natCast]; exact log2_small hb), oMod_int h1]
      refine dsp2 (ne _ _ (by decide)) ?_
      simp_arith [Ly.v_fld, Ly.v_meth, Ly.k_me2, Ly.v_make, Ly.k_mk, Ly.v_fldset, Ly.k_fs, Ly.v_fldaug, Ly.k_fa2, Ly.look1, List.mem_cons, List.not_mem_nil, or_false, true_or, or_true, ix22 (ne _ _ (show "div" ≠ "mod" by decide))]
      exact ⟨by simp [opN, nD, ofString_inj], Kp.new.app.app.app⟩
end
end Ly
set_option Elab.async false
set_option linter.all false
set_option maxRecDepth 100000
namespace Ly
open PySem PySem.Spec L2
open PyProof.Rows hiding St
local macro_rules | `(tactic| simp_arith [$ls,*]) => `(tactic| simp only [Ly.line_le, Ly.atX_no, Ly.v_ok, Ly.v_bad, Ly.v_bind, Ly.k_bd, Ly.v_at, Ly.v_bin, Ly.k_bi, Ly.k_bi2, Ly.v_var, Ly.v_c, Ly.v_un, Ly.k_un, Ly.v_if, Ly.k_ife, Ly.v_and, Ly.k_and, Ly.k_and2, Ly.v_or, Ly.k_or, Ly.k_or2, Ly.v_tup, Ly.k_tup, Ly.v_lst, Ly.k_lst, Ly.v_call, Ly.k_ca, Ly.v_fn, Ly.k_fn, Ly.v_bm, Ly.k_bm, Ly.k_bm2, Ly.v_sl, Ly.k_sl, Ly.k_sl2, Ly.k_sl3, Ly.v_ixK, Ly.k_ixk, Ly.v_inK, Ly.k_ink, Ly.v_notinK, Ly.k_nink, Ly.v_getK2, Ly.k_gk2, Ly.k_gk, Ly.v_get2, Ly.k_g2, Ly.k_g22, Ly.k_g23, Ly.v_nil, Ly.v_cons, Ly.k_co, Ly.k_co2, Ly.v_no, Ly.v_some, Ly.k_so, Ly.k_cm, Ly.v_cmp, Ly.v_tru, Ly.k_tr, Ly.v_notB, Ly.k_no, Ly.v_andB, Ly.k_an, Ly.v_orB, Ly.k_orb, Ly.v_yes, Ly.v_inKB, Ly.k_inkB, Ly.v_notinKB, Ly.k_ninkB, Ly.v_set, Ly.k_st, Ly.v_expr, Ly.k_ex, Ly.v_ret, Ly.k_re, Ly.v_retN, Ly.v_pass, Ly.v_brk, Ly.v_cnt, Ly.v_seq, Ly.k_sq_nx, Ly.k_sq_rt, Ly.k_sq_bk, Ly.k_sq_ct, Ly.v_ifS, Ly.k_ifs, Ly.v_asg, Ly.k_as, Ly.k_as2, Ly.v_aug, Ly.k_au, Ly.v_for, Ly.k_fo, Ly.v_it, Ly.k_it, Ly.k_ij, Ly.v_rng1, Ly.v_rng2, Ly.v_enum, Ly.v_zip, Ly.v_gN, Ly.v_gsN, Ly.v_gsC, Ly.k_gc, Ly.v_gT, Ly.v_gTw, Ly.v_gSb, Ly.k_gsb, Ly.k_gsb2, Ly.k_gsb3, Ly.k_en_rt, Ly.k_en_nx, Ly.k_tu_nx, Ly.k_tu_ct, Ly.k_tu_bk, Ly.k_tu_rt, Ly.v_lc, Ly.k_lc, Ly.v_augI, Ly.k_ag, Ly.k_ag2, Ly.k_ag3, Ly.k_ag4, Ly.k_ag5, Ly.v_del, Ly.k_dl, Ly.k_dl2, Ly.v_setd, Ly.v_pop2, Ly.k_d3, Ly.k_d32, Ly.k_d33, Ly.v_get1, Ly.k_g1, Ly.k_g12, Ly.v_rg1, Ly.k_rg, Ly.v_rg2, Ly.k_rg2, Ly.k_rg22, Ly.v_dicK, Ly.v_dicT, Ly.v_dc, Ly.k_dc, List.getElem?_cons_zero, List.getElem?_cons_succ, List.set_cons_zero, List.set_cons_succ, List.length_cons, List.length_nil, List.map_cons, List.map_nil, List.cons_append, List.nil_append, List.replicate, if_true, if_false, Bool.false_eq_true, Bool.not_true, Bool.not_false, Bool.true_and, Bool.false_and, decide_true, decide_false, decide_eq_true_eq, Nat.zero_add, Nat.reduceAdd, Nat.reduceLeDiff, true_and, and_true, $ls,*])
/-! ### the law's plain machine -/
def memTo (cs : List (List Nat)) (n : Nat) : Mem := fun a => if a < n then mem0 cs a else none
theorem memTo_put {cs : List (List Nat)} {n v : Nat} (h : mem0 cs n = some v) : (memTo cs n).put n v = memTo cs (n + 1) := by
  funext a
  unfold Mem.put memTo
  by_cases h1 : a = n
  · subst h1; simp [h]
  · rw [if_neg h1]
    by_cases h2 : a < n
    · rw [if_pos h2, if_pos (by omega)]
    · rw [if_neg h2, if_neg (by omega)]
theorem memTo_all {cs : List (List Nat)} : memTo cs cs.flatten.length = mem0 cs := by
  funext a
  unfold memTo
  split
  · rfl
  · unfold mem0; rw [List.getElem?_eq_none (by omega)]
theorem contig_base : ∀ {regs : List Rg} {b k : Nat} {r : Rg}, Contig b regs → regs[k]? = some r → r.base = b + sizes (regs.take k)
  | [], _, _, _, _, h => by simp at h
  | x :: xs, b, 0, r, ⟨h1, _, _⟩, h => by simp at h; subst h; simp [sizes, h1]
  | x :: xs, b, k + 1, r, ⟨h1, h2, h3⟩, h => by
    rw [contig_base h3 (by simpa using h)]; simp [sizes]; omega
theorem flat_at {cs : List (List Nat)} {c : List Nat} {k j : Nat} (h : cs[k]? = some c) (hj : j < c.length) : cs.flatten[(cs.take k).flatten.length + j]? = c[j]? := by
  have e := split_at h
  conv => lhs; rw [e]
  rw [List.flatten_append, List.flatten_cons]
  have e2 : (List.take k cs ++ c :: List.drop (k + 1) cs).take k = List.take k cs := by rw [← e]
  rw [List.getElem?_append_right (by simp [← e])]
  rw [← e, Nat.add_sub_cancel_left, List.getElem?_append_left hj]
section
variable {S S' : Hs} {regs : List Rg} {rows : List MRow} {cs : List (List Nat)}
theorem ContOk.at (hc : ContOk regs cs) (cg : Contig 0 regs) {k j : Nat} {r : Rg} (hr : regs[k]? = some r) (hj : j < r.size) : ∃ c w, cs[k]? = some c ∧ c.length = r.size ∧ c[j]? = some w ∧ mem0 cs (r.base + j) = some w := by
  have hl := congrArg (fun l => l[k]?) hc.len
  simp only [List.getElem?_map, hr, Option.map_some] at hl
  obtain ⟨c, hck, hcl⟩ := Option.map_eq_some_iff.mp hl
  have hjc : j < c.length := by omega
  have hb := contig_base cg hr
  have hf : (cs.take k).flatten.length = sizes (regs.take k) := by
    rw [List.length_flatten]
    unfold sizes
    rw [List.map_take, List.map_take, hc.len]
  refine ⟨c, c[j], hck, hcl, List.getElem?_eq_getElem hjc, ?_⟩
  unfold mem0
  have := flat_at hck hjc
  rw [hf] at this
  rw [hb, Nat.zero_add, this, List.getElem?_eq_getElem hjc]
theorem sizes_take {k : Nat} {r : Rg} (h : regs[k]? = some r) : sizes (regs.take (k + 1)) = sizes (regs.take k) + r.size := by rw [take_at h, sizes_add]
theorem sizes_take_le {k : Nat} : sizes (regs.take k) ≤ sizes regs := by
  conv => rhs; rw [← List.take_append_drop k regs]
  unfold sizes; rw [List.map_append, List.sum_append_nat]; omega
theorem Nmemory_ok (hc : ContOk regs cs) (c : CodeOk regs rows) (hl : regs.length ≤ 100000) : Wp NoX (m_Nmemory [codeD regs rows, contD cs] S) fun v S' => ∃ q, v = .ref q ∧ MemAt S' q (mem0 cs) (sizes regs) ∧ S.length ≤ q ∧ Kp [] S S' := by
  refine wp_def0 rfl ?_
  unfold b_Nmemory
  have hsm := c.small
  simp_arith [Ly.v_fld, Ly.v_meth, Ly.k_me2, Ly.v_make, Ly.k_mk, Ly.v_fldset, Ly.k_fs, Ly.v_fldaug, Ly.k_fa2, Ly.look1, List.mem_cons, List.not_mem_nil, or_false, true_or, or_true, v_dicK, codeD, tix0, bLen_tup, List.length_map, show ∀ S, oRng1 [.int (regs.length : Int)] S = _ from fun S => rng1 S (by omega) (by omega), Int.toNat_natCast]
  refine wp_rng (fun k l S' => ∃ o3 o4 : Option D, l = [some (codeD regs rows), some (contD cs), some (.ref S.length), o3, o4] ∧ MemAt S' S.length (memTo cs (sizes (regs.take k))) (sizes (regs.take k)) ∧ Kp [] S S' ∧ k ≤ regs.length) ⟨none, none, rfl, ⟨[], by simp, by simp, fun a => by simp [getK, memTo, sizes]⟩, Kp.new, Nat.zero_le _⟩ ?_ ?_
  · rintro k l S' hk ⟨o3, o4, rfl, hm, K, -⟩
    obtain ⟨r, hr⟩ : ∃ r, regs[k]? = some r := ⟨_, List.getElem?_eq_getElem hk⟩
    have hrm := List.mem_of_getElem? hr
    have hb := contig_bound c.cg r hrm
    have e0 : (0 : Int) + (k : Int) = ((k : Nat) : Int) := by omega
    have ir : ∀ S, oIx (.tup (regs.map Rg.D)) (nD k) S = .ok (.tup [nD r.base, nD r.size, .str r.label]) S := fun S => oIx_tup (by rw [List.getElem?_map, hr]; rfl)
    have hbase := contig_base c.cg hr
    unfold lb_Nmemory_1 codeD
    simp_arith [Ly.v_fld, Ly.v_meth, Ly.k_me2, Ly.v_make, Ly.k_mk, Ly.v_fldset, Ly.k_fs, Ly.v_fldaug, Ly.k_fa2, Ly.look1, List.mem_cons, List.not_mem_nil, or_false, true_or, or_true, e0, tix0, ir, tix1, show ∀ S, oRng1 [.int (r.size : Int)] S = _ from fun S => rng1 S (by omega) (by omega), Int.toNat_natCast]
    refine wp_rng (fun j l S' => ∃ o4 : Option D, l = [some (codeD regs rows), some (contD cs), some (.ref S.length), some (nD k), o4] ∧ MemAt S' S.length (memTo cs (r.base + j)) (r.base + j) ∧ Kp [] S S' ∧ j ≤ r.size) ⟨o4, rfl, by rw [hbase]; simpa using hm, K, Nat.zero_le _⟩ ?_ ?_
    · rintro j l S2 hj ⟨o4, rfl, hm2, K2, -⟩
      obtain ⟨cc, w, h1, h2, h3, h4⟩ := hc.at c.cg hr hj
      have e1 : (0 : Int) + (j : Int) = ((j : Nat) : Int) := by omega
      have ic : ∀ S, oIx (contD cs) (nD k) S = .ok (.tup (cc.map nD)) S := fun S => oIx_tup (by rw [List.getElem?_map, h1]; rfl)
      have iw : ∀ S, oIx (.tup (cc.map nD)) (nD j) S = .ok (nD w) S := fun S => oIx_tup (by rw [List.getElem?_map, h3]; rfl)
      have e2 : (r.base : Int) + (j : Int) = ((r.base + j : Nat) : Int) := by omega
      obtain ⟨o, ho1, ho2⟩ := hm2.put (by omega) (r.base + j) w
      unfold lb_Nmemory_0 codeD
      simp_arith [Ly.v_fld, Ly.v_meth, Ly.k_me2, Ly.v_make, Ly.k_mk, Ly.v_fldset, Ly.k_fs, Ly.v_fldaug, Ly.k_fa2, Ly.look1, List.mem_cons, List.not_mem_nil, or_false, true_or, or_true, e1, ic, iw, tix0, ir, oAdd_int, e2, ho1]
      refine ⟨_, rfl, ?_, K2.setNew (Nat.le_refl _), hj⟩
      rw [memTo_put h4] at ho2
      exact ho2
    · rintro l S2 ⟨o4, rfl, hm2, K2, -⟩
      simp_arith [Ly.v_fld, Ly.v_meth, Ly.k_me2, Ly.v_make, Ly.k_mk, Ly.v_fldset, Ly.k_fs, Ly.v_fldaug, Ly.k_fa2, Ly.look1, List.mem_cons, List.not_mem_nil, or_false, true_or, or_true]
      refine ⟨_, _, rfl, ?_, K2, hk⟩
      rw [sizes_take hr]
      rw [hbase] at hm2
      simpa using hm2
  · rintro l S' ⟨o3, o4, rfl, hm, K, -⟩
    simp_arith [Ly.v_fld, Ly.v_meth, Ly.k_me2, Ly.v_make, Ly.k_mk, Ly.v_fldset, Ly.k_fs, Ly.v_fldaug, Ly.k_fa2, Ly.look1, List.mem_cons, List.not_mem_nil, or_false, true_or, or_true]
    rw [List.take_of_length_le (Nat.le_refl _)] at hm
    refine ⟨_, rfl, ?_, Nat.le_refl _, K⟩
    rw [← memTo_all, hc.flat]
    exact hm
theorem Nheld_ok {q N : Nat} {f : Mem} (hm : MemAt S q f N) (c : CodeOk regs rows) (hl : regs.length ≤ 100000) (hd : ∀ a, a < sizes regs → (f a).isSome = true) : Wp NoX (m_Nheld [codeD regs rows, .ref q] S) fun v S' => v = endsD f regs ∧ Kp [] S S' := by
  refine wp_def0 rfl ?_
  unfold b_Nheld
  have hsm := c.small
  have hql := hm.lt
  simp_arith [Ly.v_fld, Ly.v_meth, Ly.k_me2, Ly.v_make, Ly.k_mk, Ly.v_fldset, Ly.k_fs, Ly.v_fldaug, Ly.k_fa2, Ly.look1, List.mem_cons, List.not_mem_nil, or_false, true_or, or_true, codeD, tix0, oIt, wipe1]
  refine wp_lcTupM Rg.D (xs := regs) (fun pre acc S' => acc = (pre.map fun r => .tup ((rgWords f r).map nD)) ∧ S'[S.length]? = some (.lst acc) ∧ Kp [] S S') ⟨rfl, by simp, Kp.new⟩ ?_ ?_
  · rintro pre r post acc S' hsp ⟨rfl, hq, hK⟩
    have hr : r ∈ regs := by rw [hsp]; simp
    have hb := contig_bound c.cg r hr
    refine ⟨[some (codeD regs rows), some (.ref q), some (nD r.base), some (nD r.size), some (.str r.label), none], rfl, ?_⟩
    simp_arith [Ly.v_fld, Ly.v_meth, Ly.k_me2, Ly.v_make, Ly.k_mk, Ly.v_fldset, Ly.k_fs, Ly.v_fldaug, Ly.k_fa2, Ly.look1, List.mem_cons, List.not_mem_nil, or_false, true_or, or_true, show oRng1 [.int (r.size : Int)] S' = _ from rng1 S' (by omega) (by omega), Int.toNat_natCast, wipe1]
    refine wp_lcRng (fun k acc2 S'' => acc2 = (((List.range k).map fun j => f.get (r.base + j)).map nD) ∧ S''[S'.length]? = some (.lst acc2) ∧ Kp [] S' S'') ?_ ?_ ?_
    · exact ⟨rfl, by simp, Kp.new⟩
    · rintro k acc2 S'' hk ⟨rfl, hq2, hK2⟩
      refine ⟨_, rfl, ?_⟩
      have hm2 := (hm.kp hK (by simp)).kp hK2 (by simp)
      obtain ⟨w, hw⟩ := Option.isSome_iff_exists.mp (hd (r.base + k) (by omega))
      have e0 : (0 : Int) + (k : Int) = ((k : Nat) : Int) := by omega
      have ea : (r.base : Int) + (k : Int) = ((r.base + k : Nat) : Int) := by omega
      simp_arith [Ly.v_fld, Ly.v_meth, Ly.k_me2, Ly.v_make, Ly.k_mk, Ly.v_fldset, Ly.k_fs, Ly.v_fldaug, Ly.k_fa2, Ly.look1, List.mem_cons, List.not_mem_nil, or_false, true_or, or_true, e0, oAdd_int, ea, hm2.ix hw]
      refine ⟨hq2, by simp only [List.length_map, List.length_range]; exact Nat.lt_of_le_of_lt (show k ≤ 5000000 by omega) (by decide), ?_, get_put hq2, hK2.setNew (Nat.le_refl _)⟩
      simp [List.range_succ, Mem.get, hw]
    · rintro acc2 S'' ⟨rfl, hq2, hK2⟩
      simp_arith [Ly.v_fld, Ly.v_meth, Ly.k_me2, Ly.v_make, Ly.k_mk, Ly.v_fldset, Ly.k_fs, Ly.v_fldaug, Ly.k_fa2, Ly.look1, List.mem_cons, List.not_mem_nil, or_false, true_or, or_true, bTuple_lst hq2]
      have hq3 := hK2.get hq (by simp)
      exact ⟨hq3, by simp only [List.length_map]; have : pre.length ≤ regs.length := by rw [hsp]; simp
                     exact line_big (by omega), by simp [rgWords], get_put hq3, (hK.trans hK2).setNew (Nat.le_refl _)⟩
  · rintro acc S' ⟨rfl, hq, hK⟩
    simp_arith [Ly.v_fld, Ly.v_meth, Ly.k_me2, Ly.v_make, Ly.k_mk, Ly.v_fldset, Ly.k_fs, Ly.v_fldaug, Ly.k_fa2, Ly.look1, List.mem_cons, List.not_mem_nil, or_false, true_or, or_true, bTuple_lst hq]
    exact ⟨rfl, hK⟩
end
def macK (qh qm qo : Nat) (at' : Int) : List (Key × D) := [(.inr "held", .ref qh), (.inr "words", .ref qm), (.inr "outs", .ref qo), (.inr "at", .int at')]
section
variable {qh qm qo : Nat} {a b : Int}
theorem macK_held : getK (macK qh qm qo a) (.inr "held") = some (.ref qh) := by simp [getK, macK, ofString_inj]
theorem macK_words : getK (macK qh qm qo a) (.inr "words") = some (.ref qm) := by simp [getK, macK, ofString_inj]
theorem macK_outs : getK (macK qh qm qo a) (.inr "outs") = some (.ref qo) := by simp [getK, macK, ofString_inj]
theorem macK_at : getK (macK qh qm qo a) (.inr "at") = some (.int a) := by simp [getK, macK, ofString_inj]
theorem macK_set : setK (macK qh qm qo a) (.inr "at") (.int b) = macK qh qm qo b := by simp [setK, macK, ofString_inj]
end
section
variable {S S' : Hs} {many im qm qh qo N k : Nat} {s : PS} {r : MRow} {regs : List Rg} {rows : List MRow} {cs : List (List Nat)}
def PS.keep (s : PS) (r : MRow) : PS := { s.exec r with pc := s.pc }
theorem Ndo_ok (h : Run many regs qm qh qo N k s S) (hi : S[im]? = some (.dic (macK qh qm qo s.pc))) (hr : r.ok many) (hs : r.stops = none) (d1 : qm ≠ qh) (d2 : qm ≠ qo) (d3 : qh ≠ qo) (hN : N + k ≤ 10000000) (hk : k ≤ 100000) :
    Wp NoX (m_Ndo [.ref im, r.D] S) fun _ S' => Run many regs qm qh qo N (k + 1) (s.keep r) S' ∧ Kp [qm, qh, qo] S S' := by
  refine wp_def0 rfl ?_
  unfold b_Ndo
  have gh : ∀ {S'}, S'[im]? = some (.dic (macK qh qm qo s.pc)) → oIx (.ref im) (.str "held") S' = .ok (.ref qh) S' := fun h => oIx_dic h key_str macK_held
  have gw : ∀ {S'}, S'[im]? = some (.dic (macK qh qm qo s.pc)) → oIx (.ref im) (.str "words") S' = .ok (.ref qm) S' := fun h => oIx_dic h key_str macK_words
  have go : ∀ {S'}, S'[im]? = some (.dic (macK qh qm qo s.pc)) → oIx (.ref im) (.str "outs") S' = .ok (.ref qo) S' := fun h => oIx_dic h key_str macK_outs
  have hp : s.pc < many := h.ok.pc
  cases r with
  | jump t =>
    simp_arith [Ly.v_fld, Ly.v_meth, Ly.k_me2, Ly.v_make, Ly.k_mk, Ly.v_fldset, Ly.k_fs, Ly.v_fldaug, Ly.k_fa2, Ly.look1, List.mem_cons, List.not_mem_nil, or_false, true_or, or_true, gh hi, MRow.D, tix0, oEq_str, ofString_inj, String.reduceEq]
    exact ⟨h.pc hp, Kp.refl⟩
  | branch a t =>
    simp_arith [Ly.v_fld, Ly.v_meth, Ly.k_me2, Ly.v_make, Ly.k_mk, Ly.v_fldset, Ly.k_fs, Ly.v_fldaug, Ly.k_fa2, Ly.look1, List.mem_cons, List.not_mem_nil, or_false, true_or, or_true, gh hi, MRow.D, tix0, oEq_str, ofString_inj, String.reduceEq]
    exact ⟨h.pc hp, Kp.refl⟩
  | stop a => cases hs
  | out a =>
    simp_arith [Ly.v_fld, Ly.v_meth, Ly.k_me2, Ly.v_make, Ly.k_mk, Ly.v_fldset, Ly.k_fs, Ly.v_fldaug, Ly.k_fa2, Ly.look1, List.mem_cons, List.not_mem_nil, or_false, true_or, or_true, gh hi, MRow.D, tix0, tix1, oEq_str, ofString_inj, String.reduceEq, go hi, hasTy_lst h.outs, held_ix h.held h.ok hr, oAppend_lst h.outs (by simp only [List.length_map]; have := h.short; exact line_big (by omega))]
    exact ⟨h.out d2 d3 hp, Kp.set (by simp)⟩
  | const d m =>
    simp_arith [Ly.v_fld, Ly.v_meth, Ly.k_me2, Ly.v_make, Ly.k_mk, Ly.v_fldset, Ly.k_fs, Ly.v_fldaug, Ly.k_fa2, Ly.look1, List.mem_cons, List.not_mem_nil, or_false, true_or, or_true, gh hi, MRow.D, tix0, tix1, tix2, oEq_str, ofString_inj, String.reduceEq, held_set h.held h.ok hr.1]
    exact ⟨h.reg d1 d3.symm hr.2 hp, Kp.set (by simp)⟩
  | op z d a b =>
    obtain ⟨h1, h2, h3, h4⟩ := hr
    simp_arith [Ly.v_fld, Ly.v_meth, Ly.k_me2, Ly.v_make, Ly.k_mk, Ly.v_fldset, Ly.k_fs, Ly.v_fldaug, Ly.k_fa2, Ly.look1, List.mem_cons, List.not_mem_nil, or_false, true_or, or_true, gh hi, MRow.D, tix0, tix1, tix2, tix3, mx4, oEq_str, ofString_inj, String.reduceEq, held_ix h.held h.ok h3, held_ix h.held h.ok h4]
    refine Wp.call (Napply_ok h1 (h.ok.h_lt a) (h.ok.h_lt b)) ?_
    rintro _ S2 ⟨rfl, K⟩
    have hh := h.kp K (by simp) (by simp) (by simp)
    simp_arith [Ly.v_fld, Ly.v_meth, Ly.k_me2, Ly.v_make, Ly.k_mk, Ly.v_fldset, Ly.k_fs, Ly.v_fldaug, Ly.k_fa2, Ly.look1, List.mem_cons, List.not_mem_nil, or_false, true_or, or_true, tix0, tix2, oEq_str, ofString_inj, String.reduceEq, held_set hh.held hh.ok h2]
    exact ⟨hh.reg d1 d3.symm (opN_lt (h.ok.h_lt a) (h.ok.h_lt b)) hp, (K.sub (by simp)).setIn (by simp)⟩
  | select d c a b =>
    obtain ⟨h1, h2, h3, h4⟩ := hr
    by_cases hc : s.h c = 0
    · have hci : ((s.h c : Nat) : Int) = 0 := by omega
      have e : s.keep (.select d c a b) = { s with held := s.held.set d (s.h b), pc := s.pc } := by simp [PS.keep, PS.exec, MRow.word, hc]
      simp_arith [Ly.v_fld, Ly.v_meth, Ly.k_me2, Ly.v_make, Ly.k_mk, Ly.v_fldset, Ly.k_fs, Ly.v_fldaug, Ly.k_fa2, Ly.look1, List.mem_cons, List.not_mem_nil, or_false, true_or, or_true, gh hi, MRow.D, tix0, tix1, tix2, mx4, oEq_str, oEq_int, ofString_inj, String.reduceEq, held_ix h.held h.ok h2, hci, bInt_bl, oAdd_int, show (3:Int) + 1 = 4 from rfl, held_ix h.held h.ok h4, held_set h.held h.ok h1]
      rw [e]
      exact ⟨h.reg d1 d3.symm (h.ok.h_lt b) hp, Kp.set (by simp)⟩
    · have hci : ¬ ((s.h c : Nat) : Int) = 0 := by omega
      have e : s.keep (.select d c a b) = { s with held := s.held.set d (s.h a), pc := s.pc } := by simp [PS.keep, PS.exec, MRow.word, hc]
      simp_arith [Ly.v_fld, Ly.v_meth, Ly.k_me2, Ly.v_make, Ly.k_mk, Ly.v_fldset, Ly.k_fs, Ly.v_fldaug, Ly.k_fa2, Ly.look1, List.mem_cons, List.not_mem_nil, or_false, true_or, or_true, gh hi, MRow.D, tix0, tix1, tix2, tix3, oEq_str, oEq_int, ofString_inj, String.reduceEq, held_ix h.held h.ok h2, hci, bInt_bl, oAdd_int, show (3:Int) + 0 = 3 from rfl, held_ix h.held h.ok h3, held_set h.held h.ok h1]
      rw [e]
      exact ⟨h.reg d1 d3.symm (h.ok.h_lt a) hp, Kp.set (by simp)⟩
  | load d a base mask =>
    obtain ⟨h1, h2, h3, h4⟩ := hr
    have ea : (base : Int) + ((s.h a &&& mask : Nat) : Int) = ((base + (s.h a &&& mask) : Nat) : Int) := by omega
    simp_arith [Ly.v_fld, Ly.v_meth, Ly.k_me2, Ly.v_make, Ly.k_mk, Ly.v_fldset, Ly.k_fs, Ly.v_fldaug, Ly.k_fa2, Ly.look1, List.mem_cons, List.not_mem_nil, or_false, true_or, or_true, gh hi, gw hi, MRow.D, tix0, tix1, tix2, tix3, mx4, oEq_str, ofString_inj, String.reduceEq, h.mem.ty, held_ix h.held h.ok h2, oAnd_int, PySem.W.os_band, oAdd_int, ea, k_g23m h.mem, -k_g23, held_set h.held h.ok h1]
    exact ⟨h.reg d1 d3.symm (h.ok.get_lt _) hp, Kp.set (by simp)⟩
  | store a base mask v =>
    obtain ⟨h1, h2, h3, h4⟩ := hr
    have ea : (base : Int) + ((s.h a &&& mask : Nat) : Int) = ((base + (s.h a &&& mask) : Nat) : Int) := by omega
    obtain ⟨o, ho1, ho2⟩ := h.put hN d1.symm d2.symm (a := base + (s.h a &&& mask)) (h.ok.h_lt v) hp
    simp_arith [Ly.v_fld, Ly.v_meth, Ly.k_me2, Ly.v_make, Ly.k_mk, Ly.v_fldset, Ly.k_fs, Ly.v_fldaug, Ly.k_fa2, Ly.look1, List.mem_cons, List.not_mem_nil, or_false, true_or, or_true, gh hi, gw hi, MRow.D, tix0, tix1, tix2, tix3, mx4, oEq_str, ofString_inj, String.reduceEq, held_ix h.held h.ok h4, held_ix h.held h.ok h1, oAnd_int, PySem.W.os_band, oAdd_int, ea, ho1]
    exact ⟨ho2, Kp.set (by simp)⟩
theorem Nnext_ok (h : Run many regs qm qh qo N k (s.keep r) S) (hi : S[im]? = some (.dic (macK qh qm qo s.pc))) (hr : r.ok many) (hs : r.stops = none) :
    Wp NoX (m_Nnext_row [.ref im, r.D] S) fun v S' => v = nD (s.exec r).pc ∧ S' = S := by
  refine wp_def0 rfl ?_
  unfold b_Nnext_row
  have gh : oIx (.ref im) (.str "held") S = .ok (.ref qh) S := oIx_dic hi key_str macK_held
  have ga : oIx (.ref im) (.str "at") S = .ok (.int s.pc) S := oIx_dic hi key_str macK_at
  have ei : ((s.pc : Nat) : Int) + 1 = ((s.pc + 1 : Nat) : Int) := by omega
  cases r with
  | stop a => cases hs
  | branch a t =>
    have hx := held_ix h.held h.ok hr.1
    rw [show (s.keep (.branch a t)).h a = s.h a from rfl] at hx
    by_cases hc : s.h a = 0
    · have hci : ((s.h a : Nat) : Int) = 0 := by omega
      simp_arith [Ly.v_fld, Ly.v_meth, Ly.k_me2, Ly.v_make, Ly.k_mk, Ly.v_fldset, Ly.k_fs, Ly.v_fldaug, Ly.k_fa2, Ly.look1, List.mem_cons, List.not_mem_nil, or_false, true_or, or_true, gh, ga, MRow.D, tix0, tix1, tix2, oEq_str, ofString_inj, String.reduceEq, hx, oNe_int, hci, oAdd_int, ei]
      simp [PS.exec, hc]
    · have hci : ¬ ((s.h a : Nat) : Int) = 0 := by omega
      simp_arith [Ly.v_fld, Ly.v_meth, Ly.k_me2, Ly.v_make, Ly.k_mk, Ly.v_fldset, Ly.k_fs, Ly.v_fldaug, Ly.k_fa2, Ly.look1, List.mem_cons, List.not_mem_nil, or_false, true_or, or_true, gh, ga, MRow.D, tix0, tix1, tix2, oEq_str, ofString_inj, String.reduceEq, hx, oNe_int, hci]
      simp [PS.exec, hc]
  | _ =>
    simp_arith [Ly.v_fld, Ly.v_meth, Ly.k_me2, Ly.v_make, Ly.k_mk, Ly.v_fldset, Ly.k_fs, Ly.v_fldaug, Ly.k_fa2, Ly.look1, List.mem_cons, List.not_mem_nil, or_false, true_or, or_true, gh, ga, MRow.D, tix0, tix1, oEq_str, ofString_inj, String.reduceEq, oAdd_int, ei]
    simp [PS.exec]
def NplL (regs : List Rg) (rows : List MRow) (cs : List (List Nat)) (n im : Nat) (res : D) (o1 o2 : Option D) : Ls :=
  [some (codeD regs rows), some (contD cs), some (nD n), some (.ref im), some res, o1, o2]
theorem Nplain_step (c : CodeOk regs rows) {n x : Nat} {S0 : Hs} (h : Run rows.length regs qm qh qo N k s S) (hi : S[im]? = some (.dic (macK qh qm qo s.pc))) (hK : Kp [] S0 S) (b0 : S0.length ≤ im) (b1 : S0.length ≤ qm) (b2 : S0.length ≤ qh) (b3 : S0.length ≤ qo) (d1 : qm ≠ qh) (d2 : qm ≠ qo) (d3 : qh ≠ qo) (f1 : im ≠ qm) (f2 : im ≠ qh) (f3 : im ≠ qo) (hN : N + k ≤ 10000000) (hk : k ≤ 100000) {o2 : Option D} :
    Wp NoX (lb_Nplain_0 (NplL regs rows cs n im .non (some (nD x)) o2) S) fun r S' => Kp [] S0 S' ∧ match (rows.getD s.pc (.stop 0)).stops with
      | some a => (∃ p1 p2, r = .bk (NplL regs rows cs n im (nD (s.h a)) p1 p2)) ∧ Run rows.length regs qm qh qo N k s S' ∧ S'[im]? = some (.dic (macK qh qm qo s.pc))
      | none => (∃ p1 p2, r = .nx (NplL regs rows cs n im .non p1 p2)) ∧ Run rows.length regs qm qh qo N (k + 1) (s.exec (rows.getD s.pc (.stop 0))) S' ∧ S'[im]? = some (.dic (macK qh qm qo (s.exec (rows.getD s.pc (.stop 0))).pc)) := by
  obtain ⟨e1, e2, e3⟩ := c.row h.ok.pc
  have ex : ∀ S, oIx (.tup (rows.map MRow.D)) (nD s.pc) S = .ok (rows.getD s.pc (.stop 0)).D S := fun S => oIx_tup (by rw [List.getElem?_map, e1]; rfl)
  generalize rows.getD s.pc (.stop 0) = r at *
  have gh : oIx (.ref im) (.str "held") S = .ok (.ref qh) S := oIx_dic hi key_str macK_held
  have ga : oIx (.ref im) (.str "at") S = .ok (nD s.pc) S := oIx_dic hi key_str macK_at
  unfold lb_Nplain_0 NplL
  cases hst : r.stops with
  | some a =>
    obtain rfl : r = .stop a := by cases r <;> simp [MRow.stops] at hst; rw [hst]
    simp_arith [Ly.v_fld, Ly.v_meth, Ly.k_me2, Ly.v_make, Ly.k_mk, Ly.v_fldset, Ly.k_fs, Ly.v_fldaug, Ly.k_fa2, Ly.look1, List.mem_cons, List.not_mem_nil, or_false, true_or, or_true, codeD, tix1, ga, ex, MRow.D, tix0, oEq_str, gh, held_ix h.held h.ok e2]
    exact ⟨hK, ⟨_, _, rfl⟩, h, hi⟩
  | none =>
    have hne : ∃ w ds, r.D = .tup (.str (Str.ofString w) :: ds) ∧ w ≠ "stop" := by
      cases r with
      | stop a => cases hst
      | _ => exact ⟨_, _, rfl, by decide⟩
    obtain ⟨w, ds, hw, hwn⟩ := hne
    have hex : oIx r.D (.int 0) S = .ok (.str (Str.ofString w)) S := by rw [hw, tix0]
    simp_arith [Ly.v_fld, Ly.v_meth, Ly.k_me2, Ly.v_make, Ly.k_mk, Ly.v_fldset, Ly.k_fs, Ly.v_fldaug, Ly.k_fa2, Ly.look1, List.mem_cons, List.not_mem_nil, or_false, true_or, or_true, codeD, tix1, ga, ex, hex, oEq_str, ofString_inj, hwn]
    refine Wp.call (Ndo_ok h hi e2 hst d1 d2 d3 hN hk) ?_
    rintro v S1 ⟨h1, K1⟩
    have hi1 := K1.get hi (by simp [f1, f2, f3])
    simp_arith [Ly.v_fld, Ly.v_meth, Ly.k_me2, Ly.v_make, Ly.k_mk, Ly.v_fldset, Ly.k_fs, Ly.v_fldaug, Ly.k_fa2, Ly.look1, List.mem_cons, List.not_mem_nil, or_false, true_or, or_true]
    refine Wp.call (Nnext_ok h1 hi1 e2 hst) ?_
    rintro _ S1 ⟨rfl, rfl⟩
    have hset : oSet (.ref im) (.str "at") (nD (s.exec r).pc) S1 = .ok () (S1.set im (.dic (macK qh qm qo (s.exec r).pc))) := by
      rw [oSet_dic hi1 key_str (by show 4 < sizeLine; decide), macK_set]
    simp_arith [Ly.v_fld, Ly.v_meth, Ly.k_me2, Ly.v_make, Ly.k_mk, Ly.v_fldset, Ly.k_fs, Ly.v_fldaug, Ly.k_fa2, Ly.look1, List.mem_cons, List.not_mem_nil, or_false, true_or, or_true, hset]
    have hK1 : Kp [] S0 S1 := hK.after K1 (by intro i hi hlt; simp at hi; omega)
    refine ⟨hK1.setNew b0, ⟨_, _, rfl⟩, ?_, get_put hi1⟩
    have hr := h1.kp (S' := S1.set im (.dic (macK qh qm qo (s.exec r).pc))) (B := [im]) (Kp.set (by simp)) (by simpa using f1.symm) (by simpa using f2.symm) (by simpa using f3.symm)
    exact ⟨h.ok.exec e2 e3, hr.mem, hr.held, hr.outs, hr.short, hr.dom⟩
theorem Nplain_ok (c : CodeOk regs rows) (hc : ContOk regs cs) (hl : regs.length ≤ 100000) {n : Nat} (hn : n ≤ 100000) : Wp NoX (m_Nplain [codeD regs rows, contD cs, nD n] S) fun v S' => v = plainD regs rows cs n ∧ Kp [] S S' := by
  refine wp_def0 rfl ?_
  unfold b_Nplain
  have hsm := c.small
  rw [v_seq]
  simp_arith [Ly.v_fld, Ly.v_meth, Ly.k_me2, Ly.v_make, Ly.k_mk, Ly.v_fldset, Ly.k_fs, Ly.v_fldaug, Ly.k_fa2, Ly.look1, List.mem_cons, List.not_mem_nil, or_false, true_or, or_true, -v_for, -v_seq]
  refine v_disp ?_
  have g1 : ((S ++ [O.dic []]) ++ [O.lst [D.int 0]])[(S ++ [O.dic []]).length]? = some (.lst [D.int 0]) := by simp
  simp_arith [Ly.v_fld, Ly.v_meth, Ly.k_me2, Ly.v_make, Ly.k_mk, Ly.v_fldset, Ly.k_fs, Ly.v_fldaug, Ly.k_fa2, Ly.look1, List.mem_cons, List.not_mem_nil, or_false, true_or, or_true, v_dpCons, k_dp, k_dp2, v_dpNil, k_dp3, show oMul (.ref (S ++ [O.dic []]).length) (.int 16) ((S ++ [O.dic []]) ++ [O.lst [D.int 0]]) = _ from mrep_ok (n := 16) g1 (by omega), -v_seq]
  refine Wp.call (Nmemory_ok hc c hl) ?_
  rintro _ S1 ⟨qm, rfl, hm, hq, hK⟩
  simp_arith [Ly.v_fld, Ly.v_meth, Ly.k_me2, Ly.v_make, Ly.k_mk, Ly.v_fldset, Ly.k_fs, Ly.v_fldaug, Ly.k_fa2, Ly.look1, List.mem_cons, List.not_mem_nil, or_false, true_or, or_true, v_dpCons, k_dp, k_dp2, v_dpNil, k_dp3, -v_seq]
  have hle := hK.le
  simp only [List.length_append, List.length_cons, List.length_nil, Nat.zero_add] at hq hle ⊢
  have hm0 : S1[S.length]? = some (.dic []) := hK.get (i := S.length) (by simp) (by simp)
  have hh0 : S1[S.length + 1 + 1]? = some (.lst ((List.replicate 16 0).map nD)) := hK.get (i := S.length + 1 + 1) (by rw [List.getElem?_append_right (by simp)]; simp) (by simp)
  have hmlt := hm.lt
  generalize hqh : S.length + 1 + 1 = qh at *
  generalize hqo : S1.length = qo at *
  have hm1 : (S1 ++ [O.lst []])[S.length]? = some (.dic []) := by rw [List.getElem?_append_left (Real.lt hm0)]; exact hm0
  refine disp_endG (kvs := macK qh qm qo ((0 : Nat) : Int)) hm1 (by simp [keysP, D.key, macK]) (by simp [macK]) (by simp [mergeD, macK, setK, ofString_inj]) ?_
  have hK2 : Kp [] S S1 := (Kp.new.trans (Kp.new.trans (Kp.new.trans hK)) : Kp [] S S1)
  have hK3 : Kp [] S ((S1 ++ [O.lst []]).set S.length (.dic (macK qh qm qo ((0 : Nat) : Int)))) := hK2.app.setNew (Nat.le_refl _)
  have hi3 := get_put (u := O.dic (macK qh qm qo ((0 : Nat) : Int))) hm1
  have hrun : Run rows.length regs qm qh qo (sizes regs) 0 (ps0 cs) ((S1 ++ [O.lst []]).set S.length (.dic (macK qh qm qo ((0 : Nat) : Int)))) := by
    refine ⟨ps0_ok hc c.ne, ((hm.kp (B := []) Kp.new (by simp)).set (by omega)), ?_, ?_, Nat.zero_le _, hc.dom⟩
    · exact get_set_ne (by rw [List.getElem?_append_left (Real.lt hh0)]; exact hh0) (by omega)
    · exact get_set_ne (by rw [← hqo]; simp [ps0]) (by omega)
  generalize (S1 ++ [O.lst []]).set S.length (.dic (macK qh qm qo ((0 : Nat) : Int))) = S4 at *
  simp_arith [Ly.v_fld, Ly.v_meth, Ly.k_me2, Ly.v_make, Ly.k_mk, Ly.v_fldset, Ly.k_fs, Ly.v_fldaug, Ly.k_fa2, Ly.look1, List.mem_cons, List.not_mem_nil, or_false, true_or, or_true, show ∀ S, oRng1 [.int (n : Int)] S = _ from fun S => rng1 S (by omega) (by omega), Int.toNat_natCast]
  refine wp_rng (fun k l S' => ∃ s o1 o2, l = NplL regs rows cs n S.length .non o1 o2 ∧ Kp [] S S' ∧ k ≤ n ∧ plainN rows n (ps0 cs) = plainN rows (n - k) s ∧ Run rows.length regs qm qh qo (sizes regs) k s S' ∧ S'[S.length]? = some (.dic (macK qh qm qo s.pc))) ⟨ps0 cs, none, none, rfl, hK3, Nat.zero_le _, by rw [Nat.sub_zero], hrun, hi3⟩ ?_ ?_
  · rintro k l S' hk ⟨s, o1, o2, rfl, hK', -, hpl, hr, hi⟩
    have e0 : (0 : Int) + (k : Int) = ((k : Nat) : Int) := by omega
    rw [e0]
    have := Nplain_step (cs := cs) c (n := n) (x := k) (S0 := S) hr hi hK' (Nat.le_refl _) (by omega) (by omega) (by omega) (by omega) (by omega) (by omega) (by omega) (by omega) (by omega) (by omega) (by omega) (o2 := o2)
    unfold NplL at this ⊢
    simp_arith [Ly.v_fld, Ly.v_meth, Ly.k_me2, Ly.v_make, Ly.k_mk, Ly.v_fldset, Ly.k_fs, Ly.v_fldaug, Ly.k_fa2, Ly.look1, List.mem_cons, List.not_mem_nil, or_false, true_or, or_true]
    refine this.mono (fun _ _ _ _ h => h.elim) ?_
    obtain ⟨m, hm⟩ : ∃ m, n - k = m + 1 := ⟨n - k - 1, by omega⟩
    rw [hm, plainN] at hpl
    rintro r S2 ⟨hK2, hcase⟩
    cases hst : (rows.getD s.pc (.stop 0)).stops with
    | some a =>
      simp only [hst] at hcase hpl
      obtain ⟨⟨p1, p2, rfl⟩, hr2, hi2⟩ := hcase
      rw [k_tu_bk]
      have ho : oIx (.ref S.length) (.str "outs") S2 = .ok (.ref qo) S2 := oIx_dic hi2 key_str macK_outs
      simp_arith [Ly.v_fld, Ly.v_meth, Ly.k_me2, Ly.v_make, Ly.k_mk, Ly.v_fldset, Ly.k_fs, Ly.v_fldaug, Ly.k_fa2, Ly.look1, List.mem_cons, List.not_mem_nil, or_false, true_or, or_true, ho, bTuple_lst hr2.outs]
      have hw : oIx (.ref S.length) (.str "words") S2 = .ok (.ref qm) S2 := oIx_dic hi2 key_str macK_words
      simp_arith [Ly.v_fld, Ly.v_meth, Ly.k_me2, Ly.v_make, Ly.k_mk, Ly.v_fldset, Ly.k_fs, Ly.v_fldaug, Ly.k_fa2, Ly.look1, List.mem_cons, List.not_mem_nil, or_false, true_or, or_true, hw]
      refine Wp.call (Nheld_ok hr2.mem c hl hr2.dom) ?_
      rintro _ S5 ⟨rfl, K5⟩
      simp_arith [Ly.v_fld, Ly.v_meth, Ly.k_me2, Ly.v_make, Ly.k_mk, Ly.v_fldset, Ly.k_fs, Ly.v_fldaug, Ly.k_fa2, Ly.look1, List.mem_cons, List.not_mem_nil, or_false, true_or, or_true]
      refine ⟨?_, hK2.trans K5⟩
      unfold plainD; rw [hpl]; rfl
    | none =>
      simp only [hst] at hcase hpl
      obtain ⟨⟨p1, p2, rfl⟩, hr2, hi2⟩ := hcase
      rw [k_tu_nx]
      exact ⟨_, _, _, rfl, hK2, by omega, by rw [hpl]; congr 1; omega, hr2, hi2⟩
  · rintro l S' ⟨s, o1, o2, rfl, hK', -, hpl, hr2, hi2⟩
    rw [Nat.sub_self, plainN] at hpl
    unfold NplL
    have ho : oIx (.ref S.length) (.str "outs") S' = .ok (.ref qo) S' := oIx_dic hi2 key_str macK_outs
    simp_arith [Ly.v_fld, Ly.v_meth, Ly.k_me2, Ly.v_make, Ly.k_mk, Ly.v_fldset, Ly.k_fs, Ly.v_fldaug, Ly.k_fa2, Ly.look1, List.mem_cons, List.not_mem_nil, or_false, true_or, or_true, ho, bTuple_lst hr2.outs]
    have hw : oIx (.ref S.length) (.str "words") S' = .ok (.ref qm) S' := oIx_dic hi2 key_str macK_words
    simp_arith [Ly.v_fld, Ly.v_meth, Ly.k_me2, Ly.v_make, Ly.k_mk, Ly.v_fldset, Ly.k_fs, Ly.v_fldaug, Ly.k_fa2, Ly.look1, List.mem_cons, List.not_mem_nil, or_false, true_or, or_true, hw]
    refine Wp.call (Nheld_ok hr2.mem c hl hr2.dom) ?_
    rintro _ S5 ⟨rfl, K5⟩
    simp_arith [Ly.v_fld, Ly.v_meth, Ly.k_me2, Ly.v_make, Ly.k_mk, Ly.v_fldset, Ly.k_fs, Ly.v_fldaug, Ly.k_fa2, Ly.look1, List.mem_cons, List.not_mem_nil, or_false, true_or, or_true]
    refine ⟨?_, hK'.trans K5⟩
    unfold plainD; rw [hpl]; rfl
theorem depth_map {α : Type} {f : α → D} {n : Nat} {xs : List α} (h : ∀ x, (f x).toP.depth ≤ n) : PyData.depthAll (D.toPs (xs.map f)) ≤ n :=
  depthAll_mem _ fun y hy => by obtain ⟨x, _, rfl⟩ := List.mem_map.mp hy; exact h x
theorem plains_map {α : Type} {f : α → D} {xs : List α} (h : ∀ x, D.plain (f x) = true) : D.plains (xs.map f) = true := by
  rw [plains_mem]; intro y hy; obtain ⟨x, _, rfl⟩ := List.mem_map.mp hy; exact h x
theorem nats_depth {ns : List Nat} : (D.tup (ns.map nD)).toP.depth ≤ 5 := by
  have := depth_map (f := nD) (n := 3) (xs := ns) (fun x => by simp [nD, D.toP, PyData.depth])
  simp only [D.toP, PyData.depth]; omega
theorem nats_plain {ns : List Nat} : D.plain (D.tup (ns.map nD)) = true := plains_map (f := nD) fun x => rfl
theorem ends_depth {f : Mem} : (endsD f regs).toP.depth ≤ 10 := by
  have := depth_map (f := fun r => D.tup ((rgWords f r).map nD)) (n := 5) (xs := regs) (fun x => nats_depth)
  simp only [endsD, D.toP, PyData.depth]; omega
theorem ends_plain {f : Mem} : D.plain (endsD f regs) = true := plains_map (f := fun r => D.tup ((rgWords f r).map nD)) fun x => nats_plain
theorem plainD_same {n : Nat} : cEqD (plainD regs rows cs n) (plainD regs rows cs n) S = some true := by
  unfold plainD
  have hp : D.plains [.tup ((plainN rows n (ps0 cs)).2.outs.map nD), resD (plainN rows n (ps0 cs)).1, endsD (plainN rows n (ps0 cs)).2.mem regs] = true := by
    simp only [D.plains, Bool.and_eq_true, and_true]
    exact ⟨nats_plain, by cases (plainN rows n (ps0 cs)).1 <;> rfl, ends_plain⟩
  have hd : PyData.depthAll (D.toPs [.tup ((plainN rows n (ps0 cs)).2.outs.map nD), resD (plainN rows n (ps0 cs)).1, endsD (plainN rows n (ps0 cs)).2.mem regs]) ≤ 30 := by
    refine depthAll_mem _ fun x hx => ?_
    simp only [List.mem_cons, List.not_mem_nil, or_false] at hx
    rcases hx with rfl | rfl | rfl
    · exact Nat.le_trans nats_depth (by decide)
    · cases (plainN rows n (ps0 cs)).1 <;> simp [resD, nD, D.toP, PyData.depth]
    · exact Nat.le_trans ends_depth (by decide)
  exact cEqD_same rfl (pd_tup hp hd).1 (pd_tup hp hd).1 (pd_tup (S := S) hp hd).2
end
end Ly
set_option Elab.async false
set_option linter.all false
set_option maxRecDepth 100000
namespace GK27
open PySem PySem.Spec L2 Ly
open PyProof.Rows hiding St
def d_GREATEST_WORD : D := (.int 4294967295)
def d_SHIFTS : D := (.int 31)
def d_ACTIONS (cA : Nat → Addr) : List (Str × D) := [("+", (.cst (cA 0))), ("-", (.cst (cA 1))), ("*", (.cst (cA 2))), ("&", (.cst (cA 3))), ("|", (.cst (cA 4))), ("^", (.cst (cA 5))), ("<<", (.cst (cA 6))), (">>", (.cst (cA 7))), ("==", (.cst (cA 8))), ("<", (.cst (cA 9))), ("<=", (.cst (cA 10))), ("div", (.cst (cA 11))), ("mod", (.cst (cA 12)))]
def d_CODE_FORMS : List (Str × D) := [("const", (.wt [(.str "write"), (.str "word")])), ("op", (.wt [(.str "sign"), (.str "write"), (.str "read"), (.str "read")])), ("select", (.wt [(.str "write"), (.str "read"), (.str "read"), (.str "read")])), ("load", (.wt [(.str "write"), (.str "read"), (.str "base"), (.str "mask")])), ("store", (.wt [(.str "read"), (.str "base"), (.str "mask"), (.str "read")])), ("out", (.wt [(.str "read")])), ("jump", (.wt [(.str "target")])), ("branch", (.wt [(.str "read"), (.str "target")])), ("stop", (.wt [(.str "read")]))]
def d_REGISTERS : D := (.int 16)
noncomputable def lb__law_draws_0 : MS := (mIfS (mCmp oGt (mVar 3) (mC (.int 0))) (mSeq (mExpr (mBM "list" oAppend (mVar 1) (lCons (mBin oMod (mVar 3) (mC (.int 1000))) lNil)))
    (mSet 3 (mBin oFdiv (mVar 3) (mC (.int 1000))))) mPass)
noncomputable def lb__law_draws_1 : MS := (mSeq (mSet 5 (mBin oMod (mCall bInt (lCons (mBin oAdd (mBin oAdd (mBin oMul (mVar 5) (mVar 5)) (mBin oMul (mVar 4) (mC (.int 7919)))) (mC (.int 17))) lNil)) (mC (.int 2147483629))))
    (mExpr (mBM "list" oAppend (mVar 1) (lCons (mBin oMod (mVar 5) (mC (.int 1000))) lNil))))
noncomputable def lb__law_draws_2 : MS := (mSeq (mSet 3 (mCall bAbs (lCons (mBin oIx (mVar 0) (mVar 2)) lNil)))
    (mIfS (mCmp oGe (mVar 3) (mBin oPow (mC (.int 10)) (mC (.int 18)))) (mFor (mRng1 (lCons (mC (.int 20)) lNil)) (gN 4) lb__law_draws_0) (mSeq (mSet 5 (mBin oMod (mCall bInt (lCons (mBin oAdd (mBin oAdd (mBin oMul (mBin oIx (mVar 0) (mVar 2)) (mC (.int 48271))) (mBin oMul (mVar 2) (mC (.int 69621)))) (mC (.int 12345))) lNil)) (mC (.int 2147483647))))
    (mFor (mRng1 (lCons (mC (.int 3)) lNil)) (gN 4) lb__law_draws_1))))
noncomputable def b__law_draws : MS := (mSeq (mSet 1 (mLst lNil))
    (mSeq (mFor (mRng1 (lCons (mCall bMin (lCons (mCall bLen (lCons (mVar 0) lNil)) (lCons (mC (.int 63)) lNil))) lNil)) (gN 2) lb__law_draws_2)
    (mRet (mVar 1))))
noncomputable def m__law_draws : MD := mDef 1 5 b__law_draws
theorem len__law_draws (ds : List D) (S : Hs) (h : ds.length ≠ 1) : m__law_draws ds S = .bad := mDef_len ds S h
noncomputable def b__law_reader : MS := (mSeq (mSet 1 (mFn m__law_draws (lCons (mVar 0) lNil)))
    (mSeq (mSet 2 (mC (.int 5)))
    (mSeq (mIfS (mCmp oGt (mCall bLen (lCons (mVar 0) lNil)) (mC (.int 0))) (mSet 2 (mBin oMod (mCall bAbs (lCons (mBin oIx (mVar 0) (mUn oNeg (mC (.int 1)))) lNil)) (mC (.int 1000003)))) mPass)
    (mRet (mDisp (dpCons (mC (.str "row")) (mVar 1) (dpCons (mC (.str "at")) (mC (.int 0)) (dpCons (mC (.str "seed")) (mVar 2) dpNil))))))))
noncomputable def m__law_reader : MD := mDef 1 2 b__law_reader
theorem len__law_reader (ds : List D) (S : Hs) (h : ds.length ≠ 1) : m__law_reader ds S = .bad := mDef_len ds S h
noncomputable def b__law_next : MS := (mSeq (mSet 2 (mBin oIx (mVar 0) (mC (.str "at"))))
    (mSeq (mAsg (mBin oAdd (mVar 2) (mC (.int 1))) (gSb (mVar 0) (mC (.str "at"))))
    (mSeq (mIfS (mCmp oLt (mVar 2) (mCall bLen (lCons (mBin oIx (mVar 0) (mC (.str "row"))) lNil))) (mRet (mBin oMod (mCall bInt (lCons (mBin oIx (mBin oIx (mVar 0) (mC (.str "row"))) (mVar 2)) lNil)) (mVar 1))) mPass)
    (mSeq (mSet 3 (mBin oMod (mCall bInt (lCons (mBin oMul (mBin oAdd (mBin oAdd (mBin oIx (mVar 0) (mC (.str "seed"))) (mBin oMul (mC (.int 17)) (mVar 2))) (mC (.int 3))) (mC (.int 48271))) lNil)) (mC (.int 2147483647))))
    (mRet (mBin oMod (mBin oFdiv (mBin oMod (mCall bInt (lCons (mBin oAdd (mBin oMul (mVar 3) (mVar 3)) (mVar 2)) lNil)) (mC (.int 2147483629))) (mC (.int 7))) (mVar 1)))))))
noncomputable def m__law_next : MD := mDef 2 2 b__law_next
theorem len__law_next (ds : List D) (S : Hs) (h : ds.length ≠ 2) : m__law_next ds S = .bad := mDef_len ds S h
noncomputable def lb__law_regions_0 : MS := (mSeq (mSet 4 (mBin oIx (mLst (lCons (mC (.int 1)) (lCons (mC (.int 2)) (lCons (mC (.int 4)) (lCons (mC (.int 16)) (lCons (mBin oAdd (mC (.int 1)) (mFn m__law_next (lCons (mVar 0) (lCons (mC (.int 30)) lNil)))) lNil)))))) (mFn m__law_next (lCons (mVar 0) (lCons (mC (.int 5)) lNil)))))
    (mSeq (mExpr (mBM "list" oAppend (mVar 1) (lCons (mTup (lCons (mVar 2) (lCons (mVar 4) (lCons (mBin oIx (mLst (lCons (mC (.str "public")) (lCons (mC (.str "secret")) lNil))) (mFn m__law_next (lCons (mVar 0) (lCons (mC (.int 2)) lNil)))) lNil)))) lNil)))
    (mSet 2 (mBin oAdd (mVar 2) (mVar 4)))))
noncomputable def b__law_regions : MS := (mSeq (mSet 1 (mLst lNil))
    (mSeq (mSet 2 (mC (.int 0)))
    (mSeq (mFor (mRng1 (lCons (mBin oAdd (mC (.int 1)) (mFn m__law_next (lCons (mVar 0) (lCons (mC (.int 4)) lNil)))) lNil)) (gN 3) lb__law_regions_0)
    (mRet (mCall bTuple (lCons (mVar 1) lNil))))))
noncomputable def m__law_regions : MD := mDef 1 4 b__law_regions
theorem len__law_regions (ds : List D) (S : Hs) (h : ds.length ≠ 1) : m__law_regions ds S = .bad := mDef_len ds S h
noncomputable def b__law_register : MS := (mRet (mFn m__law_next (lCons (mVar 0) (lCons (mBin oIx (mLst (lCons (mC (.int 3)) (lCons (mC (.int 6)) (lCons (mC (.int 16)) lNil)))) (mFn m__law_next (lCons (mVar 0) (lCons (mC (.int 3)) lNil)))) lNil))))
noncomputable def m__law_register : MD := mDef 1 0 b__law_register
theorem len__law_register (ds : List D) (S : Hs) (h : ds.length ≠ 1) : m__law_register ds S = .bad := mDef_len ds S h
noncomputable def b__law_op : MS := (mSeq (mSet 1 (mBin oIx (mLst (lCons (mC (.str "+")) (lCons (mC (.str "-")) (lCons (mC (.str "*")) (lCons (mC (.str "&")) (lCons (mC (.str "|")) (lCons (mC (.str "^")) (lCons (mC (.str "<<")) (lCons (mC (.str ">>")) (lCons (mC (.str "==")) (lCons (mC (.str "<")) (lCons (mC (.str "<=")) (lCons (mC (.str "div")) (lCons (mC (.str "mod")) lNil)))))))))))))) (mFn m__law_next (lCons (mVar 0) (lCons (mC (.int 13)) lNil)))))
    (mRet (mTup (lCons (mC (.str "op")) (lCons (mVar 1) (lCons (mFn m__law_register (lCons (mVar 0) lNil)) (lCons (mFn m__law_register (lCons (mVar 0) lNil)) (lCons (mFn m__law_register (lCons (mVar 0) lNil)) lNil))))))))
noncomputable def m__law_op : MD := mDef 1 1 b__law_op
theorem len__law_op (ds : List D) (S : Hs) (h : ds.length ≠ 1) : m__law_op ds S = .bad := mDef_len ds S h
noncomputable def c__law_span_0 : MB := (mCmp oLe (mBin oAdd (mBin oMul (mC (.int 2)) (mVar 5)) (mC (.int 2))) (mVar 3))
noncomputable def lb__law_span_1 : MS := (mSet 5 (mBin oAdd (mBin oMul (mC (.int 2)) (mVar 5)) (mC (.int 1))))
noncomputable def b__law_span : MS := (mSeq (mIfS (mCmp oEq (mFn m__law_next (lCons (mVar 0) (lCons (mC (.int 8)) lNil))) (mC (.int 0))) (mRet (mTup (lCons (mFn m__law_next (lCons (mVar 0) (lCons (mC (.int 60)) lNil))) (lCons (mBin oSub (mBin oShl (mC (.int 1)) (mFn m__law_next (lCons (mVar 0) (lCons (mC (.int 6)) lNil)))) (mC (.int 1))) lNil)))) mPass)
    (mSeq (mAsg (mBin oIx (mVar 1) (mFn m__law_next (lCons (mVar 0) (lCons (mCall bLen (lCons (mVar 1) lNil)) lNil)))) (gT 3 (gsC (gN 2) (gsC (gN 3) (gsC (gN 4) gsN)))))
    (mSeq (mSet 5 (mC (.int 0)))
    (mSeq (mWhile c__law_span_0 lb__law_span_1)
    (mRet (mTup (lCons (mVar 2) (lCons (mVar 5) lNil))))))))
noncomputable def m__law_span : MD := mDef 2 4 b__law_span
theorem len__law_span (ds : List D) (S : Hs) (h : ds.length ≠ 2) : m__law_span ds S = .bad := mDef_len ds S h
noncomputable def b__law_word : MS := (mSeq (mSet 1 (mFn m__law_next (lCons (mVar 0) (lCons (mC (.int 4)) lNil))))
    (mSeq (mIfS (mCmp oEq (mVar 1) (mC (.int 0))) (mRet (mFn m__law_next (lCons (mVar 0) (lCons (mC (.int 3)) lNil)))) mPass)
    (mSeq (mIfS (mCmp oEq (mVar 1) (mC (.int 1))) (mRet (mFn m__law_next (lCons (mVar 0) (lCons (mC (.int 70)) lNil)))) mPass)
    (mSeq (mIfS (mCmp oEq (mVar 1) (mC (.int 2))) (mRet (mBin oSub (mC (.int 4294967295)) (mFn m__law_next (lCons (mVar 0) (lCons (mC (.int 9)) lNil))))) mPass)
    (mRet (mBin oMod (mCall bInt (lCons (mBin oAdd (mBin oMul (mFn m__law_next (lCons (mVar 0) (lCons (mC (.int 1000)) lNil))) (mC (.int 4294967))) (mBin oMul (mFn m__law_next (lCons (mVar 0) (lCons (mC (.int 1000)) lNil))) (mC (.int 4297)))) lNil)) (mC (.int 4294967296))))))))
noncomputable def m__law_word : MD := mDef 1 1 b__law_word
theorem len__law_word (ds : List D) (S : Hs) (h : ds.length ≠ 1) : m__law_word ds S = .bad := mDef_len ds S h
noncomputable def b__law_row : MS := (mSeq (mSet 4 (mFn m__law_next (lCons (mVar 0) (lCons (mC (.int 20)) lNil))))
    (mSeq (mIfS (mCmp oLt (mVar 4) (mC (.int 4))) (mRet (mTup (lCons (mC (.str "const")) (lCons (mFn m__law_register (lCons (mVar 0) lNil)) (lCons (mFn m__law_word (lCons (mVar 0) lNil)) lNil))))) mPass)
    (mSeq (mIfS (mCmp oLt (mVar 4) (mC (.int 8))) (mRet (mFn m__law_op (lCons (mVar 0) lNil))) mPass)
    (mSeq (mIfS (mCmp oEq (mVar 4) (mC (.int 8))) (mRet (mTup (lCons (mC (.str "select")) (lCons (mFn m__law_register (lCons (mVar 0) lNil)) (lCons (mFn m__law_register (lCons (mVar 0) lNil)) (lCons (mFn m__law_register (lCons (mVar 0) lNil)) (lCons (mFn m__law_register (lCons (mVar 0) lNil)) lNil))))))) mPass)
    (mSeq (mIfS (mCmp oLt (mVar 4) (mC (.int 12))) (mSeq (mAsg (mFn m__law_span (lCons (mVar 0) (lCons (mVar 3) lNil))) (gT 2 (gsC (gN 5) (gsC (gN 6) gsN))))
    (mRet (mTup (lCons (mC (.str "load")) (lCons (mFn m__law_register (lCons (mVar 0) lNil)) (lCons (mFn m__law_register (lCons (mVar 0) lNil)) (lCons (mVar 5) (lCons (mVar 6) lNil)))))))) mPass)
    (mSeq (mIfS (mCmp oLt (mVar 4) (mC (.int 14))) (mSeq (mAsg (mFn m__law_span (lCons (mVar 0) (lCons (mVar 3) lNil))) (gT 2 (gsC (gN 5) (gsC (gN 6) gsN))))
    (mRet (mTup (lCons (mC (.str "store")) (lCons (mFn m__law_register (lCons (mVar 0) lNil)) (lCons (mVar 5) (lCons (mVar 6) (lCons (mFn m__law_register (lCons (mVar 0) lNil)) lNil)))))))) mPass)
    (mSeq (mIfS (mCmp oEq (mVar 4) (mC (.int 14))) (mRet (mTup (lCons (mC (.str "out")) (lCons (mFn m__law_register (lCons (mVar 0) lNil)) lNil)))) mPass)
    (mSeq (mIfS (mCmp oEq (mVar 4) (mC (.int 15))) (mRet (mTup (lCons (mC (.str "jump")) (lCons (mCall bMin (lCons (mBin oSub (mVar 2) (mC (.int 1))) (lCons (mBin oAdd (mBin oAdd (mVar 1) (mC (.int 1))) (mFn m__law_next (lCons (mVar 0) (lCons (mC (.int 5)) lNil)))) lNil))) lNil)))) mPass)
    (mSeq (mIfS (mAndB (mCmp oEq (mVar 4) (mC (.int 16))) (mCmp oEq (mFn m__law_next (lCons (mVar 0) (lCons (mC (.int 4)) lNil))) (mC (.int 0)))) (mRet (mTup (lCons (mC (.str "stop")) (lCons (mFn m__law_register (lCons (mVar 0) lNil)) lNil)))) mPass)
    (mSeq (mIfS (mCmp oEq (mVar 4) (mC (.int 17))) (mRet (mTup (lCons (mC (.str "branch")) (lCons (mFn m__law_register (lCons (mVar 0) lNil)) (lCons (mFn m__law_next (lCons (mVar 0) (lCons (mVar 2) lNil))) lNil))))) mPass)
    (mRet (mTup (lCons (mC (.str "branch")) (lCons (mFn m__law_register (lCons (mVar 0) lNil)) (lCons (mCall bMin (lCons (mBin oSub (mVar 2) (mC (.int 1))) (lCons (mBin oAdd (mBin oAdd (mVar 1) (mC (.int 1))) (mFn m__law_next (lCons (mVar 0) (lCons (mC (.int 6)) lNil)))) lNil))) lNil)))))))))))))))
noncomputable def m__law_row : MD := mDef 4 3 b__law_row
theorem len__law_row (ds : List D) (S : Hs) (h : ds.length ≠ 4) : m__law_row ds S = .bad := mDef_len ds S h
noncomputable def b__law_code : MS := (mSeq (mSet 1 (mFn m__law_regions (lCons (mVar 0) lNil)))
    (mSeq (mSet 2 (mBin oAdd (mBin oAdd (mC (.int 1)) (mBin oIx (mLst (lCons (mC (.int 2)) (lCons (mC (.int 8)) (lCons (mC (.int 30)) lNil)))) (mFn m__law_next (lCons (mVar 0) (lCons (mC (.int 3)) lNil))))) (mFn m__law_next (lCons (mVar 0) (lCons (mC (.int 12)) lNil)))))
    (mSeq (mSet 3 (mLc (mRng1 (lCons (mBin oSub (mVar 2) (mC (.int 1))) lNil)) (cN 4) mYes (mFn m__law_row (lCons (mVar 0) (lCons (mVar 4) (lCons (mVar 2) (lCons (mVar 1) lNil))))) [4]))
    (mSeq (mIfS (mCmp oEq (mFn m__law_next (lCons (mVar 0) (lCons (mC (.int 4)) lNil))) (mC (.int 0))) (mExpr (mBM "list" oAppend (mVar 3) (lCons (mTup (lCons (mC (.str "jump")) (lCons (mFn m__law_next (lCons (mVar 0) (lCons (mVar 2) lNil))) lNil))) lNil))) (mExpr (mBM "list" oAppend (mVar 3) (lCons (mTup (lCons (mC (.str "stop")) (lCons (mFn m__law_register (lCons (mVar 0) lNil)) lNil))) lNil))))
    (mRet (mTup (lCons (mVar 1) (lCons (mCall bTuple (lCons (mVar 3) lNil)) lNil))))))))
noncomputable def m__law_code : MD := mDef 1 4 b__law_code
theorem len__law_code (ds : List D) (S : Hs) (h : ds.length ≠ 1) : m__law_code ds S = .bad := mDef_len ds S h
noncomputable def b__law_contents : MS := (mRet (mCall bTuple (lCons (mLc (mIt (mBin oIx (mVar 1) (mC (.int 0)))) (cT [2, 3, 4]) mYes (mCall bTuple (lCons (mLc (mRng1 (lCons (mVar 3) lNil)) (cN 5) mYes (mFn m__law_word (lCons (mVar 0) lNil)) [5]) lNil)) [2, 3, 4]) lNil)))
noncomputable def m__law_contents : MD := mDef 2 4 b__law_contents
theorem len__law_contents (ds : List D) (S : Hs) (h : ds.length ≠ 2) : m__law_contents ds S = .bad := mDef_len ds S h
noncomputable def lb_memory_of_0 : MS := (mExpr (mBM "list" oExtendA (mVar 1) (lCons (mVar 2) lNil)))
noncomputable def b_memory_of : MS := (mSeq (mSet 1 (mLst lNil))
    (mSeq (mFor (mIt (mVar 0)) (gN 2) lb_memory_of_0)
    (mRet (mUn oDE (mVar 1)))))
noncomputable def m_memory_of : MD := mDef 1 2 b_memory_of
theorem len_memory_of (ds : List D) (S : Hs) (h : ds.length ≠ 1) : m_memory_of ds S = .bad := mDef_len ds S h
noncomputable def b_contents_of : MS := (mRet (mCall bTuple (lCons (mLc (mIt (mVar 0)) (cT [2, 3, 4]) mYes (mCall bTuple (lCons (mLc (mRng2 (lCons (mVar 2) (lCons (mBin oAdd (mVar 2) (mVar 3)) lNil))) (cN 5) mYes (mBin oIx (mVar 1) (mVar 5)) [5]) lNil)) [2, 3, 4]) lNil)))
noncomputable def m_contents_of : MD := mDef 2 4 b_contents_of
theorem len_contents_of (ds : List D) (S : Hs) (h : ds.length ≠ 2) : m_contents_of ds S = .bad := mDef_len ds S h
noncomputable def b_address_of : MS := (mSeq (mIfS (mCmp oEq (mBin oIx (mVar 0) (mC (.int 0))) (mC (.str "load"))) (mRet (mBin oAdd (mBin oIx (mVar 0) (mC (.int 3))) (mBin oAnd (mBin oIx (mVar 1) (mBin oIx (mVar 0) (mC (.int 2)))) (mBin oIx (mVar 0) (mC (.int 4)))))) mPass)
    (mRet (mBin oAdd (mBin oIx (mVar 0) (mC (.int 2))) (mBin oAnd (mBin oIx (mVar 1) (mBin oIx (mVar 0) (mC (.int 1)))) (mBin oIx (mVar 0) (mC (.int 3)))))))
noncomputable def m_address_of : MD := mDef 2 0 b_address_of
theorem len_address_of (ds : List D) (S : Hs) (h : ds.length ≠ 2) : m_address_of ds S = .bad := mDef_len ds S h
noncomputable def b__plus : MS := (mRet (mBin oAnd (mBin oAdd (mVar 0) (mVar 1)) (mC d_GREATEST_WORD)))
noncomputable def m__plus : MD := mDef 2 0 b__plus
theorem len__plus (ds : List D) (S : Hs) (h : ds.length ≠ 2) : m__plus ds S = .bad := mDef_len ds S h
noncomputable def b__minus : MS := (mRet (mBin oAnd (mBin oSub (mVar 0) (mVar 1)) (mC d_GREATEST_WORD)))
noncomputable def m__minus : MD := mDef 2 0 b__minus
theorem len__minus (ds : List D) (S : Hs) (h : ds.length ≠ 2) : m__minus ds S = .bad := mDef_len ds S h
noncomputable def b__times : MS := (mRet (mBin oAnd (mBin oMul (mVar 0) (mVar 1)) (mC d_GREATEST_WORD)))
noncomputable def m__times : MD := mDef 2 0 b__times
theorem len__times (ds : List D) (S : Hs) (h : ds.length ≠ 2) : m__times ds S = .bad := mDef_len ds S h
noncomputable def b__both : MS := (mRet (mBin oAnd (mVar 0) (mVar 1)))
noncomputable def m__both : MD := mDef 2 0 b__both
theorem len__both (ds : List D) (S : Hs) (h : ds.length ≠ 2) : m__both ds S = .bad := mDef_len ds S h
noncomputable def b__either : MS := (mRet (mBin oOr (mVar 0) (mVar 1)))
noncomputable def m__either : MD := mDef 2 0 b__either
theorem len__either (ds : List D) (S : Hs) (h : ds.length ≠ 2) : m__either ds S = .bad := mDef_len ds S h
noncomputable def b__apart : MS := (mRet (mBin oXor (mVar 0) (mVar 1)))
noncomputable def m__apart : MD := mDef 2 0 b__apart
theorem len__apart (ds : List D) (S : Hs) (h : ds.length ≠ 2) : m__apart ds S = .bad := mDef_len ds S h
noncomputable def b__left : MS := (mRet (mBin oAnd (mBin oShl (mVar 0) (mBin oAnd (mVar 1) (mC d_SHIFTS))) (mC d_GREATEST_WORD)))
noncomputable def m__left : MD := mDef 2 0 b__left
theorem len__left (ds : List D) (S : Hs) (h : ds.length ≠ 2) : m__left ds S = .bad := mDef_len ds S h
noncomputable def b__right : MS := (mRet (mBin oShr (mVar 0) (mBin oAnd (mVar 1) (mC d_SHIFTS))))
noncomputable def m__right : MD := mDef 2 0 b__right
theorem len__right (ds : List D) (S : Hs) (h : ds.length ≠ 2) : m__right ds S = .bad := mDef_len ds S h
noncomputable def b__equal : MS := (mRet (mIf (mCmp oEq (mVar 0) (mVar 1)) (mC (.int 1)) (mC (.int 0))))
noncomputable def m__equal : MD := mDef 2 0 b__equal
theorem len__equal (ds : List D) (S : Hs) (h : ds.length ≠ 2) : m__equal ds S = .bad := mDef_len ds S h
noncomputable def b__less : MS := (mRet (mIf (mCmp oLt (mVar 0) (mVar 1)) (mC (.int 1)) (mC (.int 0))))
noncomputable def m__less : MD := mDef 2 0 b__less
theorem len__less (ds : List D) (S : Hs) (h : ds.length ≠ 2) : m__less ds S = .bad := mDef_len ds S h
noncomputable def b__at_most : MS := (mRet (mIf (mCmp oLe (mVar 0) (mVar 1)) (mC (.int 1)) (mC (.int 0))))
noncomputable def m__at_most : MD := mDef 2 0 b__at_most
theorem len__at_most (ds : List D) (S : Hs) (h : ds.length ≠ 2) : m__at_most ds S = .bad := mDef_len ds S h
noncomputable def b__div : MS := (mRet (mIf (mCmp oEq (mVar 1) (mC (.int 0))) (mC (.int 0)) (mBin oFdiv (mVar 0) (mVar 1))))
noncomputable def m__div : MD := mDef 2 0 b__div
theorem len__div (ds : List D) (S : Hs) (h : ds.length ≠ 2) : m__div ds S = .bad := mDef_len ds S h
noncomputable def b__mod : MS := (mRet (mIf (mCmp oEq (mVar 1) (mC (.int 0))) (mVar 0) (mBin oMod (mVar 0) (mVar 1))))
noncomputable def m__mod : MD := mDef 2 0 b__mod
theorem len__mod (ds : List D) (S : Hs) (h : ds.length ≠ 2) : m__mod ds S = .bad := mDef_len ds S h
noncomputable def b_apply (cA : Nat → Addr) : MS := (mSeq (mSet 3 (mIxK (d_ACTIONS cA) (mVar 0)))
    (mRet (mCalA [(cA 0, m__plus), (cA 1, m__minus), (cA 2, m__times), (cA 3, m__both), (cA 4, m__either), (cA 5, m__apart), (cA 6, m__left), (cA 7, m__right), (cA 8, m__equal), (cA 9, m__less), (cA 10, m__at_most), (cA 11, m__div), (cA 12, m__mod)] 3 (lCons (mVar 1) (lCons (mVar 2) lNil)))))
noncomputable def m_apply (cA : Nat → Addr) : MD := mDef 3 1 (b_apply cA)
theorem len_apply {cA : Nat → Addr} (ds : List D) (S : Hs) (h : ds.length ≠ 3) : (m_apply cA) ds S = .bad := mDef_len ds S h
noncomputable def b_word_of (cA : Nat → Addr) : MS := (mSeq (mIfS (mCmp oEq (mBin oIx (mVar 0) (mC (.int 0))) (mC (.str "op"))) (mRet (mFn (m_apply cA) (lCons (mBin oIx (mVar 0) (mC (.int 1))) (lCons (mBin oIx (mVar 1) (mBin oIx (mVar 0) (mC (.int 3)))) (lCons (mBin oIx (mVar 1) (mBin oIx (mVar 0) (mC (.int 4)))) lNil))))) mPass)
    (mSeq (mIfS (mCmp oEq (mBin oIx (mVar 0) (mC (.int 0))) (mC (.str "const"))) (mRet (mBin oIx (mVar 0) (mC (.int 2)))) mPass)
    (mRet (mIf (mCmp oNe (mBin oIx (mVar 1) (mBin oIx (mVar 0) (mC (.int 2)))) (mC (.int 0))) (mBin oIx (mVar 1) (mBin oIx (mVar 0) (mC (.int 3)))) (mBin oIx (mVar 1) (mBin oIx (mVar 0) (mC (.int 4))))))))
noncomputable def m_word_of (cA : Nat → Addr) : MD := mDef 2 0 (b_word_of cA)
theorem len_word_of {cA : Nat → Addr} (ds : List D) (S : Hs) (h : ds.length ≠ 2) : (m_word_of cA) ds S = .bad := mDef_len ds S h
noncomputable def lb_writes_0 : MS := (mIfS (mCmp oEq (mVar 2) (mC (.str "write"))) (mRet (mVar 1)) mPass)
noncomputable def b_writes : MS := (mSeq (mFor (mZip (lCons (mSl (mVar 0) (oSome (mC (.int 1))) oNo) (lCons (mIxK d_CODE_FORMS (mBin oIx (mVar 0) (mC (.int 0)))) lNil))) (gT 2 (gsC (gN 1) (gsC (gN 2) gsN))) lb_writes_0)
    (mRet (mUn oNeg (mC (.int 1)))))
noncomputable def m_writes : MD := mDef 1 2 b_writes
theorem len_writes (ds : List D) (S : Hs) (h : ds.length ≠ 1) : m_writes ds S = .bad := mDef_len ds S h
noncomputable def lb_plain_run_0 (cA : Nat → Addr) : MS := (mSeq (mSet 11 (mBin oIx (mVar 4) (mVar 9)))
    (mSeq (mSet 12 (mBin oIx (mVar 11) (mC (.int 0))))
    (mSeq (mAug 9 oIAdd (mC (.int 1)))
    (mIfS (mCmp oEq (mVar 12) (mC (.str "jump"))) (mSet 9 (mBin oIx (mVar 11) (mC (.int 1)))) (mIfS (mCmp oEq (mVar 12) (mC (.str "branch"))) (mIfS (mCmp oNe (mBin oIx (mVar 6) (mBin oIx (mVar 11) (mC (.int 1)))) (mC (.int 0))) (mSet 9 (mBin oIx (mVar 11) (mC (.int 2)))) mPass) (mIfS (mCmp oEq (mVar 12) (mC (.str "load"))) (mAsg (mGet2 (mVar 5) (mFn m_address_of (lCons (mVar 11) (lCons (mVar 6) lNil))) (mC (.int 0))) (gSb (mVar 6) (mBin oIx (mVar 11) (mC (.int 1))))) (mIfS (mCmp oEq (mVar 12) (mC (.str "store"))) (mAsg (mBin oIx (mVar 6) (mBin oIx (mVar 11) (mC (.int 4)))) (gSb (mVar 5) (mFn m_address_of (lCons (mVar 11) (lCons (mVar 6) lNil))))) (mIfS (mCmp oEq (mVar 12) (mC (.str "out"))) (mExpr (mBM "list" oAppend (mVar 7) (lCons (mBin oIx (mVar 6) (mBin oIx (mVar 11) (mC (.int 1)))) lNil))) (mIfS (mCmp oEq (mVar 12) (mC (.str "stop"))) (mSeq (mSet 8 (mBin oIx (mVar 6) (mBin oIx (mVar 11) (mC (.int 1)))))
    mBrk) (mAsg (mFn (m_word_of cA) (lCons (mVar 11) (lCons (mVar 6) lNil))) (gSb (mVar 6) (mFn m_writes (lCons (mVar 11) lNil)))))))))))))
noncomputable def b_plain_run (cA : Nat → Addr) : MS := (mSeq (mAsg (mVar 0) (gT 2 (gsC (gN 3) (gsC (gN 4) gsN))))
    (mSeq (mSet 5 (mFn m_memory_of (lCons (mVar 1) lNil)))
    (mSeq (mSet 6 (mBin oMul (mLst (lCons (mC (.int 0)) lNil)) (mC d_REGISTERS)))
    (mSeq (mSet 7 (mLst lNil))
    (mSeq (mSet 8 (mC .non))
    (mSeq (mSet 9 (mC (.int 0)))
    (mSeq (mFor (mRng1 (lCons (mVar 2) lNil)) (gN 10) (lb_plain_run_0 cA))
    (mRet (mTup (lCons (mCall bTuple (lCons (mVar 7) lNil)) (lCons (mVar 8) (lCons (mFn m_contents_of (lCons (mVar 3) (lCons (mVar 5) lNil))) lNil))))))))))))
noncomputable def m_plain_run (cA : Nat → Addr) : MD := mDef 3 10 (b_plain_run cA)
theorem len_plain_run {cA : Nat → Addr} (ds : List D) (S : Hs) (h : ds.length ≠ 3) : (m_plain_run cA) ds S = .bad := mDef_len ds S h
noncomputable def lb__law_memory_0 : MS := (mAsg (mBin oIx (mBin oIx (mVar 1) (mVar 3)) (mVar 4)) (gSb (mVar 2) (mBin oAdd (mBin oIx (mBin oIx (mBin oIx (mVar 0) (mC (.int 0))) (mVar 3)) (mC (.int 0))) (mVar 4))))
noncomputable def lb__law_memory_1 : MS := (mFor (mRng1 (lCons (mBin oIx (mBin oIx (mBin oIx (mVar 0) (mC (.int 0))) (mVar 3)) (mC (.int 1))) lNil)) (gN 4) lb__law_memory_0)
noncomputable def b__law_memory : MS := (mSeq (mSet 2 mDicK)
    (mSeq (mFor (mRng1 (lCons (mCall bLen (lCons (mBin oIx (mVar 0) (mC (.int 0))) lNil)) lNil)) (gN 3) lb__law_memory_1)
    (mRet (mVar 2))))
noncomputable def m__law_memory : MD := mDef 2 3 b__law_memory
theorem len__law_memory (ds : List D) (S : Hs) (h : ds.length ≠ 2) : m__law_memory ds S = .bad := mDef_len ds S h
noncomputable def b__law_apply : MS := (mSeq (mIfS (mCmp oIn (mVar 0) (mLst (lCons (mC (.str "+")) (lCons (mC (.str "-")) (lCons (mC (.str "*")) lNil))))) (mRet (mBin oMod (mCall bInt (lCons (mBin oIx (mDisp (dpCons (mC (.str "+")) (mBin oAdd (mVar 1) (mVar 2)) (dpCons (mC (.str "-")) (mBin oSub (mVar 1) (mVar 2)) (dpCons (mC (.str "*")) (mBin oMul (mVar 1) (mVar 2)) dpNil)))) (mVar 0)) lNil)) (mC (.int 4294967296)))) mPass)
    (mSeq (mIfS (mCmp oIn (mVar 0) (mLst (lCons (mC (.str "&")) (lCons (mC (.str "|")) (lCons (mC (.str "^")) lNil))))) (mRet (mBin oIx (mDisp (dpCons (mC (.str "&")) (mBin oAnd (mVar 1) (mVar 2)) (dpCons (mC (.str "|")) (mBin oOr (mVar 1) (mVar 2)) (dpCons (mC (.str "^")) (mBin oXor (mVar 1) (mVar 2)) dpNil)))) (mVar 0))) mPass)
    (mSeq (mIfS (mCmp oEq (mVar 0) (mC (.str "<<"))) (mRet (mBin oMod (mCall bInt (lCons (mBin oMul (mVar 1) (mBin oShl (mC (.int 1)) (mBin oMod (mVar 2) (mC (.int 32))))) lNil)) (mC (.int 4294967296)))) mPass)
    (mSeq (mIfS (mCmp oEq (mVar 0) (mC (.str ">>"))) (mRet (mBin oFdiv (mVar 1) (mBin oShl (mC (.int 1)) (mBin oMod (mVar 2) (mC (.int 32)))))) mPass)
    (mSeq (mIfS (mCmp oIn (mVar 0) (mLst (lCons (mC (.str "==")) (lCons (mC (.str "<")) (lCons (mC (.str "<=")) lNil))))) (mRet (mCall bInt (lCons (mBin oIx (mDisp (dpCons (mC (.str "==")) (mBin oEq (mVar 1) (mVar 2)) (dpCons (mC (.str "<")) (mBin oLt (mVar 1) (mVar 2)) (dpCons (mC (.str "<=")) (mBin oLe (mVar 1) (mVar 2)) dpNil)))) (mVar 0)) lNil))) mPass)
    (mSeq (mIfS (mCmp oEq (mVar 2) (mC (.int 0))) (mRet (mBin oIx (mDisp (dpCons (mC (.str "div")) (mC (.int 0)) (dpCons (mC (.str "mod")) (mVar 1) dpNil))) (mVar 0))) mPass)
    (mRet (mBin oIx (mDisp (dpCons (mC (.str "div")) (mBin oFdiv (mVar 1) (mVar 2)) (dpCons (mC (.str "mod")) (mBin oMod (mVar 1) (mVar 2)) dpNil))) (mVar 0)))))))))
noncomputable def m__law_apply : MD := mDef 3 0 b__law_apply
theorem len__law_apply (ds : List D) (S : Hs) (h : ds.length ≠ 3) : m__law_apply ds S = .bad := mDef_len ds S h
noncomputable def b__law_do : MS := (mSeq (mSet 2 (mBin oIx (mVar 0) (mC (.str "held"))))
    (mSeq (mIfS (mCmp oEq (mBin oIx (mVar 1) (mC (.int 0))) (mC (.str "const"))) (mAsg (mBin oIx (mVar 1) (mC (.int 2))) (gSb (mVar 2) (mBin oIx (mVar 1) (mC (.int 1))))) mPass)
    (mSeq (mIfS (mCmp oEq (mBin oIx (mVar 1) (mC (.int 0))) (mC (.str "op"))) (mAsg (mFn m__law_apply (lCons (mBin oIx (mVar 1) (mC (.int 1))) (lCons (mBin oIx (mVar 2) (mBin oIx (mVar 1) (mC (.int 3)))) (lCons (mBin oIx (mVar 2) (mBin oIx (mVar 1) (mC (.int 4)))) lNil)))) (gSb (mVar 2) (mBin oIx (mVar 1) (mC (.int 2))))) mPass)
    (mSeq (mIfS (mCmp oEq (mBin oIx (mVar 1) (mC (.int 0))) (mC (.str "select"))) (mAsg (mBin oIx (mVar 2) (mBin oIx (mVar 1) (mBin oAdd (mC (.int 3)) (mCall bInt (lCons (mBin oEq (mBin oIx (mVar 2) (mBin oIx (mVar 1) (mC (.int 2)))) (mC (.int 0))) lNil))))) (gSb (mVar 2) (mBin oIx (mVar 1) (mC (.int 1))))) mPass)
    (mSeq (mIfS (mCmp oEq (mBin oIx (mVar 1) (mC (.int 0))) (mC (.str "load"))) (mAsg (mGet2 (mBin oIx (mVar 0) (mC (.str "words"))) (mBin oAdd (mBin oIx (mVar 1) (mC (.int 3))) (mBin oAnd (mBin oIx (mVar 2) (mBin oIx (mVar 1) (mC (.int 2)))) (mBin oIx (mVar 1) (mC (.int 4))))) (mC (.int 0))) (gSb (mVar 2) (mBin oIx (mVar 1) (mC (.int 1))))) mPass)
    (mSeq (mIfS (mCmp oEq (mBin oIx (mVar 1) (mC (.int 0))) (mC (.str "store"))) (mAsg (mBin oIx (mVar 2) (mBin oIx (mVar 1) (mC (.int 4)))) (gSb (mBin oIx (mVar 0) (mC (.str "words"))) (mBin oAdd (mBin oIx (mVar 1) (mC (.int 2))) (mBin oAnd (mBin oIx (mVar 2) (mBin oIx (mVar 1) (mC (.int 1)))) (mBin oIx (mVar 1) (mC (.int 3))))))) mPass)
    (mIfS (mCmp oEq (mBin oIx (mVar 1) (mC (.int 0))) (mC (.str "out"))) (mExpr (mBM "list" oAppend (mBin oIx (mVar 0) (mC (.str "outs"))) (lCons (mBin oIx (mVar 2) (mBin oIx (mVar 1) (mC (.int 1)))) lNil))) mPass)))))))
noncomputable def m__law_do : MD := mDef 2 1 b__law_do
theorem len__law_do (ds : List D) (S : Hs) (h : ds.length ≠ 2) : m__law_do ds S = .bad := mDef_len ds S h
noncomputable def b__law_next_row : MS := (mSeq (mIfS (mCmp oEq (mBin oIx (mVar 1) (mC (.int 0))) (mC (.str "jump"))) (mRet (mBin oIx (mVar 1) (mC (.int 1)))) mPass)
    (mSeq (mIfS (mAndB (mCmp oEq (mBin oIx (mVar 1) (mC (.int 0))) (mC (.str "branch"))) (mCmp oNe (mBin oIx (mBin oIx (mVar 0) (mC (.str "held"))) (mBin oIx (mVar 1) (mC (.int 1)))) (mC (.int 0)))) (mRet (mBin oIx (mVar 1) (mC (.int 2)))) mPass)
    (mRet (mBin oAdd (mBin oIx (mVar 0) (mC (.str "at"))) (mC (.int 1))))))
noncomputable def m__law_next_row : MD := mDef 2 0 b__law_next_row
theorem len__law_next_row (ds : List D) (S : Hs) (h : ds.length ≠ 2) : m__law_next_row ds S = .bad := mDef_len ds S h
noncomputable def b__law_held : MS := (mRet (mCall bTuple (lCons (mLc (mIt (mBin oIx (mVar 0) (mC (.int 0)))) (cT [2, 3, 4]) mYes (mCall bTuple (lCons (mLc (mRng1 (lCons (mVar 3) lNil)) (cN 5) mYes (mBin oIx (mVar 1) (mBin oAdd (mVar 2) (mVar 5))) [5]) lNil)) [2, 3, 4]) lNil)))
noncomputable def m__law_held : MD := mDef 2 4 b__law_held
theorem len__law_held (ds : List D) (S : Hs) (h : ds.length ≠ 2) : m__law_held ds S = .bad := mDef_len ds S h
noncomputable def lb__law_plain_0 : MS := (mSeq (mSet 6 (mBin oIx (mBin oIx (mVar 0) (mC (.int 1))) (mBin oIx (mVar 3) (mC (.str "at")))))
    (mSeq (mIfS (mCmp oEq (mBin oIx (mVar 6) (mC (.int 0))) (mC (.str "stop"))) (mSeq (mSet 4 (mBin oIx (mBin oIx (mVar 3) (mC (.str "held"))) (mBin oIx (mVar 6) (mC (.int 1)))))
    mBrk) mPass)
    (mSeq (mExpr (mFn m__law_do (lCons (mVar 3) (lCons (mVar 6) lNil))))
    (mAsg (mFn m__law_next_row (lCons (mVar 3) (lCons (mVar 6) lNil))) (gSb (mVar 3) (mC (.str "at")))))))
noncomputable def b__law_plain : MS := (mSeq (mSet 3 (mDisp (dpCons (mC (.str "held")) (mBin oMul (mLst (lCons (mC (.int 0)) lNil)) (mC (.int 16))) (dpCons (mC (.str "words")) (mFn m__law_memory (lCons (mVar 0) (lCons (mVar 1) lNil))) (dpCons (mC (.str "outs")) (mLst lNil) (dpCons (mC (.str "at")) (mC (.int 0)) dpNil))))))
    (mSeq (mSet 4 (mC .non))
    (mSeq (mFor (mRng1 (lCons (mVar 2) lNil)) (gN 5) lb__law_plain_0)
    (mRet (mTup (lCons (mCall bTuple (lCons (mBin oIx (mVar 3) (mC (.str "outs"))) lNil)) (lCons (mVar 4) (lCons (mFn m__law_held (lCons (mVar 0) (lCons (mBin oIx (mVar 3) (mC (.str "words"))) lNil))) lNil))))))))
noncomputable def m__law_plain : MD := mDef 3 4 b__law_plain
theorem len__law_plain (ds : List D) (S : Hs) (h : ds.length ≠ 3) : m__law_plain ds S = .bad := mDef_len ds S h
noncomputable def b_law (cA : Nat → Addr) : MS := (mSeq (mSet 1 (mFn m__law_reader (lCons (mVar 0) lNil)))
    (mSeq (mSet 2 (mFn m__law_code (lCons (mVar 1) lNil)))
    (mSeq (mSet 3 (mFn m__law_contents (lCons (mVar 1) (lCons (mVar 2) lNil))))
    (mSeq (mSet 4 (mBin oIx (mLst (lCons (mFn m__law_next (lCons (mVar 1) (lCons (mC (.int 12)) lNil))) (lCons (mC (.int 150)) lNil))) (mFn m__law_next (lCons (mVar 1) (lCons (mC (.int 2)) lNil)))))
    (mSeq (mSet 5 (mFn (m_plain_run cA) (lCons (mVar 2) (lCons (mVar 3) (lCons (mVar 4) lNil)))))
    (mSeq (mSet 6 (mFn m__law_plain (lCons (mVar 2) (lCons (mVar 3) (lCons (mVar 4) lNil)))))
    (mRet (mAnd (mUn (oIsi "tuple") (mVar 5)) (mAnd (mBin oEq (mVar 5) (mVar 6)) (mBin oEq (mFn (m_plain_run cA) (lCons (mVar 2) (lCons (mVar 3) (lCons (mVar 4) lNil)))) (mVar 6)))))))))))
noncomputable def m_law (cA : Nat → Addr) : MD := mDef 1 6 (b_law cA)
theorem len_law {cA : Nat → Addr} (ds : List D) (S : Hs) (h : ds.length ≠ 1) : (m_law cA) ds S = .bad := mDef_len ds S h
end GK27
set_option Elab.async false
set_option linter.all false
set_option maxRecDepth 100000
set_option maxHeartbeats 4000000
namespace GK27
open PySem PySem.Spec L2 Ly
open PyProof.Rows hiding St
def top (i : Nat) : Stmt := PySem.Challenge.pw_sameclock_k27_code_row_by_row.main.body.getD i (.Pass ⟨0, 0, 0, 0⟩)
abbrev s__law_draws : Stmt := top 30
abbrev s__law_reader : Stmt := top 31
abbrev s__law_next : Stmt := top 32
abbrev s__law_regions : Stmt := top 34
abbrev s__law_register : Stmt := top 36
abbrev s__law_op : Stmt := top 37
abbrev s__law_span : Stmt := top 35
abbrev s__law_word : Stmt := top 33
abbrev s__law_row : Stmt := top 38
abbrev s__law_code : Stmt := top 39
abbrev s__law_contents : Stmt := top 40
abbrev s_memory_of : Stmt := top 23
abbrev s_contents_of : Stmt := top 24
abbrev s_address_of : Stmt := top 25
abbrev s__plus : Stmt := top 3
abbrev s__minus : Stmt := top 4
abbrev s__times : Stmt := top 5
abbrev s__both : Stmt := top 6
abbrev s__either : Stmt := top 7
abbrev s__apart : Stmt := top 8
abbrev s__left : Stmt := top 9
abbrev s__right : Stmt := top 10
abbrev s__equal : Stmt := top 11
abbrev s__less : Stmt := top 12
abbrev s__at_most : Stmt := top 13
abbrev s__div : Stmt := top 14
abbrev s__mod : Stmt := top 15
abbrev s_apply : Stmt := top 17
abbrev s_word_of : Stmt := top 26
abbrev s_writes : Stmt := top 21
abbrev s_plain_run : Stmt := top 28
abbrev s__law_memory : Stmt := top 42
abbrev s__law_apply : Stmt := top 41
abbrev s__law_do : Stmt := top 44
abbrev s__law_next_row : Stmt := top 45
abbrev s__law_held : Stmt := top 43
abbrev s__law_plain : Stmt := top 46
abbrev s_law : Stmt := top 47
section
variable {P : Program} {w : World} {K : PySem.W.Frag} {mg : Str → Option Value} {base : Heap}
theorem sc__law_draws : FnScope ["script", "draws", "k", "cell", "turn", "mixed"] ["script"] (defScope s__law_draws) := ⟨rfl, rfl, rfl, by decide +kernel, rfl, by decide +kernel, by decide +kernel⟩
theorem ok__law_draws {f__law_draws : Addr} {fd__law_draws : FuncData} (D__law_draws : DefAt K mg "_law_draws" s__law_draws ["script"] f__law_draws fd__law_draws) (z_range : mg "range" = none) (z_min : mg "min" = none) (z_len : mg "len" = none) (z_abs : mg "abs" = none) (z_int : mg "int" = none) : FnOk P w K mg base (L2.CX P w) 1 f__law_draws fd__law_draws ["script"] (spM K 1 (m__law_draws)) := by
  have sc := sc__law_draws
  refine fn_def (m := b__law_draws) D__law_draws.F sc rfl rfl fun cdv A outer s H E hr => ?_
  unfold b__law_draws
  exact (SMs.cons (s_set (i := 1) sc.nd (e_lst l_nil))
    (SMs.cons (s_for (passes_of rfl) rfl (i_rng1 z_range (l_cons (c_min rfl z_min (l_cons (c_len z_len (l_cons (e_v 0) l_nil)) (l_cons e_int l_nil))) l_nil)) (g_n (i := 2) sc.nd) (SMs.cons (s_set (i := 3) sc.nd (c_abs z_abs (l_cons (e_ix (hu_of hr) (e_v 0) (e_v 2)) l_nil)))
    (SMs.one (s_if (b_cmp op_ge ok_ge (e_v 3) (e_pow e_int e_int) (nomark _)) (SMs.one (s_for (passes_of rfl) rfl (i_rng1 z_range (l_cons e_int l_nil)) (g_n (i := 4) sc.nd) (SMs.one (s_if (b_cmp op_gt ok_gt (e_v 3) e_int (nomark _)) (SMs.cons (s_expr (e_bm PySem.F.plainAttrs_list PySem.F.slot_list_append PySem.F.type_list_append mt_append ok_append (e_v 1) (l_cons (e_mod (e_v 3) e_int) l_nil)))
    (SMs.one (s_set (i := 3) sc.nd (e_fdiv (e_v 3) e_int)))) SMs.nil)))) (SMs.cons (s_set (i := 5) sc.nd (e_mod (c_int z_int (l_cons (e_add (e_add (e_mul (e_ix (hu_of hr) (e_v 0) (e_v 2)) e_int) (e_mul (e_v 2) e_int)) e_int) l_nil)) e_int))
    (SMs.one (s_for (passes_of rfl) rfl (i_rng1 z_range (l_cons e_int l_nil)) (g_n (i := 4) sc.nd) (SMs.cons (s_set (i := 5) sc.nd (e_mod (c_int z_int (l_cons (e_add (e_add (e_mul (e_v 5) (e_v 5)) (e_mul (e_v 4) e_int)) e_int) l_nil)) e_int))
    (SMs.one (s_expr (e_bm PySem.F.plainAttrs_list PySem.F.slot_list_append PySem.F.type_list_append mt_append ok_append (e_v 1) (l_cons (e_mod (e_v 5) e_int) l_nil))))))))))))
    (SMs.one (s_ret (e_v 1)))))
theorem sc__law_reader : FnScope ["script", "row", "seed"] ["script"] (defScope s__law_reader) := ⟨rfl, rfl, rfl, by decide +kernel, rfl, by decide +kernel, by decide +kernel⟩
theorem ok__law_reader {f__law_reader : Addr} {fd__law_reader : FuncData} {f__law_draws : Addr} {fd__law_draws : FuncData} (D__law_reader : DefAt K mg "_law_reader" s__law_reader ["script"] f__law_reader fd__law_reader) (D__law_draws : DefAt K mg "_law_draws" s__law_draws ["script"] f__law_draws fd__law_draws) (G__law_draws : FnOk P w K mg base (L2.CX P w) 1 f__law_draws fd__law_draws ["script"] (spM K 1 m__law_draws)) (z_len : mg "len" = none) (z_abs : mg "abs" = none) : FnOk P w K mg base (L2.CX P w) 2 f__law_reader fd__law_reader ["script"] (spM K 1 (m__law_reader)) := by
  have sc := sc__law_reader
  refine fn_def (m := b__law_reader) D__law_reader.F sc rfl rfl fun cdv A outer s H E hr => ?_
  unfold b__law_reader
  exact (SMs.cons (s_set (i := 1) sc.nd (e_fn G__law_draws len__law_draws (hr.mono (by decide)) (by rfl) D__law_draws.g D__law_draws.F.kp D__law_draws.b (fun _ => Passes.at pass_def _) (l_cons (e_v 0) l_nil)))
    (SMs.cons (s_set (i := 2) sc.nd e_int)
    (SMs.cons (s_if (b_cmp op_gt ok_gt (c_len z_len (l_cons (e_v 0) l_nil)) e_int (nomark _)) (SMs.one (s_set (i := 2) sc.nd (e_mod (c_abs z_abs (l_cons (e_ix (hu_of hr) (e_v 0) (e_neg e_int)) l_nil)) e_int))) SMs.nil)
    (SMs.one (s_ret (e_disp (dp_cons e_str (e_v 1) (dp_cons e_str e_int (dp_cons e_str (e_v 2) dp_nil)))))))))
theorem sc__law_next : FnScope ["draws", "many", "at", "mixed"] ["draws", "many"] (defScope s__law_next) := ⟨rfl, rfl, rfl, by decide +kernel, rfl, by decide +kernel, by decide +kernel⟩
theorem ok__law_next {f__law_next : Addr} {fd__law_next : FuncData} (D__law_next : DefAt K mg "_law_next" s__law_next ["draws", "many"] f__law_next fd__law_next) (z_len : mg "len" = none) (z_int : mg "int" = none) : FnOk P w K mg base (L2.CX P w) 1 f__law_next fd__law_next ["draws", "many"] (spM K 2 (m__law_next)) := by
  have sc := sc__law_next
  refine fn_def (m := b__law_next) D__law_next.F sc rfl rfl fun cdv A outer s H E hr => ?_
  unfold b__law_next
  exact (SMs.cons (s_set (i := 2) sc.nd (e_ix (hu_of hr) (e_v 0) e_str))
    (SMs.cons (s_sub (hu_of hr) (e_add (e_v 2) e_int) (e_v 0) e_str)
    (SMs.cons (s_if (b_cmp op_lt ok_lt (e_v 2) (c_len z_len (l_cons (e_ix (hu_of hr) (e_v 0) e_str) l_nil)) (nomark _)) (SMs.one (s_ret (e_mod (c_int z_int (l_cons (e_ix (hu_of hr) (e_ix (hu_of hr) (e_v 0) e_str) (e_v 2)) l_nil)) (e_v 1)))) SMs.nil)
    (SMs.cons (s_set (i := 3) sc.nd (e_mod (c_int z_int (l_cons (e_mul (e_add (e_add (e_ix (hu_of hr) (e_v 0) e_str) (e_mul e_int (e_v 2))) e_int) e_int) l_nil)) e_int))
    (SMs.one (s_ret (e_mod (e_fdiv (e_mod (c_int z_int (l_cons (e_add (e_mul (e_v 3) (e_v 3)) (e_v 2)) l_nil)) e_int) e_int) (e_v 1))))))))
theorem sc__law_regions : FnScope ["draws", "regions", "base", "k", "size"] ["draws"] (defScope s__law_regions) := ⟨rfl, rfl, rfl, by decide +kernel, rfl, by decide +kernel, by decide +kernel⟩
theorem ok__law_regions {f__law_regions : Addr} {fd__law_regions : FuncData} {f__law_next : Addr} {fd__law_next : FuncData} (D__law_regions : DefAt K mg "_law_regions" s__law_regions ["draws"] f__law_regions fd__law_regions) (D__law_next : DefAt K mg "_law_next" s__law_next ["draws", "many"] f__law_next fd__law_next) (G__law_next : FnOk P w K mg base (L2.CX P w) 1 f__law_next fd__law_next ["draws", "many"] (spM K 2 m__law_next)) (z_range : mg "range" = none) (z_tuple : mg "tuple" = none) : FnOk P w K mg base (L2.CX P w) 2 f__law_regions fd__law_regions ["draws"] (spM K 1 (m__law_regions)) := by
  have sc := sc__law_regions
  refine fn_def (m := b__law_regions) D__law_regions.F sc rfl rfl fun cdv A outer s H E hr => ?_
  unfold b__law_regions
  exact (SMs.cons (s_set (i := 1) sc.nd (e_lst l_nil))
    (SMs.cons (s_set (i := 2) sc.nd e_int)
    (SMs.cons (s_for (passes_of rfl) rfl (i_rng1 z_range (l_cons (e_add e_int (e_fn G__law_next len__law_next (hr.mono (by decide)) (by rfl) D__law_next.g D__law_next.F.kp D__law_next.b (fun _ => Passes.at pass_def _) (l_cons (e_v 0) (l_cons e_int l_nil)))) l_nil)) (g_n (i := 3) sc.nd) (SMs.cons (s_set (i := 4) sc.nd (e_ix (hu_of hr) (e_lst (l_cons e_int (l_cons e_int (l_cons e_int (l_cons e_int (l_cons (e_add e_int (e_fn G__law_next len__law_next (hr.mono (by decide)) (by rfl) D__law_next.g D__law_next.F.kp D__law_next.b (fun _ => Passes.at pass_def _) (l_cons (e_v 0) (l_cons e_int l_nil)))) l_nil)))))) (e_fn G__law_next len__law_next (hr.mono (by decide)) (by rfl) D__law_next.g D__law_next.F.kp D__law_next.b (fun _ => Passes.at pass_def _) (l_cons (e_v 0) (l_cons e_int l_nil)))))
    (SMs.cons (s_expr (e_bm PySem.F.plainAttrs_list PySem.F.slot_list_append PySem.F.type_list_append mt_append ok_append (e_v 1) (l_cons (e_tup (l_cons (e_v 2) (l_cons (e_v 4) (l_cons (e_ix (hu_of hr) (e_lst (l_cons e_str (l_cons e_str l_nil))) (e_fn G__law_next len__law_next (hr.mono (by decide)) (by rfl) D__law_next.g D__law_next.F.kp D__law_next.b (fun _ => Passes.at pass_def _) (l_cons (e_v 0) (l_cons e_int l_nil)))) l_nil)))) l_nil)))
    (SMs.one (s_set (i := 2) sc.nd (e_add (e_v 2) (e_v 4)))))))
    (SMs.one (s_ret (c_tuple z_tuple (l_cons (e_v 1) l_nil)))))))
theorem sc__law_register : FnScope ["draws"] ["draws"] (defScope s__law_register) := ⟨rfl, rfl, rfl, by decide +kernel, rfl, by decide +kernel, by decide +kernel⟩
theorem ok__law_register {f__law_register : Addr} {fd__law_register : FuncData} {f__law_next : Addr} {fd__law_next : FuncData} (D__law_register : DefAt K mg "_law_register" s__law_register ["draws"] f__law_register fd__law_register) (D__law_next : DefAt K mg "_law_next" s__law_next ["draws", "many"] f__law_next fd__law_next) (G__law_next : FnOk P w K mg base (L2.CX P w) 1 f__law_next fd__law_next ["draws", "many"] (spM K 2 m__law_next)) : FnOk P w K mg base (L2.CX P w) 2 f__law_register fd__law_register ["draws"] (spM K 1 (m__law_register)) := by
  have sc := sc__law_register
  refine fn_def (m := b__law_register) D__law_register.F sc rfl rfl fun cdv A outer s H E hr => ?_
  unfold b__law_register
  exact (SMs.one (s_ret (e_fn G__law_next len__law_next (hr.mono (by decide)) (by rfl) D__law_next.g D__law_next.F.kp D__law_next.b (fun _ => Passes.at pass_def _) (l_cons (e_v 0) (l_cons (e_ix (hu_of hr) (e_lst (l_cons e_int (l_cons e_int (l_cons e_int l_nil)))) (e_fn G__law_next len__law_next (hr.mono (by decide)) (by rfl) D__law_next.g D__law_next.F.kp D__law_next.b (fun _ => Passes.at pass_def _) (l_cons (e_v 0) (l_cons e_int l_nil)))) l_nil)))))
theorem sc__law_op : FnScope ["draws", "sign"] ["draws"] (defScope s__law_op) := ⟨rfl, rfl, rfl, by decide +kernel, rfl, by decide +kernel, by decide +kernel⟩
theorem ok__law_op {f__law_op : Addr} {fd__law_op : FuncData} {f__law_next : Addr} {fd__law_next : FuncData} {f__law_register : Addr} {fd__law_register : FuncData} (D__law_op : DefAt K mg "_law_op" s__law_op ["draws"] f__law_op fd__law_op) (D__law_next : DefAt K mg "_law_next" s__law_next ["draws", "many"] f__law_next fd__law_next) (D__law_register : DefAt K mg "_law_register" s__law_register ["draws"] f__law_register fd__law_register) (G__law_next : FnOk P w K mg base (L2.CX P w) 1 f__law_next fd__law_next ["draws", "many"] (spM K 2 m__law_next)) (G__law_register : FnOk P w K mg base (L2.CX P w) 2 f__law_register fd__law_register ["draws"] (spM K 1 m__law_register)) : FnOk P w K mg base (L2.CX P w) 3 f__law_op fd__law_op ["draws"] (spM K 1 (m__law_op)) := by
  have sc := sc__law_op
  refine fn_def (m := b__law_op) D__law_op.F sc rfl rfl fun cdv A outer s H E hr => ?_
  unfold b__law_op
  exact (SMs.cons (s_set (i := 1) sc.nd (e_ix (hu_of hr) (e_lst (l_cons e_str (l_cons e_str (l_cons e_str (l_cons e_str (l_cons e_str (l_cons e_str (l_cons e_str (l_cons e_str (l_cons e_str (l_cons e_str (l_cons e_str (l_cons e_str (l_cons e_str l_nil)))))))))))))) (e_fn G__law_next len__law_next (hr.mono (by decide)) (by rfl) D__law_next.g D__law_next.F.kp D__law_next.b (fun _ => Passes.at pass_def _) (l_cons (e_v 0) (l_cons e_int l_nil)))))
    (SMs.one (s_ret (e_tup (l_cons e_str (l_cons (e_v 1) (l_cons (e_fn G__law_register len__law_register (hr.mono (by decide)) (by rfl) D__law_register.g D__law_register.F.kp D__law_register.b (fun _ => Passes.at pass_def _) (l_cons (e_v 0) l_nil)) (l_cons (e_fn G__law_register len__law_register (hr.mono (by decide)) (by rfl) D__law_register.g D__law_register.F.kp D__law_register.b (fun _ => Passes.at pass_def _) (l_cons (e_v 0) l_nil)) (l_cons (e_fn G__law_register len__law_register (hr.mono (by decide)) (by rfl) D__law_register.g D__law_register.F.kp D__law_register.b (fun _ => Passes.at pass_def _) (l_cons (e_v 0) l_nil)) l_nil)))))))))
theorem sc__law_span : FnScope ["draws", "regions", "base", "size", "label", "mask"] ["draws", "regions"] (defScope s__law_span) := ⟨rfl, rfl, rfl, by decide +kernel, rfl, by decide +kernel, by decide +kernel⟩
theorem ok__law_span {f__law_span : Addr} {fd__law_span : FuncData} {f__law_next : Addr} {fd__law_next : FuncData} (D__law_span : DefAt K mg "_law_span" s__law_span ["draws", "regions"] f__law_span fd__law_span) (D__law_next : DefAt K mg "_law_next" s__law_next ["draws", "many"] f__law_next fd__law_next) (G__law_next : FnOk P w K mg base (L2.CX P w) 1 f__law_next fd__law_next ["draws", "many"] (spM K 2 m__law_next)) (z_len : mg "len" = none) : FnOk P w K mg base (L2.CX P w) 2 f__law_span fd__law_span ["draws", "regions"] (spM K 2 (m__law_span)) := by
  have sc := sc__law_span
  refine fn_def (m := b__law_span) D__law_span.F sc rfl rfl fun cdv A outer s H E hr => ?_
  unfold b__law_span
  exact (SMs.cons (s_if (b_cmp (or_eqA hr) ok_eq (e_fn G__law_next len__law_next (hr.mono (by decide)) (by rfl) D__law_next.g D__law_next.F.kp D__law_next.b (fun _ => Passes.at pass_def _) (l_cons (e_v 0) (l_cons e_int l_nil))) e_int (nomark _)) (SMs.one (s_ret (e_tup (l_cons (e_fn G__law_next len__law_next (hr.mono (by decide)) (by rfl) D__law_next.g D__law_next.F.kp D__law_next.b (fun _ => Passes.at pass_def _) (l_cons (e_v 0) (l_cons e_int l_nil))) (l_cons (e_sub (e_shl e_int (e_fn G__law_next len__law_next (hr.mono (by decide)) (by rfl) D__law_next.g D__law_next.F.kp D__law_next.b (fun _ => Passes.at pass_def _) (l_cons (e_v 0) (l_cons e_int l_nil)))) e_int) l_nil))))) SMs.nil)
    (SMs.cons (s_asg (e_ix (hu_of hr) (e_v 1) (e_fn G__law_next len__law_next (hr.mono (by decide)) (by rfl) D__law_next.g D__law_next.F.kp D__law_next.b (fun _ => Passes.at pass_def _) (l_cons (e_v 0) (l_cons (c_len z_len (l_cons (e_v 1) l_nil)) l_nil)))) (g_tup rfl (gs_cons (g_n (i := 2) sc.nd) (gs_cons (g_n (i := 3) sc.nd) (gs_cons (g_n (i := 4) sc.nd) gs_nil)))))
    (SMs.cons (s_set (i := 5) sc.nd e_int)
    (SMs.cons (s_while (passes_of rfl) (b_cmp op_le ok_le (e_add (e_mul e_int (e_v 5)) e_int) (e_v 3) (nomark _)) (SMs.one (s_set (i := 5) sc.nd (e_add (e_mul e_int (e_v 5)) e_int))))
    (SMs.one (s_ret (e_tup (l_cons (e_v 2) (l_cons (e_v 5) l_nil)))))))))
theorem sc__law_word : FnScope ["draws", "pick"] ["draws"] (defScope s__law_word) := ⟨rfl, rfl, rfl, by decide +kernel, rfl, by decide +kernel, by decide +kernel⟩
theorem ok__law_word {f__law_word : Addr} {fd__law_word : FuncData} {f__law_next : Addr} {fd__law_next : FuncData} (D__law_word : DefAt K mg "_law_word" s__law_word ["draws"] f__law_word fd__law_word) (D__law_next : DefAt K mg "_law_next" s__law_next ["draws", "many"] f__law_next fd__law_next) (G__law_next : FnOk P w K mg base (L2.CX P w) 1 f__law_next fd__law_next ["draws", "many"] (spM K 2 m__law_next)) (z_int : mg "int" = none) : FnOk P w K mg base (L2.CX P w) 2 f__law_word fd__law_word ["draws"] (spM K 1 (m__law_word)) := by
  have sc := sc__law_word
  refine fn_def (m := b__law_word) D__law_word.F sc rfl rfl fun cdv A outer s H E hr => ?_
  unfold b__law_word
  exact (SMs.cons (s_set (i := 1) sc.nd (e_fn G__law_next len__law_next (hr.mono (by decide)) (by rfl) D__law_next.g D__law_next.F.kp D__law_next.b (fun _ => Passes.at pass_def _) (l_cons (e_v 0) (l_cons e_int l_nil))))
    (SMs.cons (s_if (b_cmp (or_eqA hr) ok_eq (e_v 1) e_int (nomark _)) (SMs.one (s_ret (e_fn G__law_next len__law_next (hr.mono (by decide)) (by rfl) D__law_next.g D__law_next.F.kp D__law_next.b (fun _ => Passes.at pass_def _) (l_cons (e_v 0) (l_cons e_int l_nil))))) SMs.nil)
    (SMs.cons (s_if (b_cmp (or_eqA hr) ok_eq (e_v 1) e_int (nomark _)) (SMs.one (s_ret (e_fn G__law_next len__law_next (hr.mono (by decide)) (by rfl) D__law_next.g D__law_next.F.kp D__law_next.b (fun _ => Passes.at pass_def _) (l_cons (e_v 0) (l_cons e_int l_nil))))) SMs.nil)
    (SMs.cons (s_if (b_cmp (or_eqA hr) ok_eq (e_v 1) e_int (nomark _)) (SMs.one (s_ret (e_sub e_int (e_fn G__law_next len__law_next (hr.mono (by decide)) (by rfl) D__law_next.g D__law_next.F.kp D__law_next.b (fun _ => Passes.at pass_def _) (l_cons (e_v 0) (l_cons e_int l_nil)))))) SMs.nil)
    (SMs.one (s_ret (e_mod (c_int z_int (l_cons (e_add (e_mul (e_fn G__law_next len__law_next (hr.mono (by decide)) (by rfl) D__law_next.g D__law_next.F.kp D__law_next.b (fun _ => Passes.at pass_def _) (l_cons (e_v 0) (l_cons e_int l_nil))) e_int) (e_mul (e_fn G__law_next len__law_next (hr.mono (by decide)) (by rfl) D__law_next.g D__law_next.F.kp D__law_next.b (fun _ => Passes.at pass_def _) (l_cons (e_v 0) (l_cons e_int l_nil))) e_int)) l_nil)) e_int)))))))
theorem sc__law_row : FnScope ["draws", "at", "many", "regions", "pick", "base", "mask"] ["draws", "at", "many", "regions"] (defScope s__law_row) := ⟨rfl, rfl, rfl, by decide +kernel, rfl, by decide +kernel, by decide +kernel⟩
theorem ok__law_row {f__law_row : Addr} {fd__law_row : FuncData} {f__law_next : Addr} {fd__law_next : FuncData} {f__law_word : Addr} {fd__law_word : FuncData} {f__law_register : Addr} {fd__law_register : FuncData} {f__law_op : Addr} {fd__law_op : FuncData} {f__law_span : Addr} {fd__law_span : FuncData} (D__law_row : DefAt K mg "_law_row" s__law_row ["draws", "at", "many", "regions"] f__law_row fd__law_row) (D__law_next : DefAt K mg "_law_next" s__law_next ["draws", "many"] f__law_next fd__law_next) (D__law_word : DefAt K mg "_law_word" s__law_word ["draws"] f__law_word fd__law_word) (D__law_register : DefAt K mg "_law_register" s__law_register ["draws"] f__law_register fd__law_register) (D__law_op : DefAt K mg "_law_op" s__law_op ["draws"] f__law_op fd__law_op) (D__law_span : DefAt K mg "_law_span" s__law_span ["draws", "regions"] f__law_span fd__law_span) (G__law_next : FnOk P w K mg base (L2.CX P w) 1 f__law_next fd__law_next ["draws", "many"] (spM K 2 m__law_next)) (G__law_word : FnOk P w K mg base (L2.CX P w) 2 f__law_word fd__law_word ["draws"] (spM K 1 m__law_word)) (G__law_register : FnOk P w K mg base (L2.CX P w) 2 f__law_register fd__law_register ["draws"] (spM K 1 m__law_register)) (G__law_op : FnOk P w K mg base (L2.CX P w) 3 f__law_op fd__law_op ["draws"] (spM K 1 m__law_op)) (G__law_span : FnOk P w K mg base (L2.CX P w) 2 f__law_span fd__law_span ["draws", "regions"] (spM K 2 m__law_span)) (z_min : mg "min" = none) : FnOk P w K mg base (L2.CX P w) 4 f__law_row fd__law_row ["draws", "at", "many", "regions"] (spM K 4 (m__law_row)) := by
  have sc := sc__law_row
  refine fn_def (m := b__law_row) D__law_row.F sc rfl rfl fun cdv A outer s H E hr => ?_
  unfold b__law_row
  exact (SMs.cons (s_set (i := 4) sc.nd (e_fn G__law_next len__law_next (hr.mono (by decide)) (by rfl) D__law_next.g D__law_next.F.kp D__law_next.b (fun _ => Passes.at pass_def _) (l_cons (e_v 0) (l_cons e_int l_nil))))
    (SMs.cons (s_if (b_cmp op_lt ok_lt (e_v 4) e_int (nomark _)) (SMs.one (s_ret (e_tup (l_cons e_str (l_cons (e_fn G__law_register len__law_register (hr.mono (by decide)) (by rfl) D__law_register.g D__law_register.F.kp D__law_register.b (fun _ => Passes.at pass_def _) (l_cons (e_v 0) l_nil)) (l_cons (e_fn G__law_word len__law_word (hr.mono (by decide)) (by rfl) D__law_word.g D__law_word.F.kp D__law_word.b (fun _ => Passes.at pass_def _) (l_cons (e_v 0) l_nil)) l_nil)))))) SMs.nil)
    (SMs.cons (s_if (b_cmp op_lt ok_lt (e_v 4) e_int (nomark _)) (SMs.one (s_ret (e_fn G__law_op len__law_op (hr.mono (by decide)) (by rfl) D__law_op.g D__law_op.F.kp D__law_op.b (fun _ => Passes.at pass_def _) (l_cons (e_v 0) l_nil)))) SMs.nil)
    (SMs.cons (s_if (b_cmp (or_eqA hr) ok_eq (e_v 4) e_int (nomark _)) (SMs.one (s_ret (e_tup (l_cons e_str (l_cons (e_fn G__law_register len__law_register (hr.mono (by decide)) (by rfl) D__law_register.g D__law_register.F.kp D__law_register.b (fun _ => Passes.at pass_def _) (l_cons (e_v 0) l_nil)) (l_cons (e_fn G__law_register len__law_register (hr.mono (by decide)) (by rfl) D__law_register.g D__law_register.F.kp D__law_register.b (fun _ => Passes.at pass_def _) (l_cons (e_v 0) l_nil)) (l_cons (e_fn G__law_register len__law_register (hr.mono (by decide)) (by rfl) D__law_register.g D__law_register.F.kp D__law_register.b (fun _ => Passes.at pass_def _) (l_cons (e_v 0) l_nil)) (l_cons (e_fn G__law_register len__law_register (hr.mono (by decide)) (by rfl) D__law_register.g D__law_register.F.kp D__law_register.b (fun _ => Passes.at pass_def _) (l_cons (e_v 0) l_nil)) l_nil)))))))) SMs.nil)
    (SMs.cons (s_if (b_cmp op_lt ok_lt (e_v 4) e_int (nomark _)) (SMs.cons (s_asg (e_fn G__law_span len__law_span (hr.mono (by decide)) (by rfl) D__law_span.g D__law_span.F.kp D__law_span.b (fun _ => Passes.at pass_def _) (l_cons (e_v 0) (l_cons (e_v 3) l_nil))) (g_tup rfl (gs_cons (g_n (i := 5) sc.nd) (gs_cons (g_n (i := 6) sc.nd) gs_nil))))
    (SMs.one (s_ret (e_tup (l_cons e_str (l_cons (e_fn G__law_register len__law_register (hr.mono (by decide)) (by rfl) D__law_register.g D__law_register.F.kp D__law_register.b (fun _ => Passes.at pass_def _) (l_cons (e_v 0) l_nil)) (l_cons (e_fn G__law_register len__law_register (hr.mono (by decide)) (by rfl) D__law_register.g D__law_register.F.kp D__law_register.b (fun _ => Passes.at pass_def _) (l_cons (e_v 0) l_nil)) (l_cons (e_v 5) (l_cons (e_v 6) l_nil))))))))) SMs.nil)
    (SMs.cons (s_if (b_cmp op_lt ok_lt (e_v 4) e_int (nomark _)) (SMs.cons (s_asg (e_fn G__law_span len__law_span (hr.mono (by decide)) (by rfl) D__law_span.g D__law_span.F.kp D__law_span.b (fun _ => Passes.at pass_def _) (l_cons (e_v 0) (l_cons (e_v 3) l_nil))) (g_tup rfl (gs_cons (g_n (i := 5) sc.nd) (gs_cons (g_n (i := 6) sc.nd) gs_nil))))
    (SMs.one (s_ret (e_tup (l_cons e_str (l_cons (e_fn G__law_register len__law_register (hr.mono (by decide)) (by rfl) D__law_register.g D__law_register.F.kp D__law_register.b (fun _ => Passes.at pass_def _) (l_cons (e_v 0) l_nil)) (l_cons (e_v 5) (l_cons (e_v 6) (l_cons (e_fn G__law_register len__law_register (hr.mono (by decide)) (by rfl) D__law_register.g D__law_register.F.kp D__law_register.b (fun _ => Passes.at pass_def _) (l_cons (e_v 0) l_nil)) l_nil))))))))) SMs.nil)
    (SMs.cons (s_if (b_cmp (or_eqA hr) ok_eq (e_v 4) e_int (nomark _)) (SMs.one (s_ret (e_tup (l_cons e_str (l_cons (e_fn G__law_register len__law_register (hr.mono (by decide)) (by rfl) D__law_register.g D__law_register.F.kp D__law_register.b (fun _ => Passes.at pass_def _) (l_cons (e_v 0) l_nil)) l_nil))))) SMs.nil)
    (SMs.cons (s_if (b_cmp (or_eqA hr) ok_eq (e_v 4) e_int (nomark _)) (SMs.one (s_ret (e_tup (l_cons e_str (l_cons (c_min rfl z_min (l_cons (e_sub (e_v 2) e_int) (l_cons (e_add (e_add (e_v 1) e_int) (e_fn G__law_next len__law_next (hr.mono (by decide)) (by rfl) D__law_next.g D__law_next.F.kp D__law_next.b (fun _ => Passes.at pass_def _) (l_cons (e_v 0) (l_cons e_int l_nil)))) l_nil))) l_nil))))) SMs.nil)
    (SMs.cons (s_if (b_of (w_and (b_cmp (or_eqA hr) ok_eq (e_v 4) e_int (nomark _)) (w_and1 (b_cmp (or_eqA hr) ok_eq (e_fn G__law_next len__law_next (hr.mono (by decide)) (by rfl) D__law_next.g D__law_next.F.kp D__law_next.b (fun _ => Passes.at pass_def _) (l_cons (e_v 0) (l_cons e_int l_nil))) e_int (nomark _))))) (SMs.one (s_ret (e_tup (l_cons e_str (l_cons (e_fn G__law_register len__law_register (hr.mono (by decide)) (by rfl) D__law_register.g D__law_register.F.kp D__law_register.b (fun _ => Passes.at pass_def _) (l_cons (e_v 0) l_nil)) l_nil))))) SMs.nil)
    (SMs.cons (s_if (b_cmp (or_eqA hr) ok_eq (e_v 4) e_int (nomark _)) (SMs.one (s_ret (e_tup (l_cons e_str (l_cons (e_fn G__law_register len__law_register (hr.mono (by decide)) (by rfl) D__law_register.g D__law_register.F.kp D__law_register.b (fun _ => Passes.at pass_def _) (l_cons (e_v 0) l_nil)) (l_cons (e_fn G__law_next len__law_next (hr.mono (by decide)) (by rfl) D__law_next.g D__law_next.F.kp D__law_next.b (fun _ => Passes.at pass_def _) (l_cons (e_v 0) (l_cons (e_v 2) l_nil))) l_nil)))))) SMs.nil)
    (SMs.one (s_ret (e_tup (l_cons e_str (l_cons (e_fn G__law_register len__law_register (hr.mono (by decide)) (by rfl) D__law_register.g D__law_register.F.kp D__law_register.b (fun _ => Passes.at pass_def _) (l_cons (e_v 0) l_nil)) (l_cons (c_min rfl z_min (l_cons (e_sub (e_v 2) e_int) (l_cons (e_add (e_add (e_v 1) e_int) (e_fn G__law_next len__law_next (hr.mono (by decide)) (by rfl) D__law_next.g D__law_next.F.kp D__law_next.b (fun _ => Passes.at pass_def _) (l_cons (e_v 0) (l_cons e_int l_nil)))) l_nil))) l_nil))))))))))))))))
theorem sc__law_code : FnScope ["draws", "regions", "many", "rows", "k"] ["draws"] (defScope s__law_code) := ⟨rfl, rfl, rfl, by decide +kernel, rfl, by decide +kernel, by decide +kernel⟩
theorem ok__law_code {f__law_code : Addr} {fd__law_code : FuncData} {f__law_regions : Addr} {fd__law_regions : FuncData} {f__law_next : Addr} {fd__law_next : FuncData} {f__law_row : Addr} {fd__law_row : FuncData} {f__law_register : Addr} {fd__law_register : FuncData} (D__law_code : DefAt K mg "_law_code" s__law_code ["draws"] f__law_code fd__law_code) (D__law_regions : DefAt K mg "_law_regions" s__law_regions ["draws"] f__law_regions fd__law_regions) (D__law_next : DefAt K mg "_law_next" s__law_next ["draws", "many"] f__law_next fd__law_next) (D__law_row : DefAt K mg "_law_row" s__law_row ["draws", "at", "many", "regions"] f__law_row fd__law_row) (D__law_register : DefAt K mg "_law_register" s__law_register ["draws"] f__law_register fd__law_register) (G__law_regions : FnOk P w K mg base (L2.CX P w) 2 f__law_regions fd__law_regions ["draws"] (spM K 1 m__law_regions)) (G__law_next : FnOk P w K mg base (L2.CX P w) 1 f__law_next fd__law_next ["draws", "many"] (spM K 2 m__law_next)) (G__law_row : FnOk P w K mg base (L2.CX P w) 4 f__law_row fd__law_row ["draws", "at", "many", "regions"] (spM K 4 m__law_row)) (G__law_register : FnOk P w K mg base (L2.CX P w) 2 f__law_register fd__law_register ["draws"] (spM K 1 m__law_register)) (z_range : mg "range" = none) (z_tuple : mg "tuple" = none) : FnOk P w K mg base (L2.CX P w) 5 f__law_code fd__law_code ["draws"] (spM K 1 (m__law_code)) := by
  have sc := sc__law_code
  refine fn_def (m := b__law_code) D__law_code.F sc rfl rfl fun cdv A outer s H E hr => ?_
  unfold b__law_code
  exact (SMs.cons (s_set (i := 1) sc.nd (e_fn G__law_regions len__law_regions (hr.mono (by decide)) (by rfl) D__law_regions.g D__law_regions.F.kp D__law_regions.b (fun _ => Passes.at pass_def _) (l_cons (e_v 0) l_nil)))
    (SMs.cons (s_set (i := 2) sc.nd (e_add (e_add e_int (e_ix (hu_of hr) (e_lst (l_cons e_int (l_cons e_int (l_cons e_int l_nil)))) (e_fn G__law_next len__law_next (hr.mono (by decide)) (by rfl) D__law_next.g D__law_next.F.kp D__law_next.b (fun _ => Passes.at pass_def _) (l_cons (e_v 0) (l_cons e_int l_nil))))) (e_fn G__law_next len__law_next (hr.mono (by decide)) (by rfl) D__law_next.g D__law_next.F.kp D__law_next.b (fun _ => Passes.at pass_def _) (l_cons (e_v 0) (l_cons e_int l_nil)))))
    (SMs.cons (s_setLc (i := 3) rfl sc.nd (sw_true rfl rfl rfl (by decide +kernel)) (i_rng1 z_range (l_cons (e_sub (e_v 2) e_int) l_nil)) (blkOk_by (own := [("k", 4)]) (by rfl)) (gok_n (i := 4) rfl) (fun _ _ _ _ _ => pg_name (i := 4) sc.nd rfl (by first | exact Or.inl rfl | exact Or.inr rfl)) (fun _ _ _ _ _ => ct_nil) (fun _ _ _ _ _ => (e_fn G__law_row len__law_row (hr.mono (by decide)) (by rfl) D__law_row.g D__law_row.F.kp D__law_row.b (fun _ => Passes.at passL _) (l_cons (e_v 0) (l_cons (e_v 4) (l_cons (e_v 2) (l_cons (e_v 1) l_nil)))))))
    (SMs.cons (s_if (b_cmp (or_eqA hr) ok_eq (e_fn G__law_next len__law_next (hr.mono (by decide)) (by rfl) D__law_next.g D__law_next.F.kp D__law_next.b (fun _ => Passes.at pass_def _) (l_cons (e_v 0) (l_cons e_int l_nil))) e_int (nomark _)) (SMs.one (s_expr (e_bm PySem.F.plainAttrs_list PySem.F.slot_list_append PySem.F.type_list_append mt_append ok_append (e_v 3) (l_cons (e_tup (l_cons e_str (l_cons (e_fn G__law_next len__law_next (hr.mono (by decide)) (by rfl) D__law_next.g D__law_next.F.kp D__law_next.b (fun _ => Passes.at pass_def _) (l_cons (e_v 0) (l_cons (e_v 2) l_nil))) l_nil))) l_nil)))) (SMs.one (s_expr (e_bm PySem.F.plainAttrs_list PySem.F.slot_list_append PySem.F.type_list_append mt_append ok_append (e_v 3) (l_cons (e_tup (l_cons e_str (l_cons (e_fn G__law_register len__law_register (hr.mono (by decide)) (by rfl) D__law_register.g D__law_register.F.kp D__law_register.b (fun _ => Passes.at pass_def _) (l_cons (e_v 0) l_nil)) l_nil))) l_nil)))))
    (SMs.one (s_ret (e_tup (l_cons (e_v 1) (l_cons (c_tuple z_tuple (l_cons (e_v 3) l_nil)) l_nil)))))))))
theorem sc__law_contents : FnScope ["draws", "code", "base", "size", "label", "k"] ["draws", "code"] (defScope s__law_contents) := ⟨rfl, rfl, rfl, by decide +kernel, rfl, by decide +kernel, by decide +kernel⟩
theorem ok__law_contents {f__law_contents : Addr} {fd__law_contents : FuncData} {f__law_word : Addr} {fd__law_word : FuncData} (D__law_contents : DefAt K mg "_law_contents" s__law_contents ["draws", "code"] f__law_contents fd__law_contents) (D__law_word : DefAt K mg "_law_word" s__law_word ["draws"] f__law_word fd__law_word) (G__law_word : FnOk P w K mg base (L2.CX P w) 2 f__law_word fd__law_word ["draws"] (spM K 1 m__law_word)) (z_tuple : mg "tuple" = none) (z_range : mg "range" = none) : FnOk P w K mg base (L2.CX P w) 3 f__law_contents fd__law_contents ["draws", "code"] (spM K 2 (m__law_contents)) := by
  have sc := sc__law_contents
  refine fn_def (m := b__law_contents) D__law_contents.F sc rfl rfl fun cdv A outer s H E hr => ?_
  unfold b__law_contents
  exact (SMs.one (s_ret (c_tuple z_tuple (l_cons (e_lc rfl sc.nd (i_it (e_ix (hu_of hr) (e_v 1) e_int)) (blkOk_by (own := [("base", 2), ("size", 3), ("label", 4)]) (by rfl)) (gok_t (is := [2, 3, 4]) (by decide)) (fun _ _ _ _ _ => pg_tup rfl (pgs_cons (pg_name (i := 2) sc.nd rfl (by first | exact Or.inl rfl | exact Or.inr rfl)) (pgs_cons (pg_name (i := 3) sc.nd rfl (by first | exact Or.inl rfl | exact Or.inr rfl)) (pgs_cons (pg_name (i := 4) sc.nd rfl (by first | exact Or.inl rfl | exact Or.inr rfl)) pgs_nil)))) (fun _ _ _ _ _ => ct_nil) (fun _ _ _ _ _ => (c_tuple z_tuple (l_cons (e_lc rfl sc.nd (i_rng1 z_range (l_cons (e_v 3) l_nil)) (blkOk_by (own := [("k", 5)]) (by rfl)) (gok_n (i := 5) rfl) (fun _ _ _ _ _ => pg_name (i := 5) sc.nd rfl (by first | exact Or.inl rfl | exact Or.inr rfl)) (fun _ _ _ _ _ => ct_nil) (fun _ _ _ _ _ => (e_fn G__law_word len__law_word (hr.mono (by decide)) (by rfl) D__law_word.g D__law_word.F.kp D__law_word.b (fun _ => Passes.at passL _) (l_cons (e_v 0) l_nil)))) l_nil)))) l_nil))))
theorem sc_memory_of : FnScope ["contents", "words", "row"] ["contents"] (defScope s_memory_of) := ⟨rfl, rfl, rfl, by decide +kernel, rfl, by decide +kernel, by decide +kernel⟩
theorem ok_memory_of {f_memory_of : Addr} {fd_memory_of : FuncData} (D_memory_of : DefAt K mg "memory_of" s_memory_of ["contents"] f_memory_of fd_memory_of) (z_dict : mg "dict" = none) (z_enumerate : mg "enumerate" = none) : FnOk P w K mg base (L2.CX P w) 1 f_memory_of fd_memory_of ["contents"] (spM K 1 (m_memory_of)) := by
  have sc := sc_memory_of
  refine fn_def (m := b_memory_of) D_memory_of.F sc rfl rfl fun cdv A outer s H E hr => ?_
  unfold b_memory_of
  exact (SMs.cons (s_set (i := 1) sc.nd (e_lst l_nil))
    (SMs.cons (s_for (passes_of rfl) rfl (i_it (e_v 0)) (g_n (i := 2) sc.nd) (SMs.one (s_expr (e_bm PySem.F.plainAttrs_list PySem.F.slot_list_extend PySem.F.type_list_extend mt_extendA ok_extendA (e_v 1) (l_cons (e_v 2) l_nil)))))
    (SMs.one (s_ret (e_dictEnum rfl z_dict z_enumerate (e_v 1))))))
theorem sc_contents_of : FnScope ["regions", "memory", "base", "size", "_", "at"] ["regions", "memory"] (defScope s_contents_of) := ⟨rfl, rfl, rfl, by decide +kernel, rfl, by decide +kernel, by decide +kernel⟩
theorem ok_contents_of {f_contents_of : Addr} {fd_contents_of : FuncData} (D_contents_of : DefAt K mg "contents_of" s_contents_of ["regions", "memory"] f_contents_of fd_contents_of) (z_tuple : mg "tuple" = none) (z_range : mg "range" = none) : FnOk P w K mg base (L2.CX P w) 1 f_contents_of fd_contents_of ["regions", "memory"] (spM K 2 (m_contents_of)) := by
  have sc := sc_contents_of
  refine fn_def (m := b_contents_of) D_contents_of.F sc rfl rfl fun cdv A outer s H E hr => ?_
  unfold b_contents_of
  exact (SMs.one (s_ret (c_tuple z_tuple (l_cons (e_lc rfl sc.nd (i_it (e_v 0)) (blkOk_by (own := [("base", 2), ("size", 3), ("_", 4)]) (by rfl)) (gok_t (is := [2, 3, 4]) (by decide)) (fun _ _ _ _ _ => pg_tup rfl (pgs_cons (pg_name (i := 2) sc.nd rfl (by first | exact Or.inl rfl | exact Or.inr rfl)) (pgs_cons (pg_name (i := 3) sc.nd rfl (by first | exact Or.inl rfl | exact Or.inr rfl)) (pgs_cons (pg_name (i := 4) sc.nd rfl (by first | exact Or.inl rfl | exact Or.inr rfl)) pgs_nil)))) (fun _ _ _ _ _ => ct_nil) (fun _ _ _ _ _ => (c_tuple z_tuple (l_cons (e_lc rfl sc.nd (i_rng2 z_range (l_cons (e_v 2) (l_cons (e_add (e_v 2) (e_v 3)) l_nil))) (blkOk_by (own := [("at", 5)]) (by rfl)) (gok_n (i := 5) rfl) (fun _ _ _ _ _ => pg_name (i := 5) sc.nd rfl (by first | exact Or.inl rfl | exact Or.inr rfl)) (fun _ _ _ _ _ => ct_nil) (fun _ _ _ _ _ => (e_ix (hu_of hr) (e_v 1) (e_v 5)))) l_nil)))) l_nil))))
theorem sc_address_of : FnScope ["row", "held"] ["row", "held"] (defScope s_address_of) := ⟨rfl, rfl, rfl, by decide +kernel, rfl, by decide +kernel, by decide +kernel⟩
theorem ok_address_of {f_address_of : Addr} {fd_address_of : FuncData} (D_address_of : DefAt K mg "address_of" s_address_of ["row", "held"] f_address_of fd_address_of) : FnOk P w K mg base (L2.CX P w) 1 f_address_of fd_address_of ["row", "held"] (spM K 2 (m_address_of)) := by
  have sc := sc_address_of
  refine fn_def (m := b_address_of) D_address_of.F sc rfl rfl fun cdv A outer s H E hr => ?_
  unfold b_address_of
  exact (SMs.cons (s_if (b_cmp (or_eqA hr) ok_eq (e_ix (hu_of hr) (e_v 0) e_int) e_str (nomark _)) (SMs.one (s_ret (e_add (e_ix (hu_of hr) (e_v 0) e_int) (e_band (e_ix (hu_of hr) (e_v 1) (e_ix (hu_of hr) (e_v 0) e_int)) (e_ix (hu_of hr) (e_v 0) e_int))))) SMs.nil)
    (SMs.one (s_ret (e_add (e_ix (hu_of hr) (e_v 0) e_int) (e_band (e_ix (hu_of hr) (e_v 1) (e_ix (hu_of hr) (e_v 0) e_int)) (e_ix (hu_of hr) (e_v 0) e_int))))))
theorem sc__plus : FnScope ["a", "b"] ["a", "b"] (defScope s__plus) := ⟨rfl, rfl, rfl, by decide +kernel, rfl, by decide +kernel, by decide +kernel⟩
theorem ok__plus {f__plus : Addr} {fd__plus : FuncData} (D__plus : DefAt K mg "_plus" s__plus ["a", "b"] f__plus fd__plus) (g_GREATEST_WORD : GV K mg "GREATEST_WORD" d_GREATEST_WORD) : FnOk P w K mg base (L2.CX P w) 1 f__plus fd__plus ["a", "b"] (spM K 2 (m__plus)) := by
  have sc := sc__plus
  refine fn_def (m := b__plus) D__plus.F sc rfl rfl fun cdv A outer s H E hr => ?_
  unfold b__plus
  exact (SMs.one (s_ret (e_band (e_add (e_v 0) (e_v 1)) (e_g g_GREATEST_WORD))))
theorem sc__minus : FnScope ["a", "b"] ["a", "b"] (defScope s__minus) := ⟨rfl, rfl, rfl, by decide +kernel, rfl, by decide +kernel, by decide +kernel⟩
theorem ok__minus {f__minus : Addr} {fd__minus : FuncData} (D__minus : DefAt K mg "_minus" s__minus ["a", "b"] f__minus fd__minus) (g_GREATEST_WORD : GV K mg "GREATEST_WORD" d_GREATEST_WORD) : FnOk P w K mg base (L2.CX P w) 1 f__minus fd__minus ["a", "b"] (spM K 2 (m__minus)) := by
  have sc := sc__minus
  refine fn_def (m := b__minus) D__minus.F sc rfl rfl fun cdv A outer s H E hr => ?_
  unfold b__minus
  exact (SMs.one (s_ret (e_band (e_sub (e_v 0) (e_v 1)) (e_g g_GREATEST_WORD))))
theorem sc__times : FnScope ["a", "b"] ["a", "b"] (defScope s__times) := ⟨rfl, rfl, rfl, by decide +kernel, rfl, by decide +kernel, by decide +kernel⟩
theorem ok__times {f__times : Addr} {fd__times : FuncData} (D__times : DefAt K mg "_times" s__times ["a", "b"] f__times fd__times) (g_GREATEST_WORD : GV K mg "GREATEST_WORD" d_GREATEST_WORD) : FnOk P w K mg base (L2.CX P w) 1 f__times fd__times ["a", "b"] (spM K 2 (m__times)) := by
  have sc := sc__times
  refine fn_def (m := b__times) D__times.F sc rfl rfl fun cdv A outer s H E hr => ?_
  unfold b__times
  exact (SMs.one (s_ret (e_band (e_mul (e_v 0) (e_v 1)) (e_g g_GREATEST_WORD))))
theorem sc__both : FnScope ["a", "b"] ["a", "b"] (defScope s__both) := ⟨rfl, rfl, rfl, by decide +kernel, rfl, by decide +kernel, by decide +kernel⟩
theorem ok__both {f__both : Addr} {fd__both : FuncData} (D__both : DefAt K mg "_both" s__both ["a", "b"] f__both fd__both) : FnOk P w K mg base (L2.CX P w) 1 f__both fd__both ["a", "b"] (spM K 2 (m__both)) := by
  have sc := sc__both
  refine fn_def (m := b__both) D__both.F sc rfl rfl fun cdv A outer s H E hr => ?_
  unfold b__both
  exact (SMs.one (s_ret (e_band (e_v 0) (e_v 1))))
theorem sc__either : FnScope ["a", "b"] ["a", "b"] (defScope s__either) := ⟨rfl, rfl, rfl, by decide +kernel, rfl, by decide +kernel, by decide +kernel⟩
theorem ok__either {f__either : Addr} {fd__either : FuncData} (D__either : DefAt K mg "_either" s__either ["a", "b"] f__either fd__either) : FnOk P w K mg base (L2.CX P w) 1 f__either fd__either ["a", "b"] (spM K 2 (m__either)) := by
  have sc := sc__either
  refine fn_def (m := b__either) D__either.F sc rfl rfl fun cdv A outer s H E hr => ?_
  unfold b__either
  exact (SMs.one (s_ret (e_bor (e_v 0) (e_v 1))))
theorem sc__apart : FnScope ["a", "b"] ["a", "b"] (defScope s__apart) := ⟨rfl, rfl, rfl, by decide +kernel, rfl, by decide +kernel, by decide +kernel⟩
theorem ok__apart {f__apart : Addr} {fd__apart : FuncData} (D__apart : DefAt K mg "_apart" s__apart ["a", "b"] f__apart fd__apart) : FnOk P w K mg base (L2.CX P w) 1 f__apart fd__apart ["a", "b"] (spM K 2 (m__apart)) := by
  have sc := sc__apart
  refine fn_def (m := b__apart) D__apart.F sc rfl rfl fun cdv A outer s H E hr => ?_
  unfold b__apart
  exact (SMs.one (s_ret (e_bxor (e_v 0) (e_v 1))))
theorem sc__left : FnScope ["a", "b"] ["a", "b"] (defScope s__left) := ⟨rfl, rfl, rfl, by decide +kernel, rfl, by decide +kernel, by decide +kernel⟩
theorem ok__left {f__left : Addr} {fd__left : FuncData} (D__left : DefAt K mg "_left" s__left ["a", "b"] f__left fd__left) (g_SHIFTS : GV K mg "SHIFTS" d_SHIFTS) (g_GREATEST_WORD : GV K mg "GREATEST_WORD" d_GREATEST_WORD) : FnOk P w K mg base (L2.CX P w) 1 f__left fd__left ["a", "b"] (spM K 2 (m__left)) := by
  have sc := sc__left
  refine fn_def (m := b__left) D__left.F sc rfl rfl fun cdv A outer s H E hr => ?_
  unfold b__left
  exact (SMs.one (s_ret (e_band (e_shl (e_v 0) (e_band (e_v 1) (e_g g_SHIFTS))) (e_g g_GREATEST_WORD))))
theorem sc__right : FnScope ["a", "b"] ["a", "b"] (defScope s__right) := ⟨rfl, rfl, rfl, by decide +kernel, rfl, by decide +kernel, by decide +kernel⟩
theorem ok__right {f__right : Addr} {fd__right : FuncData} (D__right : DefAt K mg "_right" s__right ["a", "b"] f__right fd__right) (g_SHIFTS : GV K mg "SHIFTS" d_SHIFTS) : FnOk P w K mg base (L2.CX P w) 1 f__right fd__right ["a", "b"] (spM K 2 (m__right)) := by
  have sc := sc__right
  refine fn_def (m := b__right) D__right.F sc rfl rfl fun cdv A outer s H E hr => ?_
  unfold b__right
  exact (SMs.one (s_ret (e_shr (e_v 0) (e_band (e_v 1) (e_g g_SHIFTS)))))
theorem sc__equal : FnScope ["a", "b"] ["a", "b"] (defScope s__equal) := ⟨rfl, rfl, rfl, by decide +kernel, rfl, by decide +kernel, by decide +kernel⟩
theorem ok__equal {f__equal : Addr} {fd__equal : FuncData} (D__equal : DefAt K mg "_equal" s__equal ["a", "b"] f__equal fd__equal) : FnOk P w K mg base (L2.CX P w) 1 f__equal fd__equal ["a", "b"] (spM K 2 (m__equal)) := by
  have sc := sc__equal
  refine fn_def (m := b__equal) D__equal.F sc rfl rfl fun cdv A outer s H E hr => ?_
  unfold b__equal
  exact (SMs.one (s_ret (e_if (b_cmp (or_eqA hr) ok_eq (e_v 0) (e_v 1) (nomark _)) e_int e_int)))
theorem sc__less : FnScope ["a", "b"] ["a", "b"] (defScope s__less) := ⟨rfl, rfl, rfl, by decide +kernel, rfl, by decide +kernel, by decide +kernel⟩
theorem ok__less {f__less : Addr} {fd__less : FuncData} (D__less : DefAt K mg "_less" s__less ["a", "b"] f__less fd__less) : FnOk P w K mg base (L2.CX P w) 1 f__less fd__less ["a", "b"] (spM K 2 (m__less)) := by
  have sc := sc__less
  refine fn_def (m := b__less) D__less.F sc rfl rfl fun cdv A outer s H E hr => ?_
  unfold b__less
  exact (SMs.one (s_ret (e_if (b_cmp op_lt ok_lt (e_v 0) (e_v 1) (nomark _)) e_int e_int)))
theorem sc__at_most : FnScope ["a", "b"] ["a", "b"] (defScope s__at_most) := ⟨rfl, rfl, rfl, by decide +kernel, rfl, by decide +kernel, by decide +kernel⟩
theorem ok__at_most {f__at_most : Addr} {fd__at_most : FuncData} (D__at_most : DefAt K mg "_at_most" s__at_most ["a", "b"] f__at_most fd__at_most) : FnOk P w K mg base (L2.CX P w) 1 f__at_most fd__at_most ["a", "b"] (spM K 2 (m__at_most)) := by
  have sc := sc__at_most
  refine fn_def (m := b__at_most) D__at_most.F sc rfl rfl fun cdv A outer s H E hr => ?_
  unfold b__at_most
  exact (SMs.one (s_ret (e_if (b_cmp op_le ok_le (e_v 0) (e_v 1) (nomark _)) e_int e_int)))
theorem sc__div : FnScope ["a", "b"] ["a", "b"] (defScope s__div) := ⟨rfl, rfl, rfl, by decide +kernel, rfl, by decide +kernel, by decide +kernel⟩
theorem ok__div {f__div : Addr} {fd__div : FuncData} (D__div : DefAt K mg "_div" s__div ["a", "b"] f__div fd__div) : FnOk P w K mg base (L2.CX P w) 1 f__div fd__div ["a", "b"] (spM K 2 (m__div)) := by
  have sc := sc__div
  refine fn_def (m := b__div) D__div.F sc rfl rfl fun cdv A outer s H E hr => ?_
  unfold b__div
  exact (SMs.one (s_ret (e_if (b_cmp (or_eqA hr) ok_eq (e_v 1) e_int (nomark _)) e_int (e_fdiv (e_v 0) (e_v 1)))))
theorem sc__mod : FnScope ["a", "b"] ["a", "b"] (defScope s__mod) := ⟨rfl, rfl, rfl, by decide +kernel, rfl, by decide +kernel, by decide +kernel⟩
theorem ok__mod {f__mod : Addr} {fd__mod : FuncData} (D__mod : DefAt K mg "_mod" s__mod ["a", "b"] f__mod fd__mod) : FnOk P w K mg base (L2.CX P w) 1 f__mod fd__mod ["a", "b"] (spM K 2 (m__mod)) := by
  have sc := sc__mod
  refine fn_def (m := b__mod) D__mod.F sc rfl rfl fun cdv A outer s H E hr => ?_
  unfold b__mod
  exact (SMs.one (s_ret (e_if (b_cmp (or_eqA hr) ok_eq (e_v 1) e_int (nomark _)) (e_v 0) (e_mod (e_v 0) (e_v 1)))))
theorem sc_apply : FnScope ["sign", "a", "b", "action"] ["sign", "a", "b"] (defScope s_apply) := ⟨rfl, rfl, rfl, by decide +kernel, rfl, by decide +kernel, by decide +kernel⟩
theorem ok_apply {f_apply : Addr} {fd_apply : FuncData} {f__plus : Addr} {fd__plus : FuncData} {f__minus : Addr} {fd__minus : FuncData} {f__times : Addr} {fd__times : FuncData} {f__both : Addr} {fd__both : FuncData} {f__either : Addr} {fd__either : FuncData} {f__apart : Addr} {fd__apart : FuncData} {f__left : Addr} {fd__left : FuncData} {f__right : Addr} {fd__right : FuncData} {f__equal : Addr} {fd__equal : FuncData} {f__less : Addr} {fd__less : FuncData} {f__at_most : Addr} {fd__at_most : FuncData} {f__div : Addr} {fd__div : FuncData} {f__mod : Addr} {fd__mod : FuncData} {cA : Nat → Addr} (D_apply : DefAt K mg "apply" s_apply ["sign", "a", "b"] f_apply fd_apply) (D__plus : DefAt K mg "_plus" s__plus ["a", "b"] f__plus fd__plus) (D__minus : DefAt K mg "_minus" s__minus ["a", "b"] f__minus fd__minus) (D__times : DefAt K mg "_times" s__times ["a", "b"] f__times fd__times) (D__both : DefAt K mg "_both" s__both ["a", "b"] f__both fd__both) (D__either : DefAt K mg "_either" s__either ["a", "b"] f__either fd__either) (D__apart : DefAt K mg "_apart" s__apart ["a", "b"] f__apart fd__apart) (D__left : DefAt K mg "_left" s__left ["a", "b"] f__left fd__left) (D__right : DefAt K mg "_right" s__right ["a", "b"] f__right fd__right) (D__equal : DefAt K mg "_equal" s__equal ["a", "b"] f__equal fd__equal) (D__less : DefAt K mg "_less" s__less ["a", "b"] f__less fd__less) (D__at_most : DefAt K mg "_at_most" s__at_most ["a", "b"] f__at_most fd__at_most) (D__div : DefAt K mg "_div" s__div ["a", "b"] f__div fd__div) (D__mod : DefAt K mg "_mod" s__mod ["a", "b"] f__mod fd__mod) (G__plus : FnOk P w K mg base (L2.CX P w) 1 f__plus fd__plus ["a", "b"] (spM K 2 m__plus)) (G__minus : FnOk P w K mg base (L2.CX P w) 1 f__minus fd__minus ["a", "b"] (spM K 2 m__minus)) (G__times : FnOk P w K mg base (L2.CX P w) 1 f__times fd__times ["a", "b"] (spM K 2 m__times)) (G__both : FnOk P w K mg base (L2.CX P w) 1 f__both fd__both ["a", "b"] (spM K 2 m__both)) (G__either : FnOk P w K mg base (L2.CX P w) 1 f__either fd__either ["a", "b"] (spM K 2 m__either)) (G__apart : FnOk P w K mg base (L2.CX P w) 1 f__apart fd__apart ["a", "b"] (spM K 2 m__apart)) (G__left : FnOk P w K mg base (L2.CX P w) 1 f__left fd__left ["a", "b"] (spM K 2 m__left)) (G__right : FnOk P w K mg base (L2.CX P w) 1 f__right fd__right ["a", "b"] (spM K 2 m__right)) (G__equal : FnOk P w K mg base (L2.CX P w) 1 f__equal fd__equal ["a", "b"] (spM K 2 m__equal)) (G__less : FnOk P w K mg base (L2.CX P w) 1 f__less fd__less ["a", "b"] (spM K 2 m__less)) (G__at_most : FnOk P w K mg base (L2.CX P w) 1 f__at_most fd__at_most ["a", "b"] (spM K 2 m__at_most)) (G__div : FnOk P w K mg base (L2.CX P w) 1 f__div fd__div ["a", "b"] (spM K 2 m__div)) (G__mod : FnOk P w K mg base (L2.CX P w) 1 f__mod fd__mod ["a", "b"] (spM K 2 m__mod)) (g_ACTIONS : KD K w mg "ACTIONS" (d_ACTIONS cA)) (E__plus : cA 0 = f__plus) (E__minus : cA 1 = f__minus) (E__times : cA 2 = f__times) (E__both : cA 3 = f__both) (E__either : cA 4 = f__either) (E__apart : cA 5 = f__apart) (E__left : cA 6 = f__left) (E__right : cA 7 = f__right) (E__equal : cA 8 = f__equal) (E__less : cA 9 = f__less) (E__at_most : cA 10 = f__at_most) (E__div : cA 11 = f__div) (E__mod : cA 12 = f__mod) : FnOk P w K mg base (L2.CX P w) 2 f_apply fd_apply ["sign", "a", "b"] (spM K 3 (m_apply cA)) := by
  have sc := sc_apply
  refine fn_def (m := b_apply cA) D_apply.F sc rfl rfl fun cdv A outer s H E hr => ?_
  unfold b_apply
  exact (SMs.cons (s_set (i := 3) sc.nd (e_ixK g_ACTIONS (e_v 0)))
    (SMs.one (s_ret (e_calA (k := 1) (i := 3) (HOks.cons (hok E__plus G__plus (by decide) D__plus.F.kp D__plus.b len__plus) (HOks.cons (hok E__minus G__minus (by decide) D__minus.F.kp D__minus.b len__minus) (HOks.cons (hok E__times G__times (by decide) D__times.F.kp D__times.b len__times) (HOks.cons (hok E__both G__both (by decide) D__both.F.kp D__both.b len__both) (HOks.cons (hok E__either G__either (by decide) D__either.F.kp D__either.b len__either) (HOks.cons (hok E__apart G__apart (by decide) D__apart.F.kp D__apart.b len__apart) (HOks.cons (hok E__left G__left (by decide) D__left.F.kp D__left.b len__left) (HOks.cons (hok E__right G__right (by decide) D__right.F.kp D__right.b len__right) (HOks.cons (hok E__equal G__equal (by decide) D__equal.F.kp D__equal.b len__equal) (HOks.cons (hok E__less G__less (by decide) D__less.F.kp D__less.b len__less) (HOks.cons (hok E__at_most G__at_most (by decide) D__at_most.F.kp D__at_most.b len__at_most) (HOks.cons (hok E__div G__div (by decide) D__div.F.kp D__div.b len__div) (HOks.cons (hok E__mod G__mod (by decide) D__mod.F.kp D__mod.b len__mod) HOks.nil))))))))))))) (hr.mono (by decide)) pass_def (l_cons (e_v 1) (l_cons (e_v 2) l_nil))))))
theorem sc_word_of : FnScope ["row", "held"] ["row", "held"] (defScope s_word_of) := ⟨rfl, rfl, rfl, by decide +kernel, rfl, by decide +kernel, by decide +kernel⟩
theorem ok_word_of {f_word_of : Addr} {fd_word_of : FuncData} {f_apply : Addr} {fd_apply : FuncData} {cA : Nat → Addr} (D_word_of : DefAt K mg "word_of" s_word_of ["row", "held"] f_word_of fd_word_of) (D_apply : DefAt K mg "apply" s_apply ["sign", "a", "b"] f_apply fd_apply) (G_apply : FnOk P w K mg base (L2.CX P w) 2 f_apply fd_apply ["sign", "a", "b"] (spM K 3 (m_apply cA))) : FnOk P w K mg base (L2.CX P w) 3 f_word_of fd_word_of ["row", "held"] (spM K 2 (m_word_of cA)) := by
  have sc := sc_word_of
  refine fn_def (m := b_word_of cA) D_word_of.F sc rfl rfl fun cdv A outer s H E hr => ?_
  unfold b_word_of
  exact (SMs.cons (s_if (b_cmp (or_eqA hr) ok_eq (e_ix (hu_of hr) (e_v 0) e_int) e_str (nomark _)) (SMs.one (s_ret (e_fn G_apply len_apply (hr.mono (by decide)) (by rfl) D_apply.g D_apply.F.kp D_apply.b (fun _ => Passes.at pass_def _) (l_cons (e_ix (hu_of hr) (e_v 0) e_int) (l_cons (e_ix (hu_of hr) (e_v 1) (e_ix (hu_of hr) (e_v 0) e_int)) (l_cons (e_ix (hu_of hr) (e_v 1) (e_ix (hu_of hr) (e_v 0) e_int)) l_nil)))))) SMs.nil)
    (SMs.cons (s_if (b_cmp (or_eqA hr) ok_eq (e_ix (hu_of hr) (e_v 0) e_int) e_str (nomark _)) (SMs.one (s_ret (e_ix (hu_of hr) (e_v 0) e_int))) SMs.nil)
    (SMs.one (s_ret (e_if (b_cmp (or_neA hr) ok_ne (e_ix (hu_of hr) (e_v 1) (e_ix (hu_of hr) (e_v 0) e_int)) e_int (nomark _)) (e_ix (hu_of hr) (e_v 1) (e_ix (hu_of hr) (e_v 0) e_int)) (e_ix (hu_of hr) (e_v 1) (e_ix (hu_of hr) (e_v 0) e_int)))))))
theorem sc_writes : FnScope ["row", "part", "kind"] ["row"] (defScope s_writes) := ⟨rfl, rfl, rfl, by decide +kernel, rfl, by decide +kernel, by decide +kernel⟩
theorem ok_writes {f_writes : Addr} {fd_writes : FuncData} (D_writes : DefAt K mg "writes" s_writes ["row"] f_writes fd_writes) (g_CODE_FORMS : KD K w mg "CODE_FORMS" d_CODE_FORMS) (z_zip : mg "zip" = none) : FnOk P w K mg base (L2.CX P w) 1 f_writes fd_writes ["row"] (spM K 1 (m_writes)) := by
  have sc := sc_writes
  refine fn_def (m := b_writes) D_writes.F sc rfl rfl fun cdv A outer s H E hr => ?_
  unfold b_writes
  exact (SMs.cons (s_for (passes_of rfl) rfl (i_zip z_zip (l_cons (e_slice (e_v 0) (o_some e_int) o_no) (l_cons (e_ixK g_CODE_FORMS (e_ix (hu_of hr) (e_v 0) e_int)) l_nil))) (g_tup rfl (gs_cons (g_n (i := 1) sc.nd) (gs_cons (g_n (i := 2) sc.nd) gs_nil))) (SMs.one (s_if (b_cmp (or_eqA hr) ok_eq (e_v 2) e_str (nomark _)) (SMs.one (s_ret (e_v 1))) SMs.nil)))
    (SMs.one (s_ret (e_neg e_int))))
theorem sc_plain_run : FnScope ["code", "contents", "steps", "regions", "rows", "memory", "held", "outs", "result", "at", "_", "row", "word"] ["code", "contents", "steps"] (defScope s_plain_run) := ⟨rfl, rfl, rfl, by decide +kernel, rfl, by decide +kernel, by decide +kernel⟩
theorem ok_plain_run {f_plain_run : Addr} {fd_plain_run : FuncData} {f_memory_of : Addr} {fd_memory_of : FuncData} {f_address_of : Addr} {fd_address_of : FuncData} {f_word_of : Addr} {fd_word_of : FuncData} {f_writes : Addr} {fd_writes : FuncData} {f_contents_of : Addr} {fd_contents_of : FuncData} {cA : Nat → Addr} (D_plain_run : DefAt K mg "plain_run" s_plain_run ["code", "contents", "steps"] f_plain_run fd_plain_run) (D_memory_of : DefAt K mg "memory_of" s_memory_of ["contents"] f_memory_of fd_memory_of) (D_address_of : DefAt K mg "address_of" s_address_of ["row", "held"] f_address_of fd_address_of) (D_word_of : DefAt K mg "word_of" s_word_of ["row", "held"] f_word_of fd_word_of) (D_writes : DefAt K mg "writes" s_writes ["row"] f_writes fd_writes) (D_contents_of : DefAt K mg "contents_of" s_contents_of ["regions", "memory"] f_contents_of fd_contents_of) (G_memory_of : FnOk P w K mg base (L2.CX P w) 1 f_memory_of fd_memory_of ["contents"] (spM K 1 m_memory_of)) (G_address_of : FnOk P w K mg base (L2.CX P w) 1 f_address_of fd_address_of ["row", "held"] (spM K 2 m_address_of)) (G_word_of : FnOk P w K mg base (L2.CX P w) 3 f_word_of fd_word_of ["row", "held"] (spM K 2 (m_word_of cA))) (G_writes : FnOk P w K mg base (L2.CX P w) 1 f_writes fd_writes ["row"] (spM K 1 m_writes)) (G_contents_of : FnOk P w K mg base (L2.CX P w) 1 f_contents_of fd_contents_of ["regions", "memory"] (spM K 2 m_contents_of)) (g_REGISTERS : GV K mg "REGISTERS" d_REGISTERS) (z_range : mg "range" = none) (z_tuple : mg "tuple" = none) : FnOk P w K mg base (L2.CX P w) 4 f_plain_run fd_plain_run ["code", "contents", "steps"] (spM K 3 (m_plain_run cA)) := by
  have sc := sc_plain_run
  refine fn_def (m := b_plain_run cA) D_plain_run.F sc rfl rfl fun cdv A outer s H E hr => ?_
  unfold b_plain_run
  exact (SMs.cons (s_asg (e_v 0) (g_tup rfl (gs_cons (g_n (i := 3) sc.nd) (gs_cons (g_n (i := 4) sc.nd) gs_nil))))
    (SMs.cons (s_set (i := 5) sc.nd (e_fn G_memory_of len_memory_of (hr.mono (by decide)) (by rfl) D_memory_of.g D_memory_of.F.kp D_memory_of.b (fun _ => Passes.at pass_def _) (l_cons (e_v 1) l_nil)))
    (SMs.cons (s_set (i := 6) sc.nd (e_mul (e_lst (l_cons e_int l_nil)) (e_g g_REGISTERS)))
    (SMs.cons (s_set (i := 7) sc.nd (e_lst l_nil))
    (SMs.cons (s_set (i := 8) sc.nd e_non)
    (SMs.cons (s_set (i := 9) sc.nd e_int)
    (SMs.cons (s_for (passes_of rfl) rfl (i_rng1 z_range (l_cons (e_v 2) l_nil)) (g_n (i := 10) sc.nd) (SMs.cons (s_set (i := 11) sc.nd (e_ix (hu_of hr) (e_v 4) (e_v 9)))
    (SMs.cons (s_set (i := 12) sc.nd (e_ix (hu_of hr) (e_v 11) e_int))
    (SMs.cons (s_iadd (i := 9) sc.nd e_int)
    (SMs.one (s_if (b_cmp (or_eqA hr) ok_eq (e_v 12) e_str (nomark _)) (SMs.one (s_set (i := 9) sc.nd (e_ix (hu_of hr) (e_v 11) e_int))) (SMs.one (s_if (b_cmp (or_eqA hr) ok_eq (e_v 12) e_str (nomark _)) (SMs.one (s_if (b_cmp (or_neA hr) ok_ne (e_ix (hu_of hr) (e_v 6) (e_ix (hu_of hr) (e_v 11) e_int)) e_int (nomark _)) (SMs.one (s_set (i := 9) sc.nd (e_ix (hu_of hr) (e_v 11) e_int))) SMs.nil)) (SMs.one (s_if (b_cmp (or_eqA hr) ok_eq (e_v 12) e_str (nomark _)) (SMs.one (s_sub (hu_of hr) (e_get2 (hu_of hr) (e_v 5) (e_fn G_address_of len_address_of (hr.mono (by decide)) (by rfl) D_address_of.g D_address_of.F.kp D_address_of.b (fun _ => Passes.at pass_def _) (l_cons (e_v 11) (l_cons (e_v 6) l_nil))) e_int) (e_v 6) (e_ix (hu_of hr) (e_v 11) e_int))) (SMs.one (s_if (b_cmp (or_eqA hr) ok_eq (e_v 12) e_str (nomark _)) (SMs.one (s_sub (hu_of hr) (e_ix (hu_of hr) (e_v 6) (e_ix (hu_of hr) (e_v 11) e_int)) (e_v 5) (e_fn G_address_of len_address_of (hr.mono (by decide)) (by rfl) D_address_of.g D_address_of.F.kp D_address_of.b (fun _ => Passes.at pass_def _) (l_cons (e_v 11) (l_cons (e_v 6) l_nil))))) (SMs.one (s_if (b_cmp (or_eqA hr) ok_eq (e_v 12) e_str (nomark _)) (SMs.one (s_expr (e_bm PySem.F.plainAttrs_list PySem.F.slot_list_append PySem.F.type_list_append mt_append ok_append (e_v 7) (l_cons (e_ix (hu_of hr) (e_v 6) (e_ix (hu_of hr) (e_v 11) e_int)) l_nil)))) (SMs.one (s_if (b_cmp (or_eqA hr) ok_eq (e_v 12) e_str (nomark _)) (SMs.cons (s_set (i := 8) sc.nd (e_ix (hu_of hr) (e_v 6) (e_ix (hu_of hr) (e_v 11) e_int)))
    (SMs.one s_brk)) (SMs.one (s_sub (hu_of hr) (e_fn G_word_of len_word_of (hr.mono (by decide)) (by rfl) D_word_of.g D_word_of.F.kp D_word_of.b (fun _ => Passes.at pass_def _) (l_cons (e_v 11) (l_cons (e_v 6) l_nil))) (e_v 6) (e_fn G_writes len_writes (hr.mono (by decide)) (by rfl) D_writes.g D_writes.F.kp D_writes.b (fun _ => Passes.at pass_def _) (l_cons (e_v 11) l_nil))))))))))))))))))))
    (SMs.one (s_ret (e_tup (l_cons (c_tuple z_tuple (l_cons (e_v 7) l_nil)) (l_cons (e_v 8) (l_cons (e_fn G_contents_of len_contents_of (hr.mono (by decide)) (by rfl) D_contents_of.g D_contents_of.F.kp D_contents_of.b (fun _ => Passes.at pass_def _) (l_cons (e_v 3) (l_cons (e_v 5) l_nil))) l_nil)))))))))))))
theorem sc__law_memory : FnScope ["code", "contents", "words", "k", "j"] ["code", "contents"] (defScope s__law_memory) := ⟨rfl, rfl, rfl, by decide +kernel, rfl, by decide +kernel, by decide +kernel⟩
theorem ok__law_memory {f__law_memory : Addr} {fd__law_memory : FuncData} (D__law_memory : DefAt K mg "_law_memory" s__law_memory ["code", "contents"] f__law_memory fd__law_memory) (z_range : mg "range" = none) (z_len : mg "len" = none) : FnOk P w K mg base (L2.CX P w) 1 f__law_memory fd__law_memory ["code", "contents"] (spM K 2 (m__law_memory)) := by
  have sc := sc__law_memory
  refine fn_def (m := b__law_memory) D__law_memory.F sc rfl rfl fun cdv A outer s H E hr => ?_
  unfold b__law_memory
  exact (SMs.cons (s_set (i := 2) sc.nd e_dicK)
    (SMs.cons (s_for (passes_of rfl) rfl (i_rng1 z_range (l_cons (c_len z_len (l_cons (e_ix (hu_of hr) (e_v 0) e_int) l_nil)) l_nil)) (g_n (i := 3) sc.nd) (SMs.one (s_for (passes_of rfl) rfl (i_rng1 z_range (l_cons (e_ix (hu_of hr) (e_ix (hu_of hr) (e_ix (hu_of hr) (e_v 0) e_int) (e_v 3)) e_int) l_nil)) (g_n (i := 4) sc.nd) (SMs.one (s_sub (hu_of hr) (e_ix (hu_of hr) (e_ix (hu_of hr) (e_v 1) (e_v 3)) (e_v 4)) (e_v 2) (e_add (e_ix (hu_of hr) (e_ix (hu_of hr) (e_ix (hu_of hr) (e_v 0) e_int) (e_v 3)) e_int) (e_v 4)))))))
    (SMs.one (s_ret (e_v 2)))))
theorem sc__law_apply : FnScope ["sign", "a", "b"] ["sign", "a", "b"] (defScope s__law_apply) := ⟨rfl, rfl, rfl, by decide +kernel, rfl, by decide +kernel, by decide +kernel⟩
theorem ok__law_apply {f__law_apply : Addr} {fd__law_apply : FuncData} (D__law_apply : DefAt K mg "_law_apply" s__law_apply ["sign", "a", "b"] f__law_apply fd__law_apply) (z_int : mg "int" = none) : FnOk P w K mg base (L2.CX P w) 1 f__law_apply fd__law_apply ["sign", "a", "b"] (spM K 3 (m__law_apply)) := by
  have sc := sc__law_apply
  refine fn_def (m := b__law_apply) D__law_apply.F sc rfl rfl fun cdv A outer s H E hr => ?_
  unfold b__law_apply
  exact (SMs.cons (s_if (b_cmp (or_inAll hr) ok_in (e_v 0) (e_lst (l_cons e_str (l_cons e_str (l_cons e_str l_nil)))) (by rfl)) (SMs.one (s_ret (e_mod (c_int z_int (l_cons (e_ix (hu_of hr) (e_disp (dp_cons e_str (e_add (e_v 1) (e_v 2)) (dp_cons e_str (e_sub (e_v 1) (e_v 2)) (dp_cons e_str (e_mul (e_v 1) (e_v 2)) dp_nil)))) (e_v 0)) l_nil)) e_int))) SMs.nil)
    (SMs.cons (s_if (b_cmp (or_inAll hr) ok_in (e_v 0) (e_lst (l_cons e_str (l_cons e_str (l_cons e_str l_nil)))) (by rfl)) (SMs.one (s_ret (e_ix (hu_of hr) (e_disp (dp_cons e_str (e_band (e_v 1) (e_v 2)) (dp_cons e_str (e_bor (e_v 1) (e_v 2)) (dp_cons e_str (e_bxor (e_v 1) (e_v 2)) dp_nil)))) (e_v 0)))) SMs.nil)
    (SMs.cons (s_if (b_cmp (or_eqA hr) ok_eq (e_v 0) e_str (nomark _)) (SMs.one (s_ret (e_mod (c_int z_int (l_cons (e_mul (e_v 1) (e_shl e_int (e_mod (e_v 2) e_int))) l_nil)) e_int))) SMs.nil)
    (SMs.cons (s_if (b_cmp (or_eqA hr) ok_eq (e_v 0) e_str (nomark _)) (SMs.one (s_ret (e_fdiv (e_v 1) (e_shl e_int (e_mod (e_v 2) e_int))))) SMs.nil)
    (SMs.cons (s_if (b_cmp (or_inAll hr) ok_in (e_v 0) (e_lst (l_cons e_str (l_cons e_str (l_cons e_str l_nil)))) (by rfl)) (SMs.one (s_ret (c_int z_int (l_cons (e_ix (hu_of hr) (e_disp (dp_cons e_str (e_cmp (or_eqA hr) ok_eq (e_v 1) (e_v 2) (nomark _)) (dp_cons e_str (e_cmp op_lt ok_lt (e_v 1) (e_v 2) (nomark _)) (dp_cons e_str (e_cmp op_le ok_le (e_v 1) (e_v 2) (nomark _)) dp_nil)))) (e_v 0)) l_nil)))) SMs.nil)
    (SMs.cons (s_if (b_cmp (or_eqA hr) ok_eq (e_v 2) e_int (nomark _)) (SMs.one (s_ret (e_ix (hu_of hr) (e_disp (dp_cons e_str e_int (dp_cons e_str (e_v 1) dp_nil))) (e_v 0)))) SMs.nil)
    (SMs.one (s_ret (e_ix (hu_of hr) (e_disp (dp_cons e_str (e_fdiv (e_v 1) (e_v 2)) (dp_cons e_str (e_mod (e_v 1) (e_v 2)) dp_nil))) (e_v 0))))))))))
theorem sc__law_do : FnScope ["m", "row", "held"] ["m", "row"] (defScope s__law_do) := ⟨rfl, rfl, rfl, by decide +kernel, rfl, by decide +kernel, by decide +kernel⟩
theorem ok__law_do {f__law_do : Addr} {fd__law_do : FuncData} {f__law_apply : Addr} {fd__law_apply : FuncData} (D__law_do : DefAt K mg "_law_do" s__law_do ["m", "row"] f__law_do fd__law_do) (D__law_apply : DefAt K mg "_law_apply" s__law_apply ["sign", "a", "b"] f__law_apply fd__law_apply) (G__law_apply : FnOk P w K mg base (L2.CX P w) 1 f__law_apply fd__law_apply ["sign", "a", "b"] (spM K 3 m__law_apply)) (z_int : mg "int" = none) : FnOk P w K mg base (L2.CX P w) 2 f__law_do fd__law_do ["m", "row"] (spM K 2 (m__law_do)) := by
  have sc := sc__law_do
  refine fn_def (m := b__law_do) D__law_do.F sc rfl rfl fun cdv A outer s H E hr => ?_
  unfold b__law_do
  exact (SMs.cons (s_set (i := 2) sc.nd (e_ix (hu_of hr) (e_v 0) e_str))
    (SMs.cons (s_if (b_cmp (or_eqA hr) ok_eq (e_ix (hu_of hr) (e_v 1) e_int) e_str (nomark _)) (SMs.one (s_sub (hu_of hr) (e_ix (hu_of hr) (e_v 1) e_int) (e_v 2) (e_ix (hu_of hr) (e_v 1) e_int))) SMs.nil)
    (SMs.cons (s_if (b_cmp (or_eqA hr) ok_eq (e_ix (hu_of hr) (e_v 1) e_int) e_str (nomark _)) (SMs.one (s_sub (hu_of hr) (e_fn G__law_apply len__law_apply (hr.mono (by decide)) (by rfl) D__law_apply.g D__law_apply.F.kp D__law_apply.b (fun _ => Passes.at pass_def _) (l_cons (e_ix (hu_of hr) (e_v 1) e_int) (l_cons (e_ix (hu_of hr) (e_v 2) (e_ix (hu_of hr) (e_v 1) e_int)) (l_cons (e_ix (hu_of hr) (e_v 2) (e_ix (hu_of hr) (e_v 1) e_int)) l_nil)))) (e_v 2) (e_ix (hu_of hr) (e_v 1) e_int))) SMs.nil)
    (SMs.cons (s_if (b_cmp (or_eqA hr) ok_eq (e_ix (hu_of hr) (e_v 1) e_int) e_str (nomark _)) (SMs.one (s_sub (hu_of hr) (e_ix (hu_of hr) (e_v 2) (e_ix (hu_of hr) (e_v 1) (e_add e_int (c_int z_int (l_cons (e_cmp (or_eqA hr) ok_eq (e_ix (hu_of hr) (e_v 2) (e_ix (hu_of hr) (e_v 1) e_int)) e_int (nomark _)) l_nil))))) (e_v 2) (e_ix (hu_of hr) (e_v 1) e_int))) SMs.nil)
    (SMs.cons (s_if (b_cmp (or_eqA hr) ok_eq (e_ix (hu_of hr) (e_v 1) e_int) e_str (nomark _)) (SMs.one (s_sub (hu_of hr) (e_get2 (hu_of hr) (e_ix (hu_of hr) (e_v 0) e_str) (e_add (e_ix (hu_of hr) (e_v 1) e_int) (e_band (e_ix (hu_of hr) (e_v 2) (e_ix (hu_of hr) (e_v 1) e_int)) (e_ix (hu_of hr) (e_v 1) e_int))) e_int) (e_v 2) (e_ix (hu_of hr) (e_v 1) e_int))) SMs.nil)
    (SMs.cons (s_if (b_cmp (or_eqA hr) ok_eq (e_ix (hu_of hr) (e_v 1) e_int) e_str (nomark _)) (SMs.one (s_sub (hu_of hr) (e_ix (hu_of hr) (e_v 2) (e_ix (hu_of hr) (e_v 1) e_int)) (e_ix (hu_of hr) (e_v 0) e_str) (e_add (e_ix (hu_of hr) (e_v 1) e_int) (e_band (e_ix (hu_of hr) (e_v 2) (e_ix (hu_of hr) (e_v 1) e_int)) (e_ix (hu_of hr) (e_v 1) e_int))))) SMs.nil)
    (SMs.one (s_if (b_cmp (or_eqA hr) ok_eq (e_ix (hu_of hr) (e_v 1) e_int) e_str (nomark _)) (SMs.one (s_expr (e_bm PySem.F.plainAttrs_list PySem.F.slot_list_append PySem.F.type_list_append mt_append ok_append (e_ix (hu_of hr) (e_v 0) e_str) (l_cons (e_ix (hu_of hr) (e_v 2) (e_ix (hu_of hr) (e_v 1) e_int)) l_nil)))) SMs.nil))))))))
theorem sc__law_next_row : FnScope ["m", "row"] ["m", "row"] (defScope s__law_next_row) := ⟨rfl, rfl, rfl, by decide +kernel, rfl, by decide +kernel, by decide +kernel⟩
theorem ok__law_next_row {f__law_next_row : Addr} {fd__law_next_row : FuncData} (D__law_next_row : DefAt K mg "_law_next_row" s__law_next_row ["m", "row"] f__law_next_row fd__law_next_row) : FnOk P w K mg base (L2.CX P w) 1 f__law_next_row fd__law_next_row ["m", "row"] (spM K 2 (m__law_next_row)) := by
  have sc := sc__law_next_row
  refine fn_def (m := b__law_next_row) D__law_next_row.F sc rfl rfl fun cdv A outer s H E hr => ?_
  unfold b__law_next_row
  exact (SMs.cons (s_if (b_cmp (or_eqA hr) ok_eq (e_ix (hu_of hr) (e_v 1) e_int) e_str (nomark _)) (SMs.one (s_ret (e_ix (hu_of hr) (e_v 1) e_int))) SMs.nil)
    (SMs.cons (s_if (b_of (w_and (b_cmp (or_eqA hr) ok_eq (e_ix (hu_of hr) (e_v 1) e_int) e_str (nomark _)) (w_and1 (b_cmp (or_neA hr) ok_ne (e_ix (hu_of hr) (e_ix (hu_of hr) (e_v 0) e_str) (e_ix (hu_of hr) (e_v 1) e_int)) e_int (nomark _))))) (SMs.one (s_ret (e_ix (hu_of hr) (e_v 1) e_int))) SMs.nil)
    (SMs.one (s_ret (e_add (e_ix (hu_of hr) (e_v 0) e_str) e_int)))))
theorem sc__law_held : FnScope ["code", "words", "base", "size", "label", "j"] ["code", "words"] (defScope s__law_held) := ⟨rfl, rfl, rfl, by decide +kernel, rfl, by decide +kernel, by decide +kernel⟩
theorem ok__law_held {f__law_held : Addr} {fd__law_held : FuncData} (D__law_held : DefAt K mg "_law_held" s__law_held ["code", "words"] f__law_held fd__law_held) (z_tuple : mg "tuple" = none) (z_range : mg "range" = none) : FnOk P w K mg base (L2.CX P w) 1 f__law_held fd__law_held ["code", "words"] (spM K 2 (m__law_held)) := by
  have sc := sc__law_held
  refine fn_def (m := b__law_held) D__law_held.F sc rfl rfl fun cdv A outer s H E hr => ?_
  unfold b__law_held
  exact (SMs.one (s_ret (c_tuple z_tuple (l_cons (e_lc rfl sc.nd (i_it (e_ix (hu_of hr) (e_v 0) e_int)) (blkOk_by (own := [("base", 2), ("size", 3), ("label", 4)]) (by rfl)) (gok_t (is := [2, 3, 4]) (by decide)) (fun _ _ _ _ _ => pg_tup rfl (pgs_cons (pg_name (i := 2) sc.nd rfl (by first | exact Or.inl rfl | exact Or.inr rfl)) (pgs_cons (pg_name (i := 3) sc.nd rfl (by first | exact Or.inl rfl | exact Or.inr rfl)) (pgs_cons (pg_name (i := 4) sc.nd rfl (by first | exact Or.inl rfl | exact Or.inr rfl)) pgs_nil)))) (fun _ _ _ _ _ => ct_nil) (fun _ _ _ _ _ => (c_tuple z_tuple (l_cons (e_lc rfl sc.nd (i_rng1 z_range (l_cons (e_v 3) l_nil)) (blkOk_by (own := [("j", 5)]) (by rfl)) (gok_n (i := 5) rfl) (fun _ _ _ _ _ => pg_name (i := 5) sc.nd rfl (by first | exact Or.inl rfl | exact Or.inr rfl)) (fun _ _ _ _ _ => ct_nil) (fun _ _ _ _ _ => (e_ix (hu_of hr) (e_v 1) (e_add (e_v 2) (e_v 5))))) l_nil)))) l_nil))))
theorem sc__law_plain : FnScope ["code", "contents", "steps", "m", "result", "step", "row"] ["code", "contents", "steps"] (defScope s__law_plain) := ⟨rfl, rfl, rfl, by decide +kernel, rfl, by decide +kernel, by decide +kernel⟩
theorem ok__law_plain {f__law_plain : Addr} {fd__law_plain : FuncData} {f__law_memory : Addr} {fd__law_memory : FuncData} {f__law_do : Addr} {fd__law_do : FuncData} {f__law_next_row : Addr} {fd__law_next_row : FuncData} {f__law_held : Addr} {fd__law_held : FuncData} (D__law_plain : DefAt K mg "_law_plain" s__law_plain ["code", "contents", "steps"] f__law_plain fd__law_plain) (D__law_memory : DefAt K mg "_law_memory" s__law_memory ["code", "contents"] f__law_memory fd__law_memory) (D__law_do : DefAt K mg "_law_do" s__law_do ["m", "row"] f__law_do fd__law_do) (D__law_next_row : DefAt K mg "_law_next_row" s__law_next_row ["m", "row"] f__law_next_row fd__law_next_row) (D__law_held : DefAt K mg "_law_held" s__law_held ["code", "words"] f__law_held fd__law_held) (G__law_memory : FnOk P w K mg base (L2.CX P w) 1 f__law_memory fd__law_memory ["code", "contents"] (spM K 2 m__law_memory)) (G__law_do : FnOk P w K mg base (L2.CX P w) 2 f__law_do fd__law_do ["m", "row"] (spM K 2 m__law_do)) (G__law_next_row : FnOk P w K mg base (L2.CX P w) 1 f__law_next_row fd__law_next_row ["m", "row"] (spM K 2 m__law_next_row)) (G__law_held : FnOk P w K mg base (L2.CX P w) 1 f__law_held fd__law_held ["code", "words"] (spM K 2 m__law_held)) (z_range : mg "range" = none) (z_tuple : mg "tuple" = none) : FnOk P w K mg base (L2.CX P w) 3 f__law_plain fd__law_plain ["code", "contents", "steps"] (spM K 3 (m__law_plain)) := by
  have sc := sc__law_plain
  refine fn_def (m := b__law_plain) D__law_plain.F sc rfl rfl fun cdv A outer s H E hr => ?_
  unfold b__law_plain
  exact (SMs.cons (s_set (i := 3) sc.nd (e_disp (dp_cons e_str (e_mul (e_lst (l_cons e_int l_nil)) e_int) (dp_cons e_str (e_fn G__law_memory len__law_memory (hr.mono (by decide)) (by rfl) D__law_memory.g D__law_memory.F.kp D__law_memory.b (fun _ => Passes.at pass_def _) (l_cons (e_v 0) (l_cons (e_v 1) l_nil))) (dp_cons e_str (e_lst l_nil) (dp_cons e_str e_int dp_nil))))))
    (SMs.cons (s_set (i := 4) sc.nd e_non)
    (SMs.cons (s_for (passes_of rfl) rfl (i_rng1 z_range (l_cons (e_v 2) l_nil)) (g_n (i := 5) sc.nd) (SMs.cons (s_set (i := 6) sc.nd (e_ix (hu_of hr) (e_ix (hu_of hr) (e_v 0) e_int) (e_ix (hu_of hr) (e_v 3) e_str)))
    (SMs.cons (s_if (b_cmp (or_eqA hr) ok_eq (e_ix (hu_of hr) (e_v 6) e_int) e_str (nomark _)) (SMs.cons (s_set (i := 4) sc.nd (e_ix (hu_of hr) (e_ix (hu_of hr) (e_v 3) e_str) (e_ix (hu_of hr) (e_v 6) e_int)))
    (SMs.one s_brk)) SMs.nil)
    (SMs.cons (s_expr (e_fn G__law_do len__law_do (hr.mono (by decide)) (by rfl) D__law_do.g D__law_do.F.kp D__law_do.b (fun _ => Passes.at pass_def _) (l_cons (e_v 3) (l_cons (e_v 6) l_nil))))
    (SMs.one (s_sub (hu_of hr) (e_fn G__law_next_row len__law_next_row (hr.mono (by decide)) (by rfl) D__law_next_row.g D__law_next_row.F.kp D__law_next_row.b (fun _ => Passes.at pass_def _) (l_cons (e_v 3) (l_cons (e_v 6) l_nil))) (e_v 3) e_str))))))
    (SMs.one (s_ret (e_tup (l_cons (c_tuple z_tuple (l_cons (e_ix (hu_of hr) (e_v 3) e_str) l_nil)) (l_cons (e_v 4) (l_cons (e_fn G__law_held len__law_held (hr.mono (by decide)) (by rfl) D__law_held.g D__law_held.F.kp D__law_held.b (fun _ => Passes.at pass_def _) (l_cons (e_v 0) (l_cons (e_ix (hu_of hr) (e_v 3) e_str) l_nil))) l_nil)))))))))
theorem sc_law : FnScope ["script", "draws", "code", "contents", "steps", "told", "due"] ["script"] (defScope s_law) := ⟨rfl, rfl, rfl, by decide +kernel, rfl, by decide +kernel, by decide +kernel⟩
theorem ok_law {f_law : Addr} {fd_law : FuncData} {f__law_reader : Addr} {fd__law_reader : FuncData} {f__law_code : Addr} {fd__law_code : FuncData} {f__law_contents : Addr} {fd__law_contents : FuncData} {f__law_next : Addr} {fd__law_next : FuncData} {f_plain_run : Addr} {fd_plain_run : FuncData} {f__law_plain : Addr} {fd__law_plain : FuncData} {cA : Nat → Addr} (D_law : DefAt K mg "law" s_law ["script"] f_law fd_law) (D__law_reader : DefAt K mg "_law_reader" s__law_reader ["script"] f__law_reader fd__law_reader) (D__law_code : DefAt K mg "_law_code" s__law_code ["draws"] f__law_code fd__law_code) (D__law_contents : DefAt K mg "_law_contents" s__law_contents ["draws", "code"] f__law_contents fd__law_contents) (D__law_next : DefAt K mg "_law_next" s__law_next ["draws", "many"] f__law_next fd__law_next) (D_plain_run : DefAt K mg "plain_run" s_plain_run ["code", "contents", "steps"] f_plain_run fd_plain_run) (D__law_plain : DefAt K mg "_law_plain" s__law_plain ["code", "contents", "steps"] f__law_plain fd__law_plain) (G__law_reader : FnOk P w K mg base (L2.CX P w) 2 f__law_reader fd__law_reader ["script"] (spM K 1 m__law_reader)) (G__law_code : FnOk P w K mg base (L2.CX P w) 5 f__law_code fd__law_code ["draws"] (spM K 1 m__law_code)) (G__law_contents : FnOk P w K mg base (L2.CX P w) 3 f__law_contents fd__law_contents ["draws", "code"] (spM K 2 m__law_contents)) (G__law_next : FnOk P w K mg base (L2.CX P w) 1 f__law_next fd__law_next ["draws", "many"] (spM K 2 m__law_next)) (G_plain_run : FnOk P w K mg base (L2.CX P w) 4 f_plain_run fd_plain_run ["code", "contents", "steps"] (spM K 3 (m_plain_run cA))) (G__law_plain : FnOk P w K mg base (L2.CX P w) 3 f__law_plain fd__law_plain ["code", "contents", "steps"] (spM K 3 m__law_plain)) (z_isinstance : mg "isinstance" = none) (z_tuple : mg "tuple" = none) : FnOk P w K mg base (L2.CX P w) 6 f_law fd_law ["script"] (spM K 1 (m_law cA)) := by
  have sc := sc_law
  refine fn_def (m := b_law cA) D_law.F sc rfl rfl fun cdv A outer s H E hr => ?_
  unfold b_law
  exact (SMs.cons (s_set (i := 1) sc.nd (e_fn G__law_reader len__law_reader (hr.mono (by decide)) (by rfl) D__law_reader.g D__law_reader.F.kp D__law_reader.b (fun _ => Passes.at pass_def _) (l_cons (e_v 0) l_nil)))
    (SMs.cons (s_set (i := 2) sc.nd (e_fn G__law_code len__law_code (hr.mono (by decide)) (by rfl) D__law_code.g D__law_code.F.kp D__law_code.b (fun _ => Passes.at pass_def _) (l_cons (e_v 1) l_nil)))
    (SMs.cons (s_set (i := 3) sc.nd (e_fn G__law_contents len__law_contents (hr.mono (by decide)) (by rfl) D__law_contents.g D__law_contents.F.kp D__law_contents.b (fun _ => Passes.at pass_def _) (l_cons (e_v 1) (l_cons (e_v 2) l_nil))))
    (SMs.cons (s_set (i := 4) sc.nd (e_ix (hu_of hr) (e_lst (l_cons (e_fn G__law_next len__law_next (hr.mono (by decide)) (by rfl) D__law_next.g D__law_next.F.kp D__law_next.b (fun _ => Passes.at pass_def _) (l_cons (e_v 1) (l_cons e_int l_nil))) (l_cons e_int l_nil))) (e_fn G__law_next len__law_next (hr.mono (by decide)) (by rfl) D__law_next.g D__law_next.F.kp D__law_next.b (fun _ => Passes.at pass_def _) (l_cons (e_v 1) (l_cons e_int l_nil)))))
    (SMs.cons (s_set (i := 5) sc.nd (e_fn G_plain_run len_plain_run (hr.mono (by decide)) (by rfl) D_plain_run.g D_plain_run.F.kp D_plain_run.b (fun _ => Passes.at pass_def _) (l_cons (e_v 2) (l_cons (e_v 3) (l_cons (e_v 4) l_nil)))))
    (SMs.cons (s_set (i := 6) sc.nd (e_fn G__law_plain len__law_plain (hr.mono (by decide)) (by rfl) D__law_plain.g D__law_plain.F.kp D__law_plain.b (fun _ => Passes.at pass_def _) (l_cons (e_v 2) (l_cons (e_v 3) (l_cons (e_v 4) l_nil)))))
    (SMs.one (s_ret (e_and (c_isi (cn := "tuple") z_isinstance z_tuple (e_v 5)) (e_and (e_cmp (or_eqA hr) ok_eq (e_v 5) (e_v 6) (nomark _)) (e_one (e_cmp (or_eqA hr) ok_eq (e_fn G_plain_run len_plain_run (hr.mono (by decide)) (by rfl) D_plain_run.g D_plain_run.F.kp D_plain_run.b (fun _ => Passes.at pass_def _) (l_cons (e_v 2) (l_cons (e_v 3) (l_cons (e_v 4) l_nil)))) (e_v 6) (nomark _)))))))))))))
end
end GK27
set_option Elab.async false
set_option linter.all false
set_option maxRecDepth 100000
namespace GK27
open PySem L2 Ly
open PySem.Spec hiding Row
open PyProof.Rows hiding St
local macro_rules | `(tactic| simp_arith [$ls,*]) => `(tactic| simp only [Ly.line_le, Ly.atX_no, Ly.v_ok, Ly.v_bad, Ly.v_bind, Ly.k_bd, Ly.v_at, Ly.v_bin, Ly.k_bi, Ly.k_bi2, Ly.v_var, Ly.v_c, Ly.v_un, Ly.k_un, Ly.v_if, Ly.k_ife, Ly.v_and, Ly.k_and, Ly.k_and2, Ly.v_or, Ly.k_or, Ly.k_or2, Ly.v_tup, Ly.k_tup, Ly.v_lst, Ly.k_lst, Ly.v_call, Ly.k_ca, Ly.v_fn, Ly.k_fn, Ly.v_bm, Ly.k_bm, Ly.k_bm2, Ly.v_sl, Ly.k_sl, Ly.k_sl2, Ly.k_sl3, Ly.v_ixK, Ly.k_ixk, Ly.v_inK, Ly.k_ink, Ly.v_notinK, Ly.k_nink, Ly.v_getK2, Ly.k_gk2, Ly.k_gk, Ly.v_get2, Ly.k_g2, Ly.k_g22, Ly.k_g23, Ly.v_nil, Ly.v_cons, Ly.k_co, Ly.k_co2, Ly.v_no, Ly.v_some, Ly.k_so, Ly.k_cm, Ly.v_cmp, Ly.v_tru, Ly.k_tr, Ly.v_notB, Ly.k_no, Ly.v_andB, Ly.k_an, Ly.v_orB, Ly.k_orb, Ly.v_yes, Ly.v_inKB, Ly.k_inkB, Ly.v_notinKB, Ly.k_ninkB, Ly.v_set, Ly.k_st, Ly.v_expr, Ly.k_ex, Ly.v_ret, Ly.k_re, Ly.v_retN, Ly.v_pass, Ly.v_brk, Ly.v_cnt, Ly.v_seq, Ly.k_sq_nx, Ly.k_sq_rt, Ly.k_sq_bk, Ly.k_sq_ct, Ly.v_ifS, Ly.k_ifs, Ly.v_asg, Ly.k_as, Ly.k_as2, Ly.v_aug, Ly.k_au, Ly.v_for, Ly.k_fo, Ly.v_it, Ly.k_it, Ly.k_ij, Ly.v_rng1, Ly.v_rng2, Ly.v_enum, Ly.v_zip, Ly.v_gN, Ly.v_gsN, Ly.v_gsC, Ly.k_gc, Ly.v_gT, Ly.v_gTw, Ly.v_gSb, Ly.k_gsb, Ly.k_gsb2, Ly.k_gsb3, Ly.k_en_rt, Ly.k_en_nx, Ly.k_tu_nx, Ly.k_tu_ct, Ly.k_tu_bk, Ly.k_tu_rt, Ly.v_lc, Ly.k_lc, Ly.v_augI, Ly.k_ag, Ly.k_ag2, Ly.k_ag3, Ly.k_ag4, Ly.k_ag5, Ly.v_del, Ly.k_dl, Ly.k_dl2, Ly.v_setd, Ly.v_pop2, Ly.k_d3, Ly.k_d32, Ly.k_d33, Ly.v_get1, Ly.k_g1, Ly.k_g12, Ly.v_rg1, Ly.k_rg, Ly.v_rg2, Ly.k_rg2, Ly.k_rg22, Ly.v_dicK, Ly.v_dicT, Ly.v_dc, Ly.k_dc, List.getElem?_cons_zero, List.getElem?_cons_succ, List.set_cons_zero, List.set_cons_succ, List.length_cons, List.length_nil, List.map_cons, List.map_nil, List.cons_append, List.nil_append, List.replicate, if_true, if_false, Bool.false_eq_true, Bool.not_true, Bool.not_false, Bool.true_and, Bool.false_and, decide_true, decide_false, decide_eq_true_eq, Nat.zero_add, Nat.reduceAdd, Nat.reduceLeDiff, true_and, and_true, $ls,*])
theorem is_next : m__law_next = m_nextD := rfl
theorem is_reader : m__law_reader = m_readerD := rfl
theorem is_code : m__law_code = m_Ncode := rfl
theorem is_contents : m__law_contents = m_Ncontents := rfl
theorem is_plain : m__law_plain = m_Nplain := rfl
variable {cA : Nat → Addr}
theorem is_run : m_plain_run cA = m_plain_runM cA := rfl
theorem law_wp (hA : ActOk cA) {S : Hs} {x : D} {ns : List Int} (hx : seqD x S = some (ns.map D.int)) (hn : ns.length ≤ 63) : Wp NoX (m_law cA [x] S) fun v _ => v = .bl true := by
  refine wp_def0 rfl ?_
  unfold b_law
  simp_arith [Ly.v_fld, Ly.v_meth, Ly.k_me2, Ly.v_make, Ly.k_mk, Ly.v_fldset, Ly.k_fs, Ly.v_fldaug, Ly.k_fa2, Ly.look1, List.mem_cons, List.not_mem_nil, or_false, true_or, or_true, is_reader]
  refine Wp.call (readerD_ok hx hn) ?_
  rintro _ S1 ⟨i, j, rfl, d1, hi, hj, k1⟩
  simp_arith [Ly.v_fld, Ly.v_meth, Ly.k_me2, Ly.v_make, Ly.k_mk, Ly.v_fldset, Ly.k_fs, Ly.v_fldaug, Ly.k_fa2, Ly.look1, List.mem_cons, List.not_mem_nil, or_false, true_or, or_true, is_code]
  refine Wp.call (Ncode_ok d1) ?_
  rintro _ S2 ⟨⟨regs, rows, rfl, c⟩, d2, k2⟩
  simp_arith [Ly.v_fld, Ly.v_meth, Ly.k_me2, Ly.v_make, Ly.k_mk, Ly.v_fldset, Ly.k_fs, Ly.v_fldaug, Ly.k_fa2, Ly.look1, List.mem_cons, List.not_mem_nil, or_false, true_or, or_true, is_contents]
  refine Wp.call (Ncontents_ok d2 c) ?_
  rintro _ S3 ⟨⟨cs, rfl, hc⟩, d3, k3⟩
  simp_arith [Ly.v_fld, Ly.v_meth, Ly.k_me2, Ly.v_make, Ly.k_mk, Ly.v_fldset, Ly.k_fs, Ly.v_fldaug, Ly.k_fa2, Ly.look1, List.mem_cons, List.not_mem_nil, or_false, true_or, or_true, is_next]
  refine nx d3 (by decide) fun m S4 hm d4 k4 _ => ?_
  simp_arith [Ly.v_fld, Ly.v_meth, Ly.k_me2, Ly.v_make, Ly.k_mk, Ly.v_fldset, Ly.k_fs, Ly.v_fldaug, Ly.k_fa2, Ly.look1, List.mem_cons, List.not_mem_nil, or_false, true_or, or_true]
  refine nx d4.new (by decide) fun p S5 hp d5 k5 _ => ?_
  have h4l := d4.lt
  have hq : S5[S4.length]? = some (.lst [nD m, .int 150]) := k5.get (i := S4.length) (by simp) (by simp; omega)
  obtain ⟨n, hn, hnl⟩ : ∃ n : Nat, ([nD m, .int 150] : List D)[p]? = some (nD n) ∧ n ≤ 100000 := by
    rcases (show p = 0 ∨ p = 1 by omega) with rfl | rfl
    · exact ⟨m, rfl, by omega⟩
    · exact ⟨150, rfl, by decide⟩
  have hl : regs.length ≤ 100000 := by have := c.few; omega
  simp_arith [Ly.v_fld, Ly.v_meth, Ly.k_me2, Ly.v_make, Ly.k_mk, Ly.v_fldset, Ly.k_fs, Ly.v_fldaug, Ly.k_fa2, Ly.look1, List.mem_cons, List.not_mem_nil, or_false, true_or, or_true, oIx_lst hq (Int.natCast_nonneg p) (by simp; omega) hn, is_run]
  refine Wp.call (plain_run_ok hA c.ok hc hl hnl) ?_
  rintro _ S6 ⟨rfl, k6⟩
  simp_arith [Ly.v_fld, Ly.v_meth, Ly.k_me2, Ly.v_make, Ly.k_mk, Ly.v_fldset, Ly.k_fs, Ly.v_fldaug, Ly.k_fa2, Ly.look1, List.mem_cons, List.not_mem_nil, or_false, true_or, or_true, is_plain]
  refine Wp.call (Nplain_ok c.ok hc hl hnl) ?_
  rintro _ S7 ⟨rfl, k7⟩
  have hist : ∀ S, oIsi "tuple" (plainD regs rows cs n) S = .ok (.bl true) S := fun S => rfl
  have heq : ∀ S, oEq (plainD regs rows cs n) (plainD regs rows cs n) S = .ok (.bl true) S := fun S => by simp only [oEq, plainD_same]
  simp_arith [Ly.v_fld, Ly.v_meth, Ly.k_me2, Ly.v_make, Ly.k_mk, Ly.v_fldset, Ly.k_fs, Ly.v_fldaug, Ly.k_fa2, Ly.look1, List.mem_cons, List.not_mem_nil, or_false, true_or, or_true, hist, heq, oTru_bl]
  refine Wp.call (plain_run_ok hA c.ok hc hl hnl) ?_
  rintro _ S8 ⟨rfl, k8⟩
  simp_arith [Ly.v_fld, Ly.v_meth, Ly.k_me2, Ly.v_make, Ly.k_mk, Ly.v_fldset, Ly.k_fs, Ly.v_fldaug, Ly.k_fa2, Ly.look1, List.mem_cons, List.not_mem_nil, or_false, true_or, or_true, heq, oTru_bl]
theorem law_true (cA : Nat → Addr) (h : Dst 0 13 cA) : LawTrue (m_law cA) := by
  intro ns x S h1 _ _ _ _ h5 _
  obtain ⟨v, S', e, rfl⟩ := (law_wp (cA := cA) (fun i j hi hj e => h i j (by omega) hi (by omega) hj e) h5 h1).ex
  exact ⟨S', e⟩
end GK27
set_option Elab.async false
set_option linter.all false
set_option maxRecDepth 100000
set_option maxHeartbeats 4000000
namespace GK27
open PySem PySem.Spec L2 Ly
open PyProof.Rows hiding St
theorem all_mk {l : PySem.W.OpenLaw} {w : World} {K : PySem.W.Frag} {h : Heap} {mg : Str → Option Value} {fa : Addr} (X : K.In h) (G : h.Ns mainGlobals mg) (hfa : mg "law" = some (.ref fa))
    {f__law_draws : Addr} {od__law_draws an__law_draws : Option Addr} {sl__law_draws : Array (Option Value)} {oc__law_draws kV__law_draws dc__law_draws pm__law_draws cd__law_draws ct__law_draws : Value} {f__law_reader : Addr} {od__law_reader an__law_reader : Option Addr} {sl__law_reader : Array (Option Value)} {oc__law_reader kV__law_reader dc__law_reader pm__law_reader cd__law_reader ct__law_reader : Value} {f__law_next : Addr} {od__law_next an__law_next : Option Addr} {sl__law_next : Array (Option Value)} {oc__law_next kV__law_next dc__law_next pm__law_next cd__law_next ct__law_next : Value} {f__law_regions : Addr} {od__law_regions an__law_regions : Option Addr} {sl__law_regions : Array (Option Value)} {oc__law_regions kV__law_regions dc__law_regions pm__law_regions cd__law_regions ct__law_regions : Value} {f__law_register : Addr} {od__law_register an__law_register : Option Addr} {sl__law_register : Array (Option Value)} {oc__law_register kV__law_register dc__law_register pm__law_register cd__law_register ct__law_register : Value} {f__law_op : Addr} {od__law_op an__law_op : Option Addr} {sl__law_op : Array (Option Value)} {oc__law_op kV__law_op dc__law_op pm__law_op cd__law_op ct__law_op : Value} {f__law_span : Addr} {od__law_span an__law_span : Option Addr} {sl__law_span : Array (Option Value)} {oc__law_span kV__law_span dc__law_span pm__law_span cd__law_span ct__law_span : Value} {f__law_word : Addr} {od__law_word an__law_word : Option Addr} {sl__law_word : Array (Option Value)} {oc__law_word kV__law_word dc__law_word pm__law_word cd__law_word ct__law_word : Value} {f__law_row : Addr} {od__law_row an__law_row : Option Addr} {sl__law_row : Array (Option Value)} {oc__law_row kV__law_row dc__law_row pm__law_row cd__law_row ct__law_row : Value} {f__law_code : Addr} {od__law_code an__law_code : Option Addr} {sl__law_code : Array (Option Value)} {oc__law_code kV__law_code dc__law_code pm__law_code cd__law_code ct__law_code : Value} {f__law_contents : Addr} {od__law_contents an__law_contents : Option Addr} {sl__law_contents : Array (Option Value)} {oc__law_contents kV__law_contents dc__law_contents pm__law_contents cd__law_contents ct__law_contents : Value} {f_memory_of : Addr} {od_memory_of an_memory_of : Option Addr} {sl_memory_of : Array (Option Value)} {oc_memory_of kV_memory_of dc_memory_of pm_memory_of cd_memory_of ct_memory_of : Value} {f_contents_of : Addr} {od_contents_of an_contents_of : Option Addr} {sl_contents_of : Array (Option Value)} {oc_contents_of kV_contents_of dc_contents_of pm_contents_of cd_contents_of ct_contents_of : Value} {f_address_of : Addr} {od_address_of an_address_of : Option Addr} {sl_address_of : Array (Option Value)} {oc_address_of kV_address_of dc_address_of pm_address_of cd_address_of ct_address_of : Value} {f__plus : Addr} {od__plus an__plus : Option Addr} {sl__plus : Array (Option Value)} {oc__plus kV__plus dc__plus pm__plus cd__plus ct__plus : Value} {f__minus : Addr} {od__minus an__minus : Option Addr} {sl__minus : Array (Option Value)} {oc__minus kV__minus dc__minus pm__minus cd__minus ct__minus : Value} {f__times : Addr} {od__times an__times : Option Addr} {sl__times : Array (Option Value)} {oc__times kV__times dc__times pm__times cd__times ct__times : Value} {f__both : Addr} {od__both an__both : Option Addr} {sl__both : Array (Option Value)} {oc__both kV__both dc__both pm__both cd__both ct__both : Value} {f__either : Addr} {od__either an__either : Option Addr} {sl__either : Array (Option Value)} {oc__either kV__either dc__either pm__either cd__either ct__either : Value} {f__apart : Addr} {od__apart an__apart : Option Addr} {sl__apart : Array (Option Value)} {oc__apart kV__apart dc__apart pm__apart cd__apart ct__apart : Value} {f__left : Addr} {od__left an__left : Option Addr} {sl__left : Array (Option Value)} {oc__left kV__left dc__left pm__left cd__left ct__left : Value} {f__right : Addr} {od__right an__right : Option Addr} {sl__right : Array (Option Value)} {oc__right kV__right dc__right pm__right cd__right ct__right : Value} {f__equal : Addr} {od__equal an__equal : Option Addr} {sl__equal : Array (Option Value)} {oc__equal kV__equal dc__equal pm__equal cd__equal ct__equal : Value} {f__less : Addr} {od__less an__less : Option Addr} {sl__less : Array (Option Value)} {oc__less kV__less dc__less pm__less cd__less ct__less : Value} {f__at_most : Addr} {od__at_most an__at_most : Option Addr} {sl__at_most : Array (Option Value)} {oc__at_most kV__at_most dc__at_most pm__at_most cd__at_most ct__at_most : Value} {f__div : Addr} {od__div an__div : Option Addr} {sl__div : Array (Option Value)} {oc__div kV__div dc__div pm__div cd__div ct__div : Value} {f__mod : Addr} {od__mod an__mod : Option Addr} {sl__mod : Array (Option Value)} {oc__mod kV__mod dc__mod pm__mod cd__mod ct__mod : Value} {f_apply : Addr} {od_apply an_apply : Option Addr} {sl_apply : Array (Option Value)} {oc_apply kV_apply dc_apply pm_apply cd_apply ct_apply : Value} {f_word_of : Addr} {od_word_of an_word_of : Option Addr} {sl_word_of : Array (Option Value)} {oc_word_of kV_word_of dc_word_of pm_word_of cd_word_of ct_word_of : Value} {f_writes : Addr} {od_writes an_writes : Option Addr} {sl_writes : Array (Option Value)} {oc_writes kV_writes dc_writes pm_writes cd_writes ct_writes : Value} {f_plain_run : Addr} {od_plain_run an_plain_run : Option Addr} {sl_plain_run : Array (Option Value)} {oc_plain_run kV_plain_run dc_plain_run pm_plain_run cd_plain_run ct_plain_run : Value} {f__law_memory : Addr} {od__law_memory an__law_memory : Option Addr} {sl__law_memory : Array (Option Value)} {oc__law_memory kV__law_memory dc__law_memory pm__law_memory cd__law_memory ct__law_memory : Value} {f__law_apply : Addr} {od__law_apply an__law_apply : Option Addr} {sl__law_apply : Array (Option Value)} {oc__law_apply kV__law_apply dc__law_apply pm__law_apply cd__law_apply ct__law_apply : Value} {f__law_do : Addr} {od__law_do an__law_do : Option Addr} {sl__law_do : Array (Option Value)} {oc__law_do kV__law_do dc__law_do pm__law_do cd__law_do ct__law_do : Value} {f__law_next_row : Addr} {od__law_next_row an__law_next_row : Option Addr} {sl__law_next_row : Array (Option Value)} {oc__law_next_row kV__law_next_row dc__law_next_row pm__law_next_row cd__law_next_row ct__law_next_row : Value} {f__law_held : Addr} {od__law_held an__law_held : Option Addr} {sl__law_held : Array (Option Value)} {oc__law_held kV__law_held dc__law_held pm__law_held cd__law_held ct__law_held : Value} {f__law_plain : Addr} {od__law_plain an__law_plain : Option Addr} {sl__law_plain : Array (Option Value)} {oc__law_plain kV__law_plain dc__law_plain pm__law_plain cd__law_plain ct__law_plain : Value} {f_law : Addr} {od_law an_law : Option Addr} {sl_law : Array (Option Value)} {oc_law kV_law dc_law pm_law cd_law ct_law : Value} {u_GREATEST_WORD : Value} {u_SHIFTS : Value} {ad_ACTIONS : Addr} {n_ACTIONS : Nat} {es_ACTIONS : Array DictEntry} {ad_CODE_FORMS : Addr} {n_CODE_FORMS : Nat} {es_CODE_FORMS : Array DictEntry} {ad_CODE_FORMS_0 : Addr} {oad_CODE_FORMS_0 : Option Addr} {nad_CODE_FORMS_0 : Nat} {sad_CODE_FORMS_0 : Array (Option Value)} {iad_CODE_FORMS_0 : Array Value} {ad_CODE_FORMS_1 : Addr} {oad_CODE_FORMS_1 : Option Addr} {nad_CODE_FORMS_1 : Nat} {sad_CODE_FORMS_1 : Array (Option Value)} {iad_CODE_FORMS_1 : Array Value} {ad_CODE_FORMS_2 : Addr} {oad_CODE_FORMS_2 : Option Addr} {nad_CODE_FORMS_2 : Nat} {sad_CODE_FORMS_2 : Array (Option Value)} {iad_CODE_FORMS_2 : Array Value} {ad_CODE_FORMS_3 : Addr} {oad_CODE_FORMS_3 : Option Addr} {nad_CODE_FORMS_3 : Nat} {sad_CODE_FORMS_3 : Array (Option Value)} {iad_CODE_FORMS_3 : Array Value} {ad_CODE_FORMS_4 : Addr} {oad_CODE_FORMS_4 : Option Addr} {nad_CODE_FORMS_4 : Nat} {sad_CODE_FORMS_4 : Array (Option Value)} {iad_CODE_FORMS_4 : Array Value} {ad_CODE_FORMS_5 : Addr} {oad_CODE_FORMS_5 : Option Addr} {nad_CODE_FORMS_5 : Nat} {sad_CODE_FORMS_5 : Array (Option Value)} {iad_CODE_FORMS_5 : Array Value} {ad_CODE_FORMS_6 : Addr} {oad_CODE_FORMS_6 : Option Addr} {nad_CODE_FORMS_6 : Nat} {sad_CODE_FORMS_6 : Array (Option Value)} {iad_CODE_FORMS_6 : Array Value} {ad_CODE_FORMS_7 : Addr} {oad_CODE_FORMS_7 : Option Addr} {nad_CODE_FORMS_7 : Nat} {sad_CODE_FORMS_7 : Array (Option Value)} {iad_CODE_FORMS_7 : Array Value} {ad_CODE_FORMS_8 : Addr} {oad_CODE_FORMS_8 : Option Addr} {nad_CODE_FORMS_8 : Nat} {sad_CODE_FORMS_8 : Array (Option Value)} {iad_CODE_FORMS_8 : Array Value} {u_REGISTERS : Value}
    (a__law_draws : PySem.W.nsIn K mainGlobals "_law_draws" = some (some (.ref f__law_draws)))
    (l__law_draws : K.lookup f__law_draws = some ⟨oc__law_draws, od__law_draws, .func (PySem.W.fnOf "_law_draws" "_law_draws" (defArgs s__law_draws) (defBody s__law_draws) (defScope s__law_draws) .none kV__law_draws dc__law_draws pm__law_draws an__law_draws cd__law_draws ct__law_draws), sl__law_draws⟩)
    (c__law_draws : PySem.W.codeIn K cd__law_draws "_law_draws" = true)
    (k__law_draws : PySem.W.keepIn K (.ref f__law_draws) = true)
    (a__law_reader : PySem.W.nsIn K mainGlobals "_law_reader" = some (some (.ref f__law_reader)))
    (l__law_reader : K.lookup f__law_reader = some ⟨oc__law_reader, od__law_reader, .func (PySem.W.fnOf "_law_reader" "_law_reader" (defArgs s__law_reader) (defBody s__law_reader) (defScope s__law_reader) .none kV__law_reader dc__law_reader pm__law_reader an__law_reader cd__law_reader ct__law_reader), sl__law_reader⟩)
    (c__law_reader : PySem.W.codeIn K cd__law_reader "_law_reader" = true)
    (k__law_reader : PySem.W.keepIn K (.ref f__law_reader) = true)
    (a__law_next : PySem.W.nsIn K mainGlobals "_law_next" = some (some (.ref f__law_next)))
    (l__law_next : K.lookup f__law_next = some ⟨oc__law_next, od__law_next, .func (PySem.W.fnOf "_law_next" "_law_next" (defArgs s__law_next) (defBody s__law_next) (defScope s__law_next) .none kV__law_next dc__law_next pm__law_next an__law_next cd__law_next ct__law_next), sl__law_next⟩)
    (c__law_next : PySem.W.codeIn K cd__law_next "_law_next" = true)
    (k__law_next : PySem.W.keepIn K (.ref f__law_next) = true)
    (a__law_regions : PySem.W.nsIn K mainGlobals "_law_regions" = some (some (.ref f__law_regions)))
    (l__law_regions : K.lookup f__law_regions = some ⟨oc__law_regions, od__law_regions, .func (PySem.W.fnOf "_law_regions" "_law_regions" (defArgs s__law_regions) (defBody s__law_regions) (defScope s__law_regions) .none kV__law_regions dc__law_regions pm__law_regions an__law_regions cd__law_regions ct__law_regions), sl__law_regions⟩)
    (c__law_regions : PySem.W.codeIn K cd__law_regions "_law_regions" = true)
    (k__law_regions : PySem.W.keepIn K (.ref f__law_regions) = true)
    (a__law_register : PySem.W.nsIn K mainGlobals "_law_register" = some (some (.ref f__law_register)))
    (l__law_register : K.lookup f__law_register = some ⟨oc__law_register, od__law_register, .func (PySem.W.fnOf "_law_register" "_law_register" (defArgs s__law_register) (defBody s__law_register) (defScope s__law_register) .none kV__law_register dc__law_register pm__law_register an__law_register cd__law_register ct__law_register), sl__law_register⟩)
    (c__law_register : PySem.W.codeIn K cd__law_register "_law_register" = true)
    (k__law_register : PySem.W.keepIn K (.ref f__law_register) = true)
    (a__law_op : PySem.W.nsIn K mainGlobals "_law_op" = some (some (.ref f__law_op)))
    (l__law_op : K.lookup f__law_op = some ⟨oc__law_op, od__law_op, .func (PySem.W.fnOf "_law_op" "_law_op" (defArgs s__law_op) (defBody s__law_op) (defScope s__law_op) .none kV__law_op dc__law_op pm__law_op an__law_op cd__law_op ct__law_op), sl__law_op⟩)
    (c__law_op : PySem.W.codeIn K cd__law_op "_law_op" = true)
    (k__law_op : PySem.W.keepIn K (.ref f__law_op) = true)
    (a__law_span : PySem.W.nsIn K mainGlobals "_law_span" = some (some (.ref f__law_span)))
    (l__law_span : K.lookup f__law_span = some ⟨oc__law_span, od__law_span, .func (PySem.W.fnOf "_law_span" "_law_span" (defArgs s__law_span) (defBody s__law_span) (defScope s__law_span) .none kV__law_span dc__law_span pm__law_span an__law_span cd__law_span ct__law_span), sl__law_span⟩)
    (c__law_span : PySem.W.codeIn K cd__law_span "_law_span" = true)
    (k__law_span : PySem.W.keepIn K (.ref f__law_span) = true)
    (a__law_word : PySem.W.nsIn K mainGlobals "_law_word" = some (some (.ref f__law_word)))
    (l__law_word : K.lookup f__law_word = some ⟨oc__law_word, od__law_word, .func (PySem.W.fnOf "_law_word" "_law_word" (defArgs s__law_word) (defBody s__law_word) (defScope s__law_word) .none kV__law_word dc__law_word pm__law_word an__law_word cd__law_word ct__law_word), sl__law_word⟩)
    (c__law_word : PySem.W.codeIn K cd__law_word "_law_word" = true)
    (k__law_word : PySem.W.keepIn K (.ref f__law_word) = true)
    (a__law_row : PySem.W.nsIn K mainGlobals "_law_row" = some (some (.ref f__law_row)))
    (l__law_row : K.lookup f__law_row = some ⟨oc__law_row, od__law_row, .func (PySem.W.fnOf "_law_row" "_law_row" (defArgs s__law_row) (defBody s__law_row) (defScope s__law_row) .none kV__law_row dc__law_row pm__law_row an__law_row cd__law_row ct__law_row), sl__law_row⟩)
    (c__law_row : PySem.W.codeIn K cd__law_row "_law_row" = true)
    (k__law_row : PySem.W.keepIn K (.ref f__law_row) = true)
    (a__law_code : PySem.W.nsIn K mainGlobals "_law_code" = some (some (.ref f__law_code)))
    (l__law_code : K.lookup f__law_code = some ⟨oc__law_code, od__law_code, .func (PySem.W.fnOf "_law_code" "_law_code" (defArgs s__law_code) (defBody s__law_code) (defScope s__law_code) .none kV__law_code dc__law_code pm__law_code an__law_code cd__law_code ct__law_code), sl__law_code⟩)
    (c__law_code : PySem.W.codeIn K cd__law_code "_law_code" = true)
    (k__law_code : PySem.W.keepIn K (.ref f__law_code) = true)
    (a__law_contents : PySem.W.nsIn K mainGlobals "_law_contents" = some (some (.ref f__law_contents)))
    (l__law_contents : K.lookup f__law_contents = some ⟨oc__law_contents, od__law_contents, .func (PySem.W.fnOf "_law_contents" "_law_contents" (defArgs s__law_contents) (defBody s__law_contents) (defScope s__law_contents) .none kV__law_contents dc__law_contents pm__law_contents an__law_contents cd__law_contents ct__law_contents), sl__law_contents⟩)
    (c__law_contents : PySem.W.codeIn K cd__law_contents "_law_contents" = true)
    (k__law_contents : PySem.W.keepIn K (.ref f__law_contents) = true)
    (a_memory_of : PySem.W.nsIn K mainGlobals "memory_of" = some (some (.ref f_memory_of)))
    (l_memory_of : K.lookup f_memory_of = some ⟨oc_memory_of, od_memory_of, .func (PySem.W.fnOf "memory_of" "memory_of" (defArgs s_memory_of) (defBody s_memory_of) (defScope s_memory_of) .none kV_memory_of dc_memory_of pm_memory_of an_memory_of cd_memory_of ct_memory_of), sl_memory_of⟩)
    (c_memory_of : PySem.W.codeIn K cd_memory_of "memory_of" = true)
    (k_memory_of : PySem.W.keepIn K (.ref f_memory_of) = true)
    (a_contents_of : PySem.W.nsIn K mainGlobals "contents_of" = some (some (.ref f_contents_of)))
    (l_contents_of : K.lookup f_contents_of = some ⟨oc_contents_of, od_contents_of, .func (PySem.W.fnOf "contents_of" "contents_of" (defArgs s_contents_of) (defBody s_contents_of) (defScope s_contents_of) .none kV_contents_of dc_contents_of pm_contents_of an_contents_of cd_contents_of ct_contents_of), sl_contents_of⟩)
    (c_contents_of : PySem.W.codeIn K cd_contents_of "contents_of" = true)
    (k_contents_of : PySem.W.keepIn K (.ref f_contents_of) = true)
    (a_address_of : PySem.W.nsIn K mainGlobals "address_of" = some (some (.ref f_address_of)))
    (l_address_of : K.lookup f_address_of = some ⟨oc_address_of, od_address_of, .func (PySem.W.fnOf "address_of" "address_of" (defArgs s_address_of) (defBody s_address_of) (defScope s_address_of) .none kV_address_of dc_address_of pm_address_of an_address_of cd_address_of ct_address_of), sl_address_of⟩)
    (c_address_of : PySem.W.codeIn K cd_address_of "address_of" = true)
    (k_address_of : PySem.W.keepIn K (.ref f_address_of) = true)
    (a__plus : PySem.W.nsIn K mainGlobals "_plus" = some (some (.ref f__plus)))
    (l__plus : K.lookup f__plus = some ⟨oc__plus, od__plus, .func (PySem.W.fnOf "_plus" "_plus" (defArgs s__plus) (defBody s__plus) (defScope s__plus) .none kV__plus dc__plus pm__plus an__plus cd__plus ct__plus), sl__plus⟩)
    (c__plus : PySem.W.codeIn K cd__plus "_plus" = true)
    (k__plus : PySem.W.keepIn K (.ref f__plus) = true)
    (a__minus : PySem.W.nsIn K mainGlobals "_minus" = some (some (.ref f__minus)))
    (l__minus : K.lookup f__minus = some ⟨oc__minus, od__minus, .func (PySem.W.fnOf "_minus" "_minus" (defArgs s__minus) (defBody s__minus) (defScope s__minus) .none kV__minus dc__minus pm__minus an__minus cd__minus ct__minus), sl__minus⟩)
    (c__minus : PySem.W.codeIn K cd__minus "_minus" = true)
    (k__minus : PySem.W.keepIn K (.ref f__minus) = true)
    (a__times : PySem.W.nsIn K mainGlobals "_times" = some (some (.ref f__times)))
    (l__times : K.lookup f__times = some ⟨oc__times, od__times, .func (PySem.W.fnOf "_times" "_times" (defArgs s__times) (defBody s__times) (defScope s__times) .none kV__times dc__times pm__times an__times cd__times ct__times), sl__times⟩)
    (c__times : PySem.W.codeIn K cd__times "_times" = true)
    (k__times : PySem.W.keepIn K (.ref f__times) = true)
    (a__both : PySem.W.nsIn K mainGlobals "_both" = some (some (.ref f__both)))
    (l__both : K.lookup f__both = some ⟨oc__both, od__both, .func (PySem.W.fnOf "_both" "_both" (defArgs s__both) (defBody s__both) (defScope s__both) .none kV__both dc__both pm__both an__both cd__both ct__both), sl__both⟩)
    (c__both : PySem.W.codeIn K cd__both "_both" = true)
    (k__both : PySem.W.keepIn K (.ref f__both) = true)
    (a__either : PySem.W.nsIn K mainGlobals "_either" = some (some (.ref f__either)))
    (l__either : K.lookup f__either = some ⟨oc__either, od__either, .func (PySem.W.fnOf "_either" "_either" (defArgs s__either) (defBody s__either) (defScope s__either) .none kV__either dc__either pm__either an__either cd__either ct__either), sl__either⟩)
    (c__either : PySem.W.codeIn K cd__either "_either" = true)
    (k__either : PySem.W.keepIn K (.ref f__either) = true)
    (a__apart : PySem.W.nsIn K mainGlobals "_apart" = some (some (.ref f__apart)))
    (l__apart : K.lookup f__apart = some ⟨oc__apart, od__apart, .func (PySem.W.fnOf "_apart" "_apart" (defArgs s__apart) (defBody s__apart) (defScope s__apart) .none kV__apart dc__apart pm__apart an__apart cd__apart ct__apart), sl__apart⟩)
    (c__apart : PySem.W.codeIn K cd__apart "_apart" = true)
    (k__apart : PySem.W.keepIn K (.ref f__apart) = true)
    (a__left : PySem.W.nsIn K mainGlobals "_left" = some (some (.ref f__left)))
    (l__left : K.lookup f__left = some ⟨oc__left, od__left, .func (PySem.W.fnOf "_left" "_left" (defArgs s__left) (defBody s__left) (defScope s__left) .none kV__left dc__left pm__left an__left cd__left ct__left), sl__left⟩)
    (c__left : PySem.W.codeIn K cd__left "_left" = true)
    (k__left : PySem.W.keepIn K (.ref f__left) = true)
    (a__right : PySem.W.nsIn K mainGlobals "_right" = some (some (.ref f__right)))
    (l__right : K.lookup f__right = some ⟨oc__right, od__right, .func (PySem.W.fnOf "_right" "_right" (defArgs s__right) (defBody s__right) (defScope s__right) .none kV__right dc__right pm__right an__right cd__right ct__right), sl__right⟩)
    (c__right : PySem.W.codeIn K cd__right "_right" = true)
    (k__right : PySem.W.keepIn K (.ref f__right) = true)
    (a__equal : PySem.W.nsIn K mainGlobals "_equal" = some (some (.ref f__equal)))
    (l__equal : K.lookup f__equal = some ⟨oc__equal, od__equal, .func (PySem.W.fnOf "_equal" "_equal" (defArgs s__equal) (defBody s__equal) (defScope s__equal) .none kV__equal dc__equal pm__equal an__equal cd__equal ct__equal), sl__equal⟩)
    (c__equal : PySem.W.codeIn K cd__equal "_equal" = true)
    (k__equal : PySem.W.keepIn K (.ref f__equal) = true)
    (a__less : PySem.W.nsIn K mainGlobals "_less" = some (some (.ref f__less)))
    (l__less : K.lookup f__less = some ⟨oc__less, od__less, .func (PySem.W.fnOf "_less" "_less" (defArgs s__less) (defBody s__less) (defScope s__less) .none kV__less dc__less pm__less an__less cd__less ct__less), sl__less⟩)
    (c__less : PySem.W.codeIn K cd__less "_less" = true)
    (k__less : PySem.W.keepIn K (.ref f__less) = true)
    (a__at_most : PySem.W.nsIn K mainGlobals "_at_most" = some (some (.ref f__at_most)))
    (l__at_most : K.lookup f__at_most = some ⟨oc__at_most, od__at_most, .func (PySem.W.fnOf "_at_most" "_at_most" (defArgs s__at_most) (defBody s__at_most) (defScope s__at_most) .none kV__at_most dc__at_most pm__at_most an__at_most cd__at_most ct__at_most), sl__at_most⟩)
    (c__at_most : PySem.W.codeIn K cd__at_most "_at_most" = true)
    (k__at_most : PySem.W.keepIn K (.ref f__at_most) = true)
    (a__div : PySem.W.nsIn K mainGlobals "_div" = some (some (.ref f__div)))
    (l__div : K.lookup f__div = some ⟨oc__div, od__div, .func (PySem.W.fnOf "_div" "_div" (defArgs s__div) (defBody s__div) (defScope s__div) .none kV__div dc__div pm__div an__div cd__div ct__div), sl__div⟩)
    (c__div : PySem.W.codeIn K cd__div "_div" = true)
    (k__div : PySem.W.keepIn K (.ref f__div) = true)
    (a__mod : PySem.W.nsIn K mainGlobals "_mod" = some (some (.ref f__mod)))
    (l__mod : K.lookup f__mod = some ⟨oc__mod, od__mod, .func (PySem.W.fnOf "_mod" "_mod" (defArgs s__mod) (defBody s__mod) (defScope s__mod) .none kV__mod dc__mod pm__mod an__mod cd__mod ct__mod), sl__mod⟩)
    (c__mod : PySem.W.codeIn K cd__mod "_mod" = true)
    (k__mod : PySem.W.keepIn K (.ref f__mod) = true)
    (a_apply : PySem.W.nsIn K mainGlobals "apply" = some (some (.ref f_apply)))
    (l_apply : K.lookup f_apply = some ⟨oc_apply, od_apply, .func (PySem.W.fnOf "apply" "apply" (defArgs s_apply) (defBody s_apply) (defScope s_apply) .none kV_apply dc_apply pm_apply an_apply cd_apply ct_apply), sl_apply⟩)
    (c_apply : PySem.W.codeIn K cd_apply "apply" = true)
    (k_apply : PySem.W.keepIn K (.ref f_apply) = true)
    (a_word_of : PySem.W.nsIn K mainGlobals "word_of" = some (some (.ref f_word_of)))
    (l_word_of : K.lookup f_word_of = some ⟨oc_word_of, od_word_of, .func (PySem.W.fnOf "word_of" "word_of" (defArgs s_word_of) (defBody s_word_of) (defScope s_word_of) .none kV_word_of dc_word_of pm_word_of an_word_of cd_word_of ct_word_of), sl_word_of⟩)
    (c_word_of : PySem.W.codeIn K cd_word_of "word_of" = true)
    (k_word_of : PySem.W.keepIn K (.ref f_word_of) = true)
    (a_writes : PySem.W.nsIn K mainGlobals "writes" = some (some (.ref f_writes)))
    (l_writes : K.lookup f_writes = some ⟨oc_writes, od_writes, .func (PySem.W.fnOf "writes" "writes" (defArgs s_writes) (defBody s_writes) (defScope s_writes) .none kV_writes dc_writes pm_writes an_writes cd_writes ct_writes), sl_writes⟩)
    (c_writes : PySem.W.codeIn K cd_writes "writes" = true)
    (k_writes : PySem.W.keepIn K (.ref f_writes) = true)
    (a_plain_run : PySem.W.nsIn K mainGlobals "plain_run" = some (some (.ref f_plain_run)))
    (l_plain_run : K.lookup f_plain_run = some ⟨oc_plain_run, od_plain_run, .func (PySem.W.fnOf "plain_run" "plain_run" (defArgs s_plain_run) (defBody s_plain_run) (defScope s_plain_run) .none kV_plain_run dc_plain_run pm_plain_run an_plain_run cd_plain_run ct_plain_run), sl_plain_run⟩)
    (c_plain_run : PySem.W.codeIn K cd_plain_run "plain_run" = true)
    (k_plain_run : PySem.W.keepIn K (.ref f_plain_run) = true)
    (a__law_memory : PySem.W.nsIn K mainGlobals "_law_memory" = some (some (.ref f__law_memory)))
    (l__law_memory : K.lookup f__law_memory = some ⟨oc__law_memory, od__law_memory, .func (PySem.W.fnOf "_law_memory" "_law_memory" (defArgs s__law_memory) (defBody s__law_memory) (defScope s__law_memory) .none kV__law_memory dc__law_memory pm__law_memory an__law_memory cd__law_memory ct__law_memory), sl__law_memory⟩)
    (c__law_memory : PySem.W.codeIn K cd__law_memory "_law_memory" = true)
    (k__law_memory : PySem.W.keepIn K (.ref f__law_memory) = true)
    (a__law_apply : PySem.W.nsIn K mainGlobals "_law_apply" = some (some (.ref f__law_apply)))
    (l__law_apply : K.lookup f__law_apply = some ⟨oc__law_apply, od__law_apply, .func (PySem.W.fnOf "_law_apply" "_law_apply" (defArgs s__law_apply) (defBody s__law_apply) (defScope s__law_apply) .none kV__law_apply dc__law_apply pm__law_apply an__law_apply cd__law_apply ct__law_apply), sl__law_apply⟩)
    (c__law_apply : PySem.W.codeIn K cd__law_apply "_law_apply" = true)
    (k__law_apply : PySem.W.keepIn K (.ref f__law_apply) = true)
    (a__law_do : PySem.W.nsIn K mainGlobals "_law_do" = some (some (.ref f__law_do)))
    (l__law_do : K.lookup f__law_do = some ⟨oc__law_do, od__law_do, .func (PySem.W.fnOf "_law_do" "_law_do" (defArgs s__law_do) (defBody s__law_do) (defScope s__law_do) .none kV__law_do dc__law_do pm__law_do an__law_do cd__law_do ct__law_do), sl__law_do⟩)
    (c__law_do : PySem.W.codeIn K cd__law_do "_law_do" = true)
    (k__law_do : PySem.W.keepIn K (.ref f__law_do) = true)
    (a__law_next_row : PySem.W.nsIn K mainGlobals "_law_next_row" = some (some (.ref f__law_next_row)))
    (l__law_next_row : K.lookup f__law_next_row = some ⟨oc__law_next_row, od__law_next_row, .func (PySem.W.fnOf "_law_next_row" "_law_next_row" (defArgs s__law_next_row) (defBody s__law_next_row) (defScope s__law_next_row) .none kV__law_next_row dc__law_next_row pm__law_next_row an__law_next_row cd__law_next_row ct__law_next_row), sl__law_next_row⟩)
    (c__law_next_row : PySem.W.codeIn K cd__law_next_row "_law_next_row" = true)
    (k__law_next_row : PySem.W.keepIn K (.ref f__law_next_row) = true)
    (a__law_held : PySem.W.nsIn K mainGlobals "_law_held" = some (some (.ref f__law_held)))
    (l__law_held : K.lookup f__law_held = some ⟨oc__law_held, od__law_held, .func (PySem.W.fnOf "_law_held" "_law_held" (defArgs s__law_held) (defBody s__law_held) (defScope s__law_held) .none kV__law_held dc__law_held pm__law_held an__law_held cd__law_held ct__law_held), sl__law_held⟩)
    (c__law_held : PySem.W.codeIn K cd__law_held "_law_held" = true)
    (k__law_held : PySem.W.keepIn K (.ref f__law_held) = true)
    (a__law_plain : PySem.W.nsIn K mainGlobals "_law_plain" = some (some (.ref f__law_plain)))
    (l__law_plain : K.lookup f__law_plain = some ⟨oc__law_plain, od__law_plain, .func (PySem.W.fnOf "_law_plain" "_law_plain" (defArgs s__law_plain) (defBody s__law_plain) (defScope s__law_plain) .none kV__law_plain dc__law_plain pm__law_plain an__law_plain cd__law_plain ct__law_plain), sl__law_plain⟩)
    (c__law_plain : PySem.W.codeIn K cd__law_plain "_law_plain" = true)
    (k__law_plain : PySem.W.keepIn K (.ref f__law_plain) = true)
    (a_law : PySem.W.nsIn K mainGlobals "law" = some (some (.ref f_law)))
    (l_law : K.lookup f_law = some ⟨oc_law, od_law, .func (PySem.W.fnOf "law" "law" (defArgs s_law) (defBody s_law) (defScope s_law) .none kV_law dc_law pm_law an_law cd_law ct_law), sl_law⟩)
    (c_law : PySem.W.codeIn K cd_law "law" = true)
    (k_law : PySem.W.keepIn K (.ref f_law) = true)
    (a_GREATEST_WORD : PySem.W.nsIn K mainGlobals "GREATEST_WORD" = some (some u_GREATEST_WORD))
    (t_GREATEST_WORD : absV u_GREATEST_WORD = some (.int 4294967295))
    (a_SHIFTS : PySem.W.nsIn K mainGlobals "SHIFTS" = some (some u_SHIFTS))
    (t_SHIFTS : absV u_SHIFTS = some (.int 31))
    (a_ACTIONS : PySem.W.nsIn K mainGlobals "ACTIONS" = some (some (.ref ad_ACTIONS)))
    (l_ACTIONS : K.lookup ad_ACTIONS = some ⟨.type "dict", none, .dict es_ACTIONS n_ACTIONS, #[]⟩)
    (t_wACTIONS : (ad_ACTIONS == sysModules) = false)
    (t_kACTIONS : es_ACTIONS.toList.map He.keyOf = He.keysIn w.params ["+", "-", "*", "&", "|", "^", "<<", ">>", "==", "<", "<=", "div", "mod"])
    (t_vACTIONS : es_ACTIONS.toList.map (·.val) = [.ref f__plus, .ref f__minus, .ref f__times, .ref f__both, .ref f__either, .ref f__apart, .ref f__left, .ref f__right, .ref f__equal, .ref f__less, .ref f__at_most, .ref f__div, .ref f__mod])
    (a_CODE_FORMS : PySem.W.nsIn K mainGlobals "CODE_FORMS" = some (some (.ref ad_CODE_FORMS)))
    (l_CODE_FORMS : K.lookup ad_CODE_FORMS = some ⟨.type "dict", none, .dict es_CODE_FORMS n_CODE_FORMS, #[]⟩)
    (t_wCODE_FORMS : (ad_CODE_FORMS == sysModules) = false)
    (t_kCODE_FORMS : es_CODE_FORMS.toList.map He.keyOf = He.keysIn w.params ["const", "op", "select", "load", "store", "out", "jump", "branch", "stop"])
    (t_vCODE_FORMS : es_CODE_FORMS.toList.map (·.val) = [.ref ad_CODE_FORMS_0, .ref ad_CODE_FORMS_1, .ref ad_CODE_FORMS_2, .ref ad_CODE_FORMS_3, .ref ad_CODE_FORMS_4, .ref ad_CODE_FORMS_5, .ref ad_CODE_FORMS_6, .ref ad_CODE_FORMS_7, .ref ad_CODE_FORMS_8])
    (l_ad_CODE_FORMS_0 : K.lookup ad_CODE_FORMS_0 = some ⟨.type "tuple", oad_CODE_FORMS_0, .seq iad_CODE_FORMS_0 nad_CODE_FORMS_0, sad_CODE_FORMS_0⟩)
    (t_ad_CODE_FORMS_0 : strsOf iad_CODE_FORMS_0.toList = some (["write", "word"] : List Str))
    (l_ad_CODE_FORMS_1 : K.lookup ad_CODE_FORMS_1 = some ⟨.type "tuple", oad_CODE_FORMS_1, .seq iad_CODE_FORMS_1 nad_CODE_FORMS_1, sad_CODE_FORMS_1⟩)
    (t_ad_CODE_FORMS_1 : strsOf iad_CODE_FORMS_1.toList = some (["sign", "write", "read", "read"] : List Str))
    (l_ad_CODE_FORMS_2 : K.lookup ad_CODE_FORMS_2 = some ⟨.type "tuple", oad_CODE_FORMS_2, .seq iad_CODE_FORMS_2 nad_CODE_FORMS_2, sad_CODE_FORMS_2⟩)
    (t_ad_CODE_FORMS_2 : strsOf iad_CODE_FORMS_2.toList = some (["write", "read", "read", "read"] : List Str))
    (l_ad_CODE_FORMS_3 : K.lookup ad_CODE_FORMS_3 = some ⟨.type "tuple", oad_CODE_FORMS_3, .seq iad_CODE_FORMS_3 nad_CODE_FORMS_3, sad_CODE_FORMS_3⟩)
    (t_ad_CODE_FORMS_3 : strsOf iad_CODE_FORMS_3.toList = some (["write", "read", "base", "mask"] : List Str))
    (l_ad_CODE_FORMS_4 : K.lookup ad_CODE_FORMS_4 = some ⟨.type "tuple", oad_CODE_FORMS_4, .seq iad_CODE_FORMS_4 nad_CODE_FORMS_4, sad_CODE_FORMS_4⟩)
    (t_ad_CODE_FORMS_4 : strsOf iad_CODE_FORMS_4.toList = some (["read", "base", "mask", "read"] : List Str))
    (l_ad_CODE_FORMS_5 : K.lookup ad_CODE_FORMS_5 = some ⟨.type "tuple", oad_CODE_FORMS_5, .seq iad_CODE_FORMS_5 nad_CODE_FORMS_5, sad_CODE_FORMS_5⟩)
    (t_ad_CODE_FORMS_5 : strsOf iad_CODE_FORMS_5.toList = some (["read"] : List Str))
    (l_ad_CODE_FORMS_6 : K.lookup ad_CODE_FORMS_6 = some ⟨.type "tuple", oad_CODE_FORMS_6, .seq iad_CODE_FORMS_6 nad_CODE_FORMS_6, sad_CODE_FORMS_6⟩)
    (t_ad_CODE_FORMS_6 : strsOf iad_CODE_FORMS_6.toList = some (["target"] : List Str))
    (l_ad_CODE_FORMS_7 : K.lookup ad_CODE_FORMS_7 = some ⟨.type "tuple", oad_CODE_FORMS_7, .seq iad_CODE_FORMS_7 nad_CODE_FORMS_7, sad_CODE_FORMS_7⟩)
    (t_ad_CODE_FORMS_7 : strsOf iad_CODE_FORMS_7.toList = some (["read", "target"] : List Str))
    (l_ad_CODE_FORMS_8 : K.lookup ad_CODE_FORMS_8 = some ⟨.type "tuple", oad_CODE_FORMS_8, .seq iad_CODE_FORMS_8 nad_CODE_FORMS_8, sad_CODE_FORMS_8⟩)
    (t_ad_CODE_FORMS_8 : strsOf iad_CODE_FORMS_8.toList = some (["read"] : List Str))
    (a_REGISTERS : PySem.W.nsIn K mainGlobals "REGISTERS" = some (some u_REGISTERS))
    (t_REGISTERS : absV u_REGISTERS = some (.int 16))
    (u_dst : (([f__plus, f__minus, f__times, f__both, f__either, f__apart, f__left, f__right, f__equal, f__less, f__at_most, f__div, f__mod] : List Addr).drop 0 |>.take (13 - 0)).Nodup)
    (z_range : PySem.W.nsIn K mainGlobals "range" = some none)
    (z_min : PySem.W.nsIn K mainGlobals "min" = some none)
    (z_len : PySem.W.nsIn K mainGlobals "len" = some none)
    (z_abs : PySem.W.nsIn K mainGlobals "abs" = some none)
    (z_int : PySem.W.nsIn K mainGlobals "int" = some none)
    (z_tuple : PySem.W.nsIn K mainGlobals "tuple" = some none)
    (z_dict : PySem.W.nsIn K mainGlobals "dict" = some none)
    (z_enumerate : PySem.W.nsIn K mainGlobals "enumerate" = some none)
    (z_zip : PySem.W.nsIn K mainGlobals "zip" = some none)
    (z_isinstance : PySem.W.nsIn K mainGlobals "isinstance" = some none) :
    ∃ fd : FuncData, (∀ (s : Shared) (v : Value), BindsTo s fd ⟨[v], []⟩ [("script", v)]) ∧ ∀ base : Heap, K.In base → base.Ns mainGlobals mg → FnOk l.prog w K mg base (L2.CX l.prog w) 6 fa fd ["script"] (spY K 0 13 1 (fun cA => m_law cA)) := by
  have e := hfa.symm.trans (PySem.W.mg_of X G a_law)
  cases e
  have F__law_draws := fun_mk (st := s__law_draws) l__law_draws c__law_draws k__law_draws
  have D__law_draws : DefAt K mg "_law_draws" s__law_draws ["script"] _ _ := ⟨F__law_draws, PySem.W.mg_of X G a__law_draws, F__law_draws.binds fun _ _ _ _ _ _ us hl => match us, hl with | [_], _ => rfl⟩
  have F__law_reader := fun_mk (st := s__law_reader) l__law_reader c__law_reader k__law_reader
  have D__law_reader : DefAt K mg "_law_reader" s__law_reader ["script"] _ _ := ⟨F__law_reader, PySem.W.mg_of X G a__law_reader, F__law_reader.binds fun _ _ _ _ _ _ us hl => match us, hl with | [_], _ => rfl⟩
  have F__law_next := fun_mk (st := s__law_next) l__law_next c__law_next k__law_next
  have D__law_next : DefAt K mg "_law_next" s__law_next ["draws", "many"] _ _ := ⟨F__law_next, PySem.W.mg_of X G a__law_next, F__law_next.binds fun _ _ _ _ _ _ us hl => match us, hl with | [_, _], _ => rfl⟩
  have F__law_regions := fun_mk (st := s__law_regions) l__law_regions c__law_regions k__law_regions
  have D__law_regions : DefAt K mg "_law_regions" s__law_regions ["draws"] _ _ := ⟨F__law_regions, PySem.W.mg_of X G a__law_regions, F__law_regions.binds fun _ _ _ _ _ _ us hl => match us, hl with | [_], _ => rfl⟩
  have F__law_register := fun_mk (st := s__law_register) l__law_register c__law_register k__law_register
  have D__law_register : DefAt K mg "_law_register" s__law_register ["draws"] _ _ := ⟨F__law_register, PySem.W.mg_of X G a__law_register, F__law_register.binds fun _ _ _ _ _ _ us hl => match us, hl with | [_], _ => rfl⟩
  have F__law_op := fun_mk (st := s__law_op) l__law_op c__law_op k__law_op
  have D__law_op : DefAt K mg "_law_op" s__law_op ["draws"] _ _ := ⟨F__law_op, PySem.W.mg_of X G a__law_op, F__law_op.binds fun _ _ _ _ _ _ us hl => match us, hl with | [_], _ => rfl⟩
  have F__law_span := fun_mk (st := s__law_span) l__law_span c__law_span k__law_span
  have D__law_span : DefAt K mg "_law_span" s__law_span ["draws", "regions"] _ _ := ⟨F__law_span, PySem.W.mg_of X G a__law_span, F__law_span.binds fun _ _ _ _ _ _ us hl => match us, hl with | [_, _], _ => rfl⟩
  have F__law_word := fun_mk (st := s__law_word) l__law_word c__law_word k__law_word
  have D__law_word : DefAt K mg "_law_word" s__law_word ["draws"] _ _ := ⟨F__law_word, PySem.W.mg_of X G a__law_word, F__law_word.binds fun _ _ _ _ _ _ us hl => match us, hl with | [_], _ => rfl⟩
  have F__law_row := fun_mk (st := s__law_row) l__law_row c__law_row k__law_row
  have D__law_row : DefAt K mg "_law_row" s__law_row ["draws", "at", "many", "regions"] _ _ := ⟨F__law_row, PySem.W.mg_of X G a__law_row, F__law_row.binds fun _ _ _ _ _ _ us hl => match us, hl with | [_, _, _, _], _ => rfl⟩
  have F__law_code := fun_mk (st := s__law_code) l__law_code c__law_code k__law_code
  have D__law_code : DefAt K mg "_law_code" s__law_code ["draws"] _ _ := ⟨F__law_code, PySem.W.mg_of X G a__law_code, F__law_code.binds fun _ _ _ _ _ _ us hl => match us, hl with | [_], _ => rfl⟩
  have F__law_contents := fun_mk (st := s__law_contents) l__law_contents c__law_contents k__law_contents
  have D__law_contents : DefAt K mg "_law_contents" s__law_contents ["draws", "code"] _ _ := ⟨F__law_contents, PySem.W.mg_of X G a__law_contents, F__law_contents.binds fun _ _ _ _ _ _ us hl => match us, hl with | [_, _], _ => rfl⟩
  have F_memory_of := fun_mk (st := s_memory_of) l_memory_of c_memory_of k_memory_of
  have D_memory_of : DefAt K mg "memory_of" s_memory_of ["contents"] _ _ := ⟨F_memory_of, PySem.W.mg_of X G a_memory_of, F_memory_of.binds fun _ _ _ _ _ _ us hl => match us, hl with | [_], _ => rfl⟩
  have F_contents_of := fun_mk (st := s_contents_of) l_contents_of c_contents_of k_contents_of
  have D_contents_of : DefAt K mg "contents_of" s_contents_of ["regions", "memory"] _ _ := ⟨F_contents_of, PySem.W.mg_of X G a_contents_of, F_contents_of.binds fun _ _ _ _ _ _ us hl => match us, hl with | [_, _], _ => rfl⟩
  have F_address_of := fun_mk (st := s_address_of) l_address_of c_address_of k_address_of
  have D_address_of : DefAt K mg "address_of" s_address_of ["row", "held"] _ _ := ⟨F_address_of, PySem.W.mg_of X G a_address_of, F_address_of.binds fun _ _ _ _ _ _ us hl => match us, hl with | [_, _], _ => rfl⟩
  have F__plus := fun_mk (st := s__plus) l__plus c__plus k__plus
  have D__plus : DefAt K mg "_plus" s__plus ["a", "b"] _ _ := ⟨F__plus, PySem.W.mg_of X G a__plus, F__plus.binds fun _ _ _ _ _ _ us hl => match us, hl with | [_, _], _ => rfl⟩
  have F__minus := fun_mk (st := s__minus) l__minus c__minus k__minus
  have D__minus : DefAt K mg "_minus" s__minus ["a", "b"] _ _ := ⟨F__minus, PySem.W.mg_of X G a__minus, F__minus.binds fun _ _ _ _ _ _ us hl => match us, hl with | [_, _], _ => rfl⟩
  have F__times := fun_mk (st := s__times) l__times c__times k__times
  have D__times : DefAt K mg "_times" s__times ["a", "b"] _ _ := ⟨F__times, PySem.W.mg_of X G a__times, F__times.binds fun _ _ _ _ _ _ us hl => match us, hl with | [_, _], _ => rfl⟩
  have F__both := fun_mk (st := s__both) l__both c__both k__both
  have D__both : DefAt K mg "_both" s__both ["a", "b"] _ _ := ⟨F__both, PySem.W.mg_of X G a__both, F__both.binds fun _ _ _ _ _ _ us hl => match us, hl with | [_, _], _ => rfl⟩
  have F__either := fun_mk (st := s__either) l__either c__either k__either
  have D__either : DefAt K mg "_either" s__either ["a", "b"] _ _ := ⟨F__either, PySem.W.mg_of X G a__either, F__either.binds fun _ _ _ _ _ _ us hl => match us, hl with | [_, _], _ => rfl⟩
  have F__apart := fun_mk (st := s__apart) l__apart c__apart k__apart
  have D__apart : DefAt K mg "_apart" s__apart ["a", "b"] _ _ := ⟨F__apart, PySem.W.mg_of X G a__apart, F__apart.binds fun _ _ _ _ _ _ us hl => match us, hl with | [_, _], _ => rfl⟩
  have F__left := fun_mk (st := s__left) l__left c__left k__left
  have D__left : DefAt K mg "_left" s__left ["a", "b"] _ _ := ⟨F__left, PySem.W.mg_of X G a__left, F__left.binds fun _ _ _ _ _ _ us hl => match us, hl with | [_, _], _ => rfl⟩
  have F__right := fun_mk (st := s__right) l__right c__right k__right
  have D__right : DefAt K mg "_right" s__right ["a", "b"] _ _ := ⟨F__right, PySem.W.mg_of X G a__right, F__right.binds fun _ _ _ _ _ _ us hl => match us, hl with | [_, _], _ => rfl⟩
  have F__equal := fun_mk (st := s__equal) l__equal c__equal k__equal
  have D__equal : DefAt K mg "_equal" s__equal ["a", "b"] _ _ := ⟨F__equal, PySem.W.mg_of X G a__equal, F__equal.binds fun _ _ _ _ _ _ us hl => match us, hl with | [_, _], _ => rfl⟩
  have F__less := fun_mk (st := s__less) l__less c__less k__less
  have D__less : DefAt K mg "_less" s__less ["a", "b"] _ _ := ⟨F__less, PySem.W.mg_of X G a__less, F__less.binds fun _ _ _ _ _ _ us hl => match us, hl with | [_, _], _ => rfl⟩
  have F__at_most := fun_mk (st := s__at_most) l__at_most c__at_most k__at_most
  have D__at_most : DefAt K mg "_at_most" s__at_most ["a", "b"] _ _ := ⟨F__at_most, PySem.W.mg_of X G a__at_most, F__at_most.binds fun _ _ _ _ _ _ us hl => match us, hl with | [_, _], _ => rfl⟩
  have F__div := fun_mk (st := s__div) l__div c__div k__div
  have D__div : DefAt K mg "_div" s__div ["a", "b"] _ _ := ⟨F__div, PySem.W.mg_of X G a__div, F__div.binds fun _ _ _ _ _ _ us hl => match us, hl with | [_, _], _ => rfl⟩
  have F__mod := fun_mk (st := s__mod) l__mod c__mod k__mod
  have D__mod : DefAt K mg "_mod" s__mod ["a", "b"] _ _ := ⟨F__mod, PySem.W.mg_of X G a__mod, F__mod.binds fun _ _ _ _ _ _ us hl => match us, hl with | [_, _], _ => rfl⟩
  have F_apply := fun_mk (st := s_apply) l_apply c_apply k_apply
  have D_apply : DefAt K mg "apply" s_apply ["sign", "a", "b"] _ _ := ⟨F_apply, PySem.W.mg_of X G a_apply, F_apply.binds fun _ _ _ _ _ _ us hl => match us, hl with | [_, _, _], _ => rfl⟩
  have F_word_of := fun_mk (st := s_word_of) l_word_of c_word_of k_word_of
  have D_word_of : DefAt K mg "word_of" s_word_of ["row", "held"] _ _ := ⟨F_word_of, PySem.W.mg_of X G a_word_of, F_word_of.binds fun _ _ _ _ _ _ us hl => match us, hl with | [_, _], _ => rfl⟩
  have F_writes := fun_mk (st := s_writes) l_writes c_writes k_writes
  have D_writes : DefAt K mg "writes" s_writes ["row"] _ _ := ⟨F_writes, PySem.W.mg_of X G a_writes, F_writes.binds fun _ _ _ _ _ _ us hl => match us, hl with | [_], _ => rfl⟩
  have F_plain_run := fun_mk (st := s_plain_run) l_plain_run c_plain_run k_plain_run
  have D_plain_run : DefAt K mg "plain_run" s_plain_run ["code", "contents", "steps"] _ _ := ⟨F_plain_run, PySem.W.mg_of X G a_plain_run, F_plain_run.binds fun _ _ _ _ _ _ us hl => match us, hl with | [_, _, _], _ => rfl⟩
  have F__law_memory := fun_mk (st := s__law_memory) l__law_memory c__law_memory k__law_memory
  have D__law_memory : DefAt K mg "_law_memory" s__law_memory ["code", "contents"] _ _ := ⟨F__law_memory, PySem.W.mg_of X G a__law_memory, F__law_memory.binds fun _ _ _ _ _ _ us hl => match us, hl with | [_, _], _ => rfl⟩
  have F__law_apply := fun_mk (st := s__law_apply) l__law_apply c__law_apply k__law_apply
  have D__law_apply : DefAt K mg "_law_apply" s__law_apply ["sign", "a", "b"] _ _ := ⟨F__law_apply, PySem.W.mg_of X G a__law_apply, F__law_apply.binds fun _ _ _ _ _ _ us hl => match us, hl with | [_, _, _], _ => rfl⟩
  have F__law_do := fun_mk (st := s__law_do) l__law_do c__law_do k__law_do
  have D__law_do : DefAt K mg "_law_do" s__law_do ["m", "row"] _ _ := ⟨F__law_do, PySem.W.mg_of X G a__law_do, F__law_do.binds fun _ _ _ _ _ _ us hl => match us, hl with | [_, _], _ => rfl⟩
  have F__law_next_row := fun_mk (st := s__law_next_row) l__law_next_row c__law_next_row k__law_next_row
  have D__law_next_row : DefAt K mg "_law_next_row" s__law_next_row ["m", "row"] _ _ := ⟨F__law_next_row, PySem.W.mg_of X G a__law_next_row, F__law_next_row.binds fun _ _ _ _ _ _ us hl => match us, hl with | [_, _], _ => rfl⟩
  have F__law_held := fun_mk (st := s__law_held) l__law_held c__law_held k__law_held
  have D__law_held : DefAt K mg "_law_held" s__law_held ["code", "words"] _ _ := ⟨F__law_held, PySem.W.mg_of X G a__law_held, F__law_held.binds fun _ _ _ _ _ _ us hl => match us, hl with | [_, _], _ => rfl⟩
  have F__law_plain := fun_mk (st := s__law_plain) l__law_plain c__law_plain k__law_plain
  have D__law_plain : DefAt K mg "_law_plain" s__law_plain ["code", "contents", "steps"] _ _ := ⟨F__law_plain, PySem.W.mg_of X G a__law_plain, F__law_plain.binds fun _ _ _ _ _ _ us hl => match us, hl with | [_, _, _], _ => rfl⟩
  have F_law := fun_mk (st := s_law) l_law c_law k_law
  have D_law : DefAt K mg "law" s_law ["script"] _ _ := ⟨F_law, PySem.W.mg_of X G a_law, F_law.binds fun _ _ _ _ _ _ us hl => match us, hl with | [_], _ => rfl⟩
  have g_GREATEST_WORD : GV K mg "GREATEST_WORD" d_GREATEST_WORD := gv_int (PySem.W.mg_of X G a_GREATEST_WORD) t_GREATEST_WORD
  have g_SHIFTS : GV K mg "SHIFTS" d_SHIFTS := gv_int (PySem.W.mg_of X G a_SHIFTS) t_SHIFTS
  have g_ACTIONS : KD K w mg "ACTIONS" (d_ACTIONS (fun i => ([f__plus, f__minus, f__times, f__both, f__either, f__apart, f__left, f__right, f__equal, f__less, f__at_most, f__div, f__mod] : List Addr).getD i 0)) := kd_mk (PySem.W.mg_of X G a_ACTIONS) l_ACTIONS t_wACTIONS t_kACTIONS (t_vACTIONS ▸ (KVs.cons (kv_cst rfl) (KVs.cons (kv_cst rfl) (KVs.cons (kv_cst rfl) (KVs.cons (kv_cst rfl) (KVs.cons (kv_cst rfl) (KVs.cons (kv_cst rfl) (KVs.cons (kv_cst rfl) (KVs.cons (kv_cst rfl) (KVs.cons (kv_cst rfl) (KVs.cons (kv_cst rfl) (KVs.cons (kv_cst rfl) (KVs.cons (kv_cst rfl) (KVs.cons (kv_cst rfl) KVs.nil))))))))))))))
  have g_CODE_FORMS : KD K w mg "CODE_FORMS" d_CODE_FORMS := kd_mk (PySem.W.mg_of X G a_CODE_FORMS) l_CODE_FORMS t_wCODE_FORMS t_kCODE_FORMS (t_vCODE_FORMS ▸ (KVs.cons (kv_strs l_ad_CODE_FORMS_0 t_ad_CODE_FORMS_0 rfl (by decide)) (KVs.cons (kv_strs l_ad_CODE_FORMS_1 t_ad_CODE_FORMS_1 rfl (by decide)) (KVs.cons (kv_strs l_ad_CODE_FORMS_2 t_ad_CODE_FORMS_2 rfl (by decide)) (KVs.cons (kv_strs l_ad_CODE_FORMS_3 t_ad_CODE_FORMS_3 rfl (by decide)) (KVs.cons (kv_strs l_ad_CODE_FORMS_4 t_ad_CODE_FORMS_4 rfl (by decide)) (KVs.cons (kv_strs l_ad_CODE_FORMS_5 t_ad_CODE_FORMS_5 rfl (by decide)) (KVs.cons (kv_strs l_ad_CODE_FORMS_6 t_ad_CODE_FORMS_6 rfl (by decide)) (KVs.cons (kv_strs l_ad_CODE_FORMS_7 t_ad_CODE_FORMS_7 rfl (by decide)) (KVs.cons (kv_strs l_ad_CODE_FORMS_8 t_ad_CODE_FORMS_8 rfl (by decide)) KVs.nil))))))))))
  have g_REGISTERS : GV K mg "REGISTERS" d_REGISTERS := gv_int (PySem.W.mg_of X G a_REGISTERS) t_REGISTERS
  refine ⟨PySem.W.fnOf "law" "law" (defArgs s_law) (defBody s_law) (defScope s_law) .none kV_law dc_law pm_law an_law cd_law ct_law, fun s v => .of_eq rfl, fun base _ _ => ?_⟩
  have G__law_draws := (ok__law_draws (P := l.prog) (w := w) (mg := mg) (base := base) D__law_draws (PySem.W.mg_none_of X G z_range) (PySem.W.mg_none_of X G z_min) (PySem.W.mg_none_of X G z_len) (PySem.W.mg_none_of X G z_abs) (PySem.W.mg_none_of X G z_int))
  have G__law_reader := (ok__law_reader (P := l.prog) (w := w) (mg := mg) (base := base) D__law_reader D__law_draws G__law_draws (PySem.W.mg_none_of X G z_len) (PySem.W.mg_none_of X G z_abs))
  have G__law_next := (ok__law_next (P := l.prog) (w := w) (mg := mg) (base := base) D__law_next (PySem.W.mg_none_of X G z_len) (PySem.W.mg_none_of X G z_int))
  have G__law_regions := (ok__law_regions (P := l.prog) (w := w) (mg := mg) (base := base) D__law_regions D__law_next G__law_next (PySem.W.mg_none_of X G z_range) (PySem.W.mg_none_of X G z_tuple))
  have G__law_register := (ok__law_register (P := l.prog) (w := w) (mg := mg) (base := base) D__law_register D__law_next G__law_next)
  have G__law_op := (ok__law_op (P := l.prog) (w := w) (mg := mg) (base := base) D__law_op D__law_next D__law_register G__law_next G__law_register)
  have G__law_span := (ok__law_span (P := l.prog) (w := w) (mg := mg) (base := base) D__law_span D__law_next G__law_next (PySem.W.mg_none_of X G z_len))
  have G__law_word := (ok__law_word (P := l.prog) (w := w) (mg := mg) (base := base) D__law_word D__law_next G__law_next (PySem.W.mg_none_of X G z_int))
  have G__law_row := (ok__law_row (P := l.prog) (w := w) (mg := mg) (base := base) D__law_row D__law_next D__law_word D__law_register D__law_op D__law_span G__law_next G__law_word G__law_register G__law_op G__law_span (PySem.W.mg_none_of X G z_min))
  have G__law_code := (ok__law_code (P := l.prog) (w := w) (mg := mg) (base := base) D__law_code D__law_regions D__law_next D__law_row D__law_register G__law_regions G__law_next G__law_row G__law_register (PySem.W.mg_none_of X G z_range) (PySem.W.mg_none_of X G z_tuple))
  have G__law_contents := (ok__law_contents (P := l.prog) (w := w) (mg := mg) (base := base) D__law_contents D__law_word G__law_word (PySem.W.mg_none_of X G z_tuple) (PySem.W.mg_none_of X G z_range))
  have G_memory_of := (ok_memory_of (P := l.prog) (w := w) (mg := mg) (base := base) D_memory_of (PySem.W.mg_none_of X G z_dict) (PySem.W.mg_none_of X G z_enumerate))
  have G_contents_of := (ok_contents_of (P := l.prog) (w := w) (mg := mg) (base := base) D_contents_of (PySem.W.mg_none_of X G z_tuple) (PySem.W.mg_none_of X G z_range))
  have G_address_of := (ok_address_of (P := l.prog) (w := w) (mg := mg) (base := base) D_address_of)
  have G__plus := (ok__plus (P := l.prog) (w := w) (mg := mg) (base := base) D__plus g_GREATEST_WORD)
  have G__minus := (ok__minus (P := l.prog) (w := w) (mg := mg) (base := base) D__minus g_GREATEST_WORD)
  have G__times := (ok__times (P := l.prog) (w := w) (mg := mg) (base := base) D__times g_GREATEST_WORD)
  have G__both := (ok__both (P := l.prog) (w := w) (mg := mg) (base := base) D__both)
  have G__either := (ok__either (P := l.prog) (w := w) (mg := mg) (base := base) D__either)
  have G__apart := (ok__apart (P := l.prog) (w := w) (mg := mg) (base := base) D__apart)
  have G__left := (ok__left (P := l.prog) (w := w) (mg := mg) (base := base) D__left g_SHIFTS g_GREATEST_WORD)
  have G__right := (ok__right (P := l.prog) (w := w) (mg := mg) (base := base) D__right g_SHIFTS)
  have G__equal := (ok__equal (P := l.prog) (w := w) (mg := mg) (base := base) D__equal)
  have G__less := (ok__less (P := l.prog) (w := w) (mg := mg) (base := base) D__less)
  have G__at_most := (ok__at_most (P := l.prog) (w := w) (mg := mg) (base := base) D__at_most)
  have G__div := (ok__div (P := l.prog) (w := w) (mg := mg) (base := base) D__div)
  have G__mod := (ok__mod (P := l.prog) (w := w) (mg := mg) (base := base) D__mod)
  have G_apply := (ok_apply (P := l.prog) (w := w) (mg := mg) (base := base) (cA := fun i => ([f__plus, f__minus, f__times, f__both, f__either, f__apart, f__left, f__right, f__equal, f__less, f__at_most, f__div, f__mod] : List Addr).getD i 0) D_apply D__plus D__minus D__times D__both D__either D__apart D__left D__right D__equal D__less D__at_most D__div D__mod G__plus G__minus G__times G__both G__either G__apart G__left G__right G__equal G__less G__at_most G__div G__mod g_ACTIONS rfl rfl rfl rfl rfl rfl rfl rfl rfl rfl rfl rfl rfl)
  have G_word_of := (ok_word_of (P := l.prog) (w := w) (mg := mg) (base := base) (cA := fun i => ([f__plus, f__minus, f__times, f__both, f__either, f__apart, f__left, f__right, f__equal, f__less, f__at_most, f__div, f__mod] : List Addr).getD i 0) D_word_of D_apply G_apply)
  have G_writes := (ok_writes (P := l.prog) (w := w) (mg := mg) (base := base) D_writes g_CODE_FORMS (PySem.W.mg_none_of X G z_zip))
  have G_plain_run := (ok_plain_run (P := l.prog) (w := w) (mg := mg) (base := base) (cA := fun i => ([f__plus, f__minus, f__times, f__both, f__either, f__apart, f__left, f__right, f__equal, f__less, f__at_most, f__div, f__mod] : List Addr).getD i 0) D_plain_run D_memory_of D_address_of D_word_of D_writes D_contents_of G_memory_of G_address_of G_word_of G_writes G_contents_of g_REGISTERS (PySem.W.mg_none_of X G z_range) (PySem.W.mg_none_of X G z_tuple))
  have G__law_memory := (ok__law_memory (P := l.prog) (w := w) (mg := mg) (base := base) D__law_memory (PySem.W.mg_none_of X G z_range) (PySem.W.mg_none_of X G z_len))
  have G__law_apply := (ok__law_apply (P := l.prog) (w := w) (mg := mg) (base := base) D__law_apply (PySem.W.mg_none_of X G z_int))
  have G__law_do := (ok__law_do (P := l.prog) (w := w) (mg := mg) (base := base) D__law_do D__law_apply G__law_apply (PySem.W.mg_none_of X G z_int))
  have G__law_next_row := (ok__law_next_row (P := l.prog) (w := w) (mg := mg) (base := base) D__law_next_row)
  have G__law_held := (ok__law_held (P := l.prog) (w := w) (mg := mg) (base := base) D__law_held (PySem.W.mg_none_of X G z_tuple) (PySem.W.mg_none_of X G z_range))
  have G__law_plain := (ok__law_plain (P := l.prog) (w := w) (mg := mg) (base := base) D__law_plain D__law_memory D__law_do D__law_next_row D__law_held G__law_memory G__law_do G__law_next_row G__law_held (PySem.W.mg_none_of X G z_range) (PySem.W.mg_none_of X G z_tuple))
  have G_law := (ok_law (P := l.prog) (w := w) (mg := mg) (base := base) (cA := fun i => ([f__plus, f__minus, f__times, f__both, f__either, f__apart, f__left, f__right, f__equal, f__less, f__at_most, f__div, f__mod] : List Addr).getD i 0) D_law D__law_reader D__law_code D__law_contents D__law_next D_plain_run D__law_plain G__law_reader G__law_code G__law_contents G__law_next G_plain_run G__law_plain (PySem.W.mg_none_of X G z_isinstance) (PySem.W.mg_none_of X G z_tuple))
  exact G_law.imp fun vs H Q E h => h _ (dst_of u_dst (by simp))
end GK27
open PySem PySem.W
open PyProof.Rows hiding St
set_option maxHeartbeats 0 in
theorem PySem.Challenge.cw_sameclock_k27_code_row_by_row_holds : PySem.Challenge.rw_sameclock_k27_code_row_by_row.Holds := by
  w_on; o_law; k_head; (case hw => w_witness2)
  k_fill
  refine L2.walk_ofB (l := PySem.Challenge.rw_sameclock_k27_code_row_by_row) (n := 63) (k := 6) (x := "script") (CX := fun w => L2.CX (PySem.Challenge.rw_sameclock_k27_code_row_by_row).prog w) (sp := fun w => Ly.spY _ 0 13 1 (fun cA => GK27.m_law cA)) rfl (by decide) rfl ⟨rfl, by decide, by decide⟩ (fun w h Y => PySem.W.kIn_of Y) ?F (fun w H a ns hl hb hO hS => Ly.law_endY (m := fun cA => GK27.m_law cA) GK27.law_true hl hb hO hS) (fun w H s e s' => Ly.law_noexc)
  case F =>
    intro w mg fa h KX G hmg
    refine' GK27.all_mk KX G hmg ?a__law_draws ?l__law_draws ?c__law_draws ?k__law_draws ?a__law_reader ?l__law_reader ?c__law_reader ?k__law_reader ?a__law_next ?l__law_next ?c__law_next ?k__law_next ?a__law_regions ?l__law_regions ?c__law_regions ?k__law_regions ?a__law_register ?l__law_register ?c__law_register ?k__law_register ?a__law_op ?l__law_op ?c__law_op ?k__law_op ?a__law_span ?l__law_span ?c__law_span ?k__law_span ?a__law_word ?l__law_word ?c__law_word ?k__law_word ?a__law_row ?l__law_row ?c__law_row ?k__law_row ?a__law_code ?l__law_code ?c__law_code ?k__law_code ?a__law_contents ?l__law_contents ?c__law_contents ?k__law_contents ?a_memory_of ?l_memory_of ?c_memory_of ?k_memory_of ?a_contents_of ?l_contents_of ?c_contents_of ?k_contents_of ?a_address_of ?l_address_of ?c_address_of ?k_address_of ?a__plus ?l__plus ?c__plus ?k__plus ?a__minus ?l__minus ?c__minus ?k__minus ?a__times ?l__times ?c__times ?k__times ?a__both ?l__both ?c__both ?k__both ?a__either ?l__either ?c__either ?k__either ?a__apart ?l__apart ?c__apart ?k__apart ?a__left ?l__left ?c__left ?k__left ?a__right ?l__right ?c__right ?k__right ?a__equal ?l__equal ?c__equal ?k__equal ?a__less ?l__less ?c__less ?k__less ?a__at_most ?l__at_most ?c__at_most ?k__at_most ?a__div ?l__div ?c__div ?k__div ?a__mod ?l__mod ?c__mod ?k__mod ?a_apply ?l_apply ?c_apply ?k_apply ?a_word_of ?l_word_of ?c_word_of ?k_word_of ?a_writes ?l_writes ?c_writes ?k_writes ?a_plain_run ?l_plain_run ?c_plain_run ?k_plain_run ?a__law_memory ?l__law_memory ?c__law_memory ?k__law_memory ?a__law_apply ?l__law_apply ?c__law_apply ?k__law_apply ?a__law_do ?l__law_do ?c__law_do ?k__law_do ?a__law_next_row ?l__law_next_row ?c__law_next_row ?k__law_next_row ?a__law_held ?l__law_held ?c__law_held ?k__law_held ?a__law_plain ?l__law_plain ?c__law_plain ?k__law_plain ?a_law ?l_law ?c_law ?k_law ?a_GREATEST_WORD ?t_GREATEST_WORD ?a_SHIFTS ?t_SHIFTS ?a_ACTIONS ?l_ACTIONS ?t_wACTIONS ?t_kACTIONS ?t_vACTIONS ?a_CODE_FORMS ?l_CODE_FORMS ?t_wCODE_FORMS ?t_kCODE_FORMS ?t_vCODE_FORMS ?l_ad_CODE_FORMS_0 ?t_ad_CODE_FORMS_0 ?l_ad_CODE_FORMS_1 ?t_ad_CODE_FORMS_1 ?l_ad_CODE_FORMS_2 ?t_ad_CODE_FORMS_2 ?l_ad_CODE_FORMS_3 ?t_ad_CODE_FORMS_3 ?l_ad_CODE_FORMS_4 ?t_ad_CODE_FORMS_4 ?l_ad_CODE_FORMS_5 ?t_ad_CODE_FORMS_5 ?l_ad_CODE_FORMS_6 ?t_ad_CODE_FORMS_6 ?l_ad_CODE_FORMS_7 ?t_ad_CODE_FORMS_7 ?l_ad_CODE_FORMS_8 ?t_ad_CODE_FORMS_8 ?a_REGISTERS ?t_REGISTERS ?u_dst ?z_range ?z_min ?z_len ?z_abs ?z_int ?z_tuple ?z_dict ?z_enumerate ?z_zip ?z_isinstance
    (case a__law_draws => k_is)
    (case l__law_draws => k_is)
    (case c__law_draws => k_is)
    (case k__law_draws => k_is)
    (case a__law_reader => k_is)
    (case l__law_reader => k_is)
    (case c__law_reader => k_is)
    (case k__law_reader => k_is)
    (case a__law_next => k_is)
    (case l__law_next => k_is)
    (case c__law_next => k_is)
    (case k__law_next => k_is)
    (case a__law_regions => k_is)
    (case l__law_regions => k_is)
    (case c__law_regions => k_is)
    (case k__law_regions => k_is)
    (case a__law_register => k_is)
    (case l__law_register => k_is)
    (case c__law_register => k_is)
    (case k__law_register => k_is)
    (case a__law_op => k_is)
    (case l__law_op => k_is)
    (case c__law_op => k_is)
    (case k__law_op => k_is)
    (case a__law_span => k_is)
    (case l__law_span => k_is)
    (case c__law_span => k_is)
    (case k__law_span => k_is)
    (case a__law_word => k_is)
    (case l__law_word => k_is)
    (case c__law_word => k_is)
    (case k__law_word => k_is)
    (case a__law_row => k_is)
    (case l__law_row => k_is)
    (case c__law_row => k_is)
    (case k__law_row => k_is)
    (case a__law_code => k_is)
    (case l__law_code => k_is)
    (case c__law_code => k_is)
    (case k__law_code => k_is)
    (case a__law_contents => k_is)
    (case l__law_contents => k_is)
    (case c__law_contents => k_is)
    (case k__law_contents => k_is)
    (case a_memory_of => k_is)
    (case l_memory_of => k_is)
    (case c_memory_of => k_is)
    (case k_memory_of => k_is)
    (case a_contents_of => k_is)
    (case l_contents_of => k_is)
    (case c_contents_of => k_is)
    (case k_contents_of => k_is)
    (case a_address_of => k_is)
    (case l_address_of => k_is)
    (case c_address_of => k_is)
    (case k_address_of => k_is)
    (case a__plus => k_is)
    (case l__plus => k_is)
    (case c__plus => k_is)
    (case k__plus => k_is)
    (case a__minus => k_is)
    (case l__minus => k_is)
    (case c__minus => k_is)
    (case k__minus => k_is)
    (case a__times => k_is)
    (case l__times => k_is)
    (case c__times => k_is)
    (case k__times => k_is)
    (case a__both => k_is)
    (case l__both => k_is)
    (case c__both => k_is)
    (case k__both => k_is)
    (case a__either => k_is)
    (case l__either => k_is)
    (case c__either => k_is)
    (case k__either => k_is)
    (case a__apart => k_is)
    (case l__apart => k_is)
    (case c__apart => k_is)
    (case k__apart => k_is)
    (case a__left => k_is)
    (case l__left => k_is)
    (case c__left => k_is)
    (case k__left => k_is)
    (case a__right => k_is)
    (case l__right => k_is)
    (case c__right => k_is)
    (case k__right => k_is)
    (case a__equal => k_is)
    (case l__equal => k_is)
    (case c__equal => k_is)
    (case k__equal => k_is)
    (case a__less => k_is)
    (case l__less => k_is)
    (case c__less => k_is)
    (case k__less => k_is)
    (case a__at_most => k_is)
    (case l__at_most => k_is)
    (case c__at_most => k_is)
    (case k__at_most => k_is)
    (case a__div => k_is)
    (case l__div => k_is)
    (case c__div => k_is)
    (case k__div => k_is)
    (case a__mod => k_is)
    (case l__mod => k_is)
    (case c__mod => k_is)
    (case k__mod => k_is)
    (case a_apply => k_is)
    (case l_apply => k_is)
    (case c_apply => k_is)
    (case k_apply => k_is)
    (case a_word_of => k_is)
    (case l_word_of => k_is)
    (case c_word_of => k_is)
    (case k_word_of => k_is)
    (case a_writes => k_is)
    (case l_writes => k_is)
    (case c_writes => k_is)
    (case k_writes => k_is)
    (case a_plain_run => k_is)
    (case l_plain_run => k_is)
    (case c_plain_run => k_is)
    (case k_plain_run => k_is)
    (case a__law_memory => k_is)
    (case l__law_memory => k_is)
    (case c__law_memory => k_is)
    (case k__law_memory => k_is)
    (case a__law_apply => k_is)
    (case l__law_apply => k_is)
    (case c__law_apply => k_is)
    (case k__law_apply => k_is)
    (case a__law_do => k_is)
    (case l__law_do => k_is)
    (case c__law_do => k_is)
    (case k__law_do => k_is)
    (case a__law_next_row => k_is)
    (case l__law_next_row => k_is)
    (case c__law_next_row => k_is)
    (case k__law_next_row => k_is)
    (case a__law_held => k_is)
    (case l__law_held => k_is)
    (case c__law_held => k_is)
    (case k__law_held => k_is)
    (case a__law_plain => k_is)
    (case l__law_plain => k_is)
    (case c__law_plain => k_is)
    (case k__law_plain => k_is)
    (case a_law => k_is)
    (case l_law => k_is)
    (case c_law => k_is)
    (case k_law => k_is)
    (case a_GREATEST_WORD => k_is)
    (case t_GREATEST_WORD => rfl)
    (case a_SHIFTS => k_is)
    (case t_SHIFTS => rfl)
    (case a_ACTIONS => k_is)
    (case l_ACTIONS => k_is)
    (case t_wACTIONS => rfl)
    (case t_kACTIONS => rfl)
    (case t_vACTIONS => rfl)
    (case a_CODE_FORMS => k_is)
    (case l_CODE_FORMS => k_is)
    (case t_wCODE_FORMS => rfl)
    (case t_kCODE_FORMS => rfl)
    (case t_vCODE_FORMS => rfl)
    (case l_ad_CODE_FORMS_0 => k_is)
    (case t_ad_CODE_FORMS_0 => rfl)
    (case l_ad_CODE_FORMS_1 => k_is)
    (case t_ad_CODE_FORMS_1 => rfl)
    (case l_ad_CODE_FORMS_2 => k_is)
    (case t_ad_CODE_FORMS_2 => rfl)
    (case l_ad_CODE_FORMS_3 => k_is)
    (case t_ad_CODE_FORMS_3 => rfl)
    (case l_ad_CODE_FORMS_4 => k_is)
    (case t_ad_CODE_FORMS_4 => rfl)
    (case l_ad_CODE_FORMS_5 => k_is)
    (case t_ad_CODE_FORMS_5 => rfl)
    (case l_ad_CODE_FORMS_6 => k_is)
    (case t_ad_CODE_FORMS_6 => rfl)
    (case l_ad_CODE_FORMS_7 => k_is)
    (case t_ad_CODE_FORMS_7 => rfl)
    (case l_ad_CODE_FORMS_8 => k_is)
    (case t_ad_CODE_FORMS_8 => rfl)
    (case a_REGISTERS => k_is)
    (case t_REGISTERS => rfl)
    (case u_dst => decide)
    (case z_range => k_is)
    (case z_min => k_is)
    (case z_len => k_is)
    (case z_abs => k_is)
    (case z_int => k_is)
    (case z_tuple => k_is)
    (case z_dict => k_is)
    (case z_enumerate => k_is)
    (case z_zip => k_is)
    (case z_isinstance => k_is)
