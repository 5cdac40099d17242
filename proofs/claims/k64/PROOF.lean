import PyProof.Rows.All
import Wide.All
import OpenK.AllK
import Wide.FinOn
import HandS.ForMost
import HandS.ForExc
import HandS.TupAny
import HandS.Wide
import HandS.Codes
import HandS.StrMore
import HandS.RaiseMore
import HandS.FStr
import HandS.More
import HandS.IsInst
import HandS.Style
import HandS.Deep
import HandS.Text
import HandS.TupLen
import HandS.Flow
import HandS.Iter
import HandS.Comp
import HandS.Exc
import HandS.CallSlots
import HandS.Words
import HandS.WordsExc
import HandS.Zip
import KE.GoesMore
import KE.GoesEnum
import KE.GoesZip
import HandS.Rev
import HandS.EndBits
import HandS.HeadHook3
import HandS.DictComp
import HandS.SetKeys
import HandS.Conv
import HandS.SortInts
import HandS.CallLocal
import PyProof.StrLawsIn
import HandS.WideBits
import HandS.TupMul
import KE.KDictZip
import KE.KDictPairs
import KE.KDictKeyed
import HandS.SetFor
import HandS.Strs
import HandS.SortKw
import KE.DataMinMax
import HandS.List
import HandS.RevRange
import HandS.RevTup
import HandS.ExcOwn
import HandS.ExcInit
import HandS.ExcIs
import HandS.ExcField
import HandS.TryMany
import HandS.TryOnly
import HandS.Small
import KE.KExcSuper
import KE.KSuper
import HandS.ExcSuper
import HandS.ClsMeth
import KE.KExcIs
import HandS.Head0
import HandS.Head1
import HandS.Head2
import HandS.HeadHook1
import Wide.Once
import PyProof.ReprRoads
import KE.BitLaws
import KE.OsArith
import PySem.Challenge.RW_sameclock_k64_papers_that_hold
set_option Elab.async false
set_option linter.all false
set_option maxRecDepth 100000
namespace Ly
open PySem PySem.Spec L2
open PyProof.Rows hiding St
inductive D where
  | non | bl (b : Bool) | int (i : Int) | str (x : Str) | tup (xs : List D) | wt (xs : List D) | wl (xs : List D) | ref (i : Nat) | cst (a : Addr)
inductive O where
  | lst (xs : List D) | rol (xs : List D) | dic (kvs : List (Key × D)) | dit (kvs : List (List Key × D)) | ins (C : Addr) (fs : List (Str × D))
abbrev Hs := List O
abbrev Ls := List (Option D)
def Wt (K : PySem.W.Frag) (a : Addr) (xs : List V) : Prop :=
  ∃ (o : Obj) (its : Array Value) (n : Nat), K.lookup a = some o ∧ o.cls = .type "tuple" ∧ o.data = .seq its n ∧ its.size ≤ sizeLine ∧ Vals xs its.toList
def Wl (K : PySem.W.Frag) (a : Addr) (xs : List V) : Prop :=
  ∃ (o : Obj) (its : Array Value) (n : Nat), K.lookup a = some o ∧ o.cls = .type "list" ∧ o.dict = none ∧ o.data = .seq its n ∧ its.size ≤ sizeLine ∧ Vals xs its.toList
theorem Wl.sq {K : PySem.W.Frag} {H : Hp} {a : Addr} {xs : List V} (h : Wl K a xs) : SqL K H a xs := .inr h
theorem Wt.sq {K : PySem.W.Frag} {H : Hp} {a : Addr} {xs : List V} (h : Wt K a xs) : SqT K H a xs := .inr h
section
variable (K : PySem.W.Frag) (pi : Nat → Addr) (n : Nat) (H : Hp)
mutual
inductive Rep : D → V → Prop
  | non : Rep .non .non
  | bl (b : Bool) : Rep (.bl b) (.bl b)
  | int (i : Int) : Rep (.int i) (.int i)
  | str (x : Str) : Rep (.str x) (.str x)
  | tup {a : Addr} {ds : List D} {xs : List V} : H a = some (.tup xs) → Reps ds xs → Rep (.tup ds) (.ref a)
  | wt {a : Addr} {ds : List D} {xs : List V} : Wt K a xs → Reps ds xs → Rep (.wt ds) (.ref a)
  | wl {a : Addr} {ds : List D} {xs : List V} : Wl K a xs → Reps ds xs → Rep (.wl ds) (.ref a)
  | ref {i : Nat} : i < n → Rep (.ref i) (.ref (pi i))
  | cst (a : Addr) : Rep (.cst a) (.ref a)
inductive Reps : List D → List V → Prop
  | nil : Reps [] []
  | cons {d : D} {ds : List D} {v : V} {vs : List V} : Rep d v → Reps ds vs → Reps (d :: ds) (v :: vs)
end
inductive Sl : Ls → St → Prop
  | nil : Sl [] []
  | no {l : Ls} {s : St} (o : Option V) : Sl l s → Sl (none :: l) (o :: s)
  | yes {l : Ls} {s : St} {d : D} {v : V} : Rep K pi n H d v → Sl l s → Sl (some d :: l) (some v :: s)
def RO (a : Addr) : O → Prop
  | .lst ds => ∃ xs, H a = some (.lst xs) ∧ Reps K pi n H ds xs
  | .rol ds => ∃ o xs, H a = some (.frz o (.lst xs)) ∧ Reps K pi n H ds xs
  | .dic kvs => ∃ ks, H a = some (.dK ks) ∧ ks.map (·.1) = kvs.map (·.1) ∧ Reps K pi n H (kvs.map (·.2)) (ks.map (·.2))
  | .dit kvs => ∃ ks, H a = some (.dT ks) ∧ ks.map (·.1) = kvs.map (·.1) ∧ Reps K pi n H (kvs.map (·.2)) (ks.map (·.2))
  | .ins C fs => ∃ dx ks, H a = some (.ins C dx ks) ∧ ks.map (·.1) = fs.map (·.1) ∧ Reps K pi n H (fs.map (·.2)) (ks.map (·.2))
end
structure Real (K : PySem.W.Frag) (pi : Nat → Addr) (S : Hs) (H : Hp) : Prop where
  ob : ∀ i o, S[i]? = some o → RO K pi S.length H (pi i) o
  inj : ∀ i j, i < S.length → j < S.length → pi i = pi j → i = j
structure Ext (n m : Nat) (pi pi' : Nat → Addr) (H H' : Hp) : Prop where
  le : n ≤ m
  ag : ∀ i, i < n → pi' i = pi i
  tp : ∀ a xs, H a = some (.tup xs) → H' a = some (.tup xs)
theorem Ext.refl {n : Nat} {pi : Nat → Addr} {H : Hp} : Ext n n pi pi H H := ⟨Nat.le_refl _, fun _ _ => rfl, fun _ _ h => h⟩
theorem Ext.trans {n m k : Nat} {p q r : Nat → Addr} {H H1 H2 : Hp} (a : Ext n m p q H H1) (b : Ext m k q r H1 H2) : Ext n k p r H H2 :=
  ⟨Nat.le_trans a.le b.le, fun i h => (b.ag i (Nat.lt_of_lt_of_le h a.le)).trans (a.ag i h), fun x xs h => b.tp x xs (a.tp x xs h)⟩
section
variable {K : PySem.W.Frag} {pi pi' : Nat → Addr} {n m : Nat} {H H' : Hp}
mutual
theorem Rep.ext (x : Ext n m pi pi' H H') : ∀ (d : D) (v : V), Rep K pi n H d v → Rep K pi' m H' d v
  | .non, _, .non => .non
  | .bl _, _, .bl _ => .bl _
  | .int _, _, .int _ => .int _
  | .str _, _, .str _ => .str _
  | .tup ds, _, .tup t r => .tup (x.tp _ _ t) (Reps.ext x ds _ r)
  | .wt ds, _, .wt t r => .wt t (Reps.ext x ds _ r)
  | .wl ds, _, .wl t r => .wl t (Reps.ext x ds _ r)
  | .ref i, _, .ref h => by rw [← x.ag i h]; exact .ref (Nat.lt_of_lt_of_le h x.le)
  | .cst _, _, .cst _ => .cst _
theorem Reps.ext (x : Ext n m pi pi' H H') : ∀ (d : List D) (v : List V), Reps K pi n H d v → Reps K pi' m H' d v
  | [], _, .nil => .nil
  | d :: ds, _, .cons r s => .cons (Rep.ext x d _ r) (Reps.ext x ds _ s)
end
theorem Sl.ext (x : Ext n m pi pi' H H') {l : Ls} {s : St} (h : Sl K pi n H l s) : Sl K pi' m H' l s := by
  induction h with
  | nil => exact .nil
  | no o _ ih => exact .no o ih
  | yes r _ ih => exact .yes (r.ext x _ _) ih
theorem RO.ext (x : Ext n m pi pi' H H') {a : Addr} {o : O} (h : RO K pi n H a o) (e : H' a = H a) : RO K pi' m H' a o := by
  cases o with
  | lst ds => obtain ⟨xs, h1, h2⟩ := h; exact ⟨xs, e.trans h1, h2.ext x _ _⟩
  | rol ds => obtain ⟨o, xs, h1, h2⟩ := h; exact ⟨o, xs, e.trans h1, h2.ext x _ _⟩
  | dic kvs => obtain ⟨ks, h1, h2, h3⟩ := h; exact ⟨ks, e.trans h1, h2, h3.ext x _ _⟩
  | dit kvs => obtain ⟨ks, h1, h2, h3⟩ := h; exact ⟨ks, e.trans h1, h2, h3.ext x _ _⟩
  | ins C fs => obtain ⟨dx, ks, h1, h2, h3⟩ := h; exact ⟨dx, ks, e.trans h1, h2, h3.ext x _ _⟩
theorem RO.some {a : Addr} {o : O} (h : RO K pi n H a o) : ∃ u, H a = some u ∧ ∀ xs, u ≠ .tup xs := by
  cases o with
  | lst ds => obtain ⟨xs, h1, h2⟩ := h; exact ⟨_, h1, fun _ => nofun⟩
  | rol ds => obtain ⟨o, xs, h1, h2⟩ := h; exact ⟨_, h1, fun _ => nofun⟩
  | dic kvs => obtain ⟨ks, h1, h2, h3⟩ := h; exact ⟨_, h1, fun _ => nofun⟩
  | dit kvs => obtain ⟨ks, h1, h2, h3⟩ := h; exact ⟨_, h1, fun _ => nofun⟩
  | ins C fs => obtain ⟨dx, ks, h1, h2, h3⟩ := h; exact ⟨_, h1, fun _ => nofun⟩
theorem Reps.len {ds : List D} {vs : List V} (h : Reps K pi n H ds vs) : ds.length = vs.length := by
  induction ds generalizing vs with
  | nil => cases h; rfl
  | cons d ds ih => cases h with | cons r s => rw [List.length_cons, List.length_cons, ih s]
theorem Reps.append {ds es : List D} {vs us : List V} (h : Reps K pi n H ds vs) (g : Reps K pi n H es us) : Reps K pi n H (ds ++ es) (vs ++ us) := by
  induction ds generalizing vs with
  | nil => cases h; exact g
  | cons d ds ih => cases h with | cons r s => exact .cons r (ih s)
theorem Reps.get {ds : List D} {vs : List V} (h : Reps K pi n H ds vs) {i : Nat} {d : D} (e : ds[i]? = some d) : ∃ v, vs[i]? = some v ∧ Rep K pi n H d v := by
  induction ds generalizing vs i with
  | nil => simp at e
  | cons d ds ih =>
    cases h with
    | cons r s =>
      cases i with
      | zero => simp at e; subst e; exact ⟨_, rfl, r⟩
      | succ i => simpa using ih s (by simpa using e)
theorem Reps.take {ds : List D} {vs : List V} (h : Reps K pi n H ds vs) (i : Nat) : Reps K pi n H (ds.take i) (vs.take i) := by
  induction ds generalizing vs i with
  | nil => cases h; simp; exact .nil
  | cons d ds ih => cases h with | cons r s => cases i with | zero => exact .nil | succ i => exact .cons r (ih s i)
theorem Reps.drop {ds : List D} {vs : List V} (h : Reps K pi n H ds vs) (i : Nat) : Reps K pi n H (ds.drop i) (vs.drop i) := by
  induction ds generalizing vs i with
  | nil => cases h; simp; exact .nil
  | cons d ds ih => cases h with | cons r s => cases i with | zero => exact .cons r s | succ i => exact ih s i
theorem Reps.set {ds : List D} {vs : List V} (h : Reps K pi n H ds vs) (i : Nat) {d : D} {v : V} (r : Rep K pi n H d v) : Reps K pi n H (ds.set i d) (vs.set i v) := by
  induction ds generalizing vs i with
  | nil => cases h; exact .nil
  | cons d ds ih => cases h with | cons r s => cases i with | zero => exact .cons (by assumption) s | succ i => exact .cons r (ih s i)
theorem Sl.len {l : Ls} {s : St} (h : Sl K pi n H l s) : l.length = s.length := by
  induction h with
  | nil => rfl
  | no _ _ ih => simp [ih]
  | yes _ _ ih => simp [ih]
theorem Sl.get {l : Ls} {s : St} (h : Sl K pi n H l s) {i : Nat} {d : D} (e : l[i]? = some (some d)) : ∃ v, s[i]? = some (some v) ∧ Rep K pi n H d v := by
  induction h generalizing i with
  | nil => simp at e
  | no o _ ih =>
    cases i with
    | zero => simp at e
    | succ i => simpa using ih (by simpa using e)
  | yes r _ ih =>
    cases i with
    | zero => simp at e; subst e; exact ⟨_, rfl, r⟩
    | succ i => simpa using ih (by simpa using e)
theorem Sl.set {l : Ls} {s : St} (h : Sl K pi n H l s) (i : Nat) {d : D} {v : V} (r : Rep K pi n H d v) : Sl K pi n H (l.set i (some d)) (s.set i (some v)) := by
  induction h generalizing i with
  | nil => exact .nil
  | no o t ih => cases i with | zero => exact .yes r t | succ i => exact .no o (ih i)
  | yes q t ih => cases i with | zero => exact .yes r t | succ i => exact .yes q (ih i)
theorem Sl.skip {l : Ls} {s : St} (h : Sl K pi n H l s) (i : Nat) (o : Option V) : Sl K pi n H (l.set i none) (s.set i o) := by
  induction h generalizing i with
  | nil => exact .nil
  | no o t ih => cases i with | zero => exact .no _ t | succ i => exact .no _ (ih i)
  | yes q t ih => cases i with | zero => exact .no _ t | succ i => exact .yes q (ih i)
def piN (pi : Nat → Addr) (n : Nat) (p : Addr) : Nat → Addr := fun i => if i = n then p else pi i
theorem piN_same {p : Addr} : piN pi n p n = p := if_pos rfl
theorem piN_ne {p : Addr} {i : Nat} (h : i ≠ n) : piN pi n p i = pi i := if_neg h
theorem Real.at {S : Hs} (R : Real K pi S H) {i : Nat} (h : i < S.length) : ∃ u, H (pi i) = some u ∧ ∀ xs, u ≠ .tup xs := (R.ob i _ (List.getElem?_eq_getElem h)).some
theorem ext_new {S : Hs} {p : Addr} {u : HO} (hp : H p = none) : Ext S.length (S.length + 1) pi (piN pi S.length p) H (upd H p u) :=
  ⟨Nat.le_succ _, fun i h => piN_ne (Nat.ne_of_lt h), fun a xs h => by rw [upd_ne (ne_of_none h hp)]; exact h⟩
theorem Real.new {S : Hs} {p : Addr} {u : HO} {o : O} (R : Real K pi S H) (hp : H p = none) (h : RO K (piN pi S.length p) (S.length + 1) (upd H p u) p o) : Real K (piN pi S.length p) (S ++ [o]) (upd H p u) := by
  have hn : ∀ i, i < S.length → pi i ≠ p := fun i hi => by obtain ⟨u, e, _⟩ := R.at hi; exact ne_of_none e hp
  refine ⟨fun i o' e => ?_, fun i j hi hj e => ?_⟩
  · rw [List.length_append, List.length_singleton]
    by_cases hi : i < S.length
    · rw [List.getElem?_append_left hi] at e
      rw [piN_ne (Nat.ne_of_lt hi)]
      exact (R.ob i o' e).ext (ext_new hp) (upd_ne (hn i hi))
    · rw [List.getElem?_append_right (Nat.le_of_not_lt hi)] at e
      have : i = S.length := by
        have := (List.getElem?_eq_some_iff.mp e).1
        simp at this; omega
      subst this
      simp at e; subst e
      rw [piN_same]; exact h
  · simp at hi hj
    by_cases h1 : i = S.length <;> by_cases h2 : j = S.length
    · omega
    · subst h1; rw [piN_same, piN_ne h2] at e; exact absurd e.symm (hn j (by omega))
    · subst h2; rw [piN_same, piN_ne h1] at e; exact absurd e (hn i (by omega))
    · rw [piN_ne h1, piN_ne h2] at e; exact R.inj i j (by omega) (by omega) e
theorem ext_upd {a : Addr} {u : HO} (h : ∀ xs, H a ≠ some (.tup xs)) : Ext n n pi pi H (upd H a u) :=
  ⟨Nat.le_refl _, fun _ _ => rfl, fun b xs e => by
    by_cases hb : b = a
    · subst hb; exact absurd e (h xs)
    · rw [upd_ne hb]; exact e⟩
theorem Real.notup {S : Hs} (R : Real K pi S H) {i : Nat} (h : i < S.length) : ∀ xs, H (pi i) ≠ some (.tup xs) := fun xs e => by
  obtain ⟨u, e1, e2⟩ := R.at h
  rw [e] at e1; exact e2 xs (Option.some.inj e1).symm
theorem Real.put {S : Hs} {i : Nat} {u : HO} {o : O} (R : Real K pi S H) (hi : i < S.length) (h : RO K pi S.length (upd H (pi i) u) (pi i) o) : Real K pi (S.set i o) (upd H (pi i) u) := by
  refine ⟨fun j o' e => ?_, fun j k hj hk e => R.inj j k (by simpa using hj) (by simpa using hk) e⟩
  rw [List.length_set]
  by_cases hj : j = i
  · subst hj
    rw [List.getElem?_set_self hi] at e
    cases e; exact h
  · rw [List.getElem?_set_ne (Ne.symm hj)] at e
    have hl := (List.getElem?_eq_some_iff.mp e).1
    exact (R.ob j o' e).ext (ext_upd (R.notup hi)) (upd_ne fun z => hj (R.inj j i hl hi z))
end
inductive R (α : Type) where
  | ok (a : α) (S : Hs)
  | exc (c : V) (fs : Option (List (Str × D))) (l : Ls) (S : Hs)
  | bad
def R.bind {α β : Type} (r : R α) (k : α → Hs → R β) : R β :=
  match r with
  | .ok a S => k a S
  | .exc c fs l S => .exc c fs l S
  | .bad => .bad
@[simp] theorem R.bind_ok {α β : Type} (a : α) (S : Hs) (k : α → Hs → R β) : (R.ok a S).bind k = k a S := (show (R.ok a S).bind k = k a S from rfl).trans (Eq.refl _)
@[simp] theorem R.bind_exc {α β : Type} (c fs l S) (k : α → Hs → R β) : (R.exc c fs l S : R α).bind k = .exc c fs l S := (show (R.exc c fs l S : R α).bind k = .exc c fs l S from rfl).trans (Eq.refl _)
@[simp] theorem R.bind_bad {α β : Type} (k : α → Hs → R β) : (R.bad : R α).bind k = .bad := (show (R.bad : R α).bind k = .bad from rfl).trans (Eq.refl _)
def XFs (K : PySem.W.Frag) (pi : Nat → Addr) (n : Nat) (H : Hp) : Option Addr → Option (List (Str × D)) → Prop
  | none, none => True
  | some d, some fs => ∃ ks, H d = some (.xd ks) ∧ ks.map (·.1) = fs.map (·.1) ∧ Reps K pi n H (fs.map (·.2)) (ks.map (·.2))
  | _, _ => False
def Post {α : Type} (K : PySem.W.Frag) (E : St → XK) (n : Nat) (pi : Nat → Addr) (H : Hp) (r : R α) (Q : α → Hs → (Nat → Addr) → Hp → Prop) : Prop :=
  match r with
  | .ok a S => ∀ pi' H', Ext n S.length pi pi' H H' → Real K pi' S H' → Q a S pi' H'
  | .exc c fs l S => ∀ pi' H' u d s, Ext n S.length pi pi' H H' → Real K pi' S H' → RelV c u → XFs K pi' S.length H' d fs → Sl K pi' S.length H' l s → E s u d H'
  | .bad => False
section
variable {α β : Type} {K : PySem.W.Frag} {E : St → XK} {n m : Nat} {pi pi' : Nat → Addr} {H H' : Hp}
theorem Post.ext {r : R α} {Q : α → Hs → (Nat → Addr) → Hp → Prop} (h : Post K E n pi H r Q) (x : Ext n m pi pi' H H') : Post K E m pi' H' r Q := by
  cases r with
  | ok a S => exact fun p2 H2 y R => h p2 H2 (x.trans y) R
  | exc c fs l S => exact fun p2 H2 u d s y R r f => h p2 H2 u d s (x.trans y) R r f
  | bad => exact h
theorem Post.mono {r : R α} {Q Q' : α → Hs → (Nat → Addr) → Hp → Prop} (h : Post K E n pi H r Q)
    (w : ∀ a S p2 H2, r = .ok a S → Ext n S.length pi p2 H H2 → Real K p2 S H2 → Q a S p2 H2 → Q' a S p2 H2) : Post K E n pi H r Q' := by
  cases r with
  | ok a S => exact fun p2 H2 y R => w a S p2 H2 rfl y R (h p2 H2 y R)
  | exc c fs l S => exact h
  | bad => exact h
theorem Post.bind {r : R α} {k : α → Hs → R β} {Q : β → Hs → (Nat → Addr) → Hp → Prop} (h : Post K E n pi H (r.bind k) Q) :
    Post K E n pi H r (fun a S1 p1 H1 => Post K E S1.length p1 H1 (k a S1) Q) := by
  cases r with
  | ok a S => exact fun p2 H2 y R => Post.ext (show Post K E n pi H (k a S) Q from h) y
  | exc c fs l S => exact h
  | bad => exact h
theorem Post.ok {a : α} {S : Hs} {Q : α → Hs → (Nat → Addr) → Hp → Prop} (h : Post K E n pi H (.ok a S) Q) (x : Ext n S.length pi pi' H H') (R : Real K pi' S H') : Q a S pi' H' := h pi' H' x R
end
abbrev M := Ls → Hs → R D
abbrev MB := Ls → Hs → R Bool
abbrev ML := Ls → Hs → R (List D)
inductive F where
  | nx (l : Ls) | rt (d : D) | bk (l : Ls) | ct (l : Ls)
abbrev MS := Ls → Hs → R F
abbrev QD (K : PySem.W.Frag) (Q : VK) : D → Hs → (Nat → Addr) → Hp → Prop := fun d S p H => ∀ v, Rep K p S.length H d v → Q v H
abbrev QL (K : PySem.W.Frag) (Q : List V → Hp → Prop) : List D → Hs → (Nat → Addr) → Hp → Prop := fun d S p H => ∀ v, Reps K p S.length H d v → Q v H
abbrev QB (Q : Bool → Hp → Prop) : Bool → Hs → (Nat → Addr) → Hp → Prop := fun d _ _ H => Q d H
def QF (K : PySem.W.Frag) (D0 : Ends) : F → Hs → (Nat → Addr) → Hp → Prop := fun f S p H =>
  match f with
  | .nx l => ∀ s, Sl K p S.length H l s → D0.nx s H
  | .rt d => ∀ v, Rep K p S.length H d v → D0.rt v H
  | .bk l => ∀ s, Sl K p S.length H l s → D0.bk s H
  | .ct l => ∀ s, Sl K p S.length H l s → D0.ct s H
def T (K : PySem.W.Frag) (E : St → XK) (f : M) : TE := fun s H Q => ∃ p l S, Real K p S H ∧ Sl K p S.length H l s ∧ Post K E S.length p H (f l S) (QD K Q)
def TB (K : PySem.W.Frag) (E : St → XK) (f : MB) : TT := fun s H Q => ∃ p l S, Real K p S H ∧ Sl K p S.length H l s ∧ Post K E S.length p H (f l S) (QB Q)
def TL (K : PySem.W.Frag) (E : St → XK) (f : ML) : TA := fun s H Q => ∃ p l S, Real K p S H ∧ Sl K p S.length H l s ∧ Post K E S.length p H (f l S) (QL K Q)
def TSt (K : PySem.W.Frag) (E : St → XK) (f : MS) : TS := fun D0 s H => ∃ p l S, Real K p S H ∧ Sl K p S.length H l s ∧ Post K E S.length p H (f l S) (QF K D0)
structure EM (X : Cx) (E : St → XK) (e : Expr) (f : M) : Prop where pe : PE X e (T X.K E f)
structure BM (X : Cx) (E : St → XK) (e : Expr) (f : MB) : Prop where pt : PT X e (TB X.K E f)
structure BW (X : Cx) (E : St → XK) (e : Expr) (f : MB) : Prop where pw : PW X e (TB X.K E f)
structure LM (X : Cx) (E : St → XK) (es : List Expr) (f : ML) : Prop where pa : PA X es (TL X.K E f)
structure SM (X : Cx) (E : St → XK) (st : Stmt) (f : MS) : Prop where ps : PS X st (TSt X.K E f)
structure SMs (X : Cx) (E : St → XK) (st : List Stmt) (f : MS) : Prop where ps : PSs X st (TSt X.K E f)
section
variable {X : Cx} {t t' : TE}
theorem _root_.L2.PE.weak {e : Expr} (h : PE X e t) (w : ∀ s H Q, t' s H Q → t s H Q) : PE X e t' := ⟨fun pins s σ H Q I q => h.run pins s σ H Q I (w σ H Q q)⟩
theorem _root_.L2.PT.weak {e : Expr} {t t' : TT} (h : PT X e t) (w : ∀ s H Q, t' s H Q → t s H Q) : PT X e t' := ⟨fun pins s σ H Q I q => h.run pins s σ H Q I (w σ H Q q)⟩
theorem _root_.L2.PW.weak {e : Expr} {t t' : TT} (h : PW X e t) (w : ∀ s H Q, t' s H Q → t s H Q) : PW X e t' := ⟨fun wh pins s σ H Q I q => h.run wh pins s σ H Q I (w σ H Q q)⟩
theorem _root_.L2.PA.weak {e : List Expr} {t t' : TA} (h : PA X e t) (w : ∀ s H Q, t' s H Q → t s H Q) : PA X e t' := ⟨fun pos pins s σ H Q I q => h.run pos pins s σ H Q I (w σ H Q q)⟩
theorem _root_.L2.PS.weak {e : Stmt} {t t' : TS} (h : PS X e t) (w : ∀ s H Q, t' Q s H → t Q s H) : PS X e t' := ⟨fun pins s σ H Q I q => h.run pins s σ H Q I (w σ H Q q)⟩
theorem _root_.L2.PSs.weak {e : List Stmt} {t t' : TS} (h : PSs X e t) (w : ∀ s H Q, t' Q s H → t Q s H) : PSs X e t' := ⟨fun pins s σ H Q I q => h.run pins s σ H Q I (w σ H Q q)⟩
end
section
variable {K : PySem.W.Frag} {E : St → XK} {s : St} {H : Hp} {β : Type} {QQ : β → Hs → (Nat → Addr) → Hp → Prop}
theorem T.of {f : M} {k : D → Hs → R β} {p : Nat → Addr} {l : Ls} {S : Hs} {Q' : VK} (R : Real K p S H) (L : Sl K p S.length H l s) (h : Post K E S.length p H ((f l S).bind k) QQ)
    (st : ∀ p1 S1 H1 d v, Real K p1 S1 H1 → Ext S.length S1.length p p1 H H1 → Sl K p1 S1.length H1 l s → Rep K p1 S1.length H1 d v → Post K E S1.length p1 H1 (k d S1) QQ → Q' v H1) : T K E f s H Q' :=
  ⟨p, l, S, R, L, h.bind.mono fun a S1 p1 H1 _ x R1 q v r => st p1 S1 H1 a v R1 x (L.ext x) r q⟩
theorem TB.of {f : MB} {k : Bool → Hs → R β} {p : Nat → Addr} {l : Ls} {S : Hs} {Q' : Bool → Hp → Prop} (R : Real K p S H) (L : Sl K p S.length H l s) (h : Post K E S.length p H ((f l S).bind k) QQ)
    (st : ∀ p1 S1 H1 b, Real K p1 S1 H1 → Ext S.length S1.length p p1 H H1 → Sl K p1 S1.length H1 l s → Post K E S1.length p1 H1 (k b S1) QQ → Q' b H1) : TB K E f s H Q' :=
  ⟨p, l, S, R, L, h.bind.mono fun a S1 p1 H1 _ x R1 q => st p1 S1 H1 a R1 x (L.ext x) q⟩
theorem TL.of {f : ML} {k : List D → Hs → R β} {p : Nat → Addr} {l : Ls} {S : Hs} {Q' : List V → Hp → Prop} (R : Real K p S H) (L : Sl K p S.length H l s) (h : Post K E S.length p H ((f l S).bind k) QQ)
    (st : ∀ p1 S1 H1 d v, Real K p1 S1 H1 → Ext S.length S1.length p p1 H H1 → Sl K p1 S1.length H1 l s → Reps K p1 S1.length H1 d v → Post K E S1.length p1 H1 (k d S1) QQ → Q' v H1) : TL K E f s H Q' :=
  ⟨p, l, S, R, L, h.bind.mono fun a S1 p1 H1 _ x R1 q v r => st p1 S1 H1 a v R1 x (L.ext x) r q⟩
theorem T.last {f : M} {p : Nat → Addr} {l : Ls} {S : Hs} {Q : VK} (R : Real K p S H) (L : Sl K p S.length H l s) (h : Post K E S.length p H (f l S) (QD K Q)) : T K E f s H Q := ⟨p, l, S, R, L, h⟩
end
end Ly
set_option Elab.async false
set_option linter.all false
set_option maxRecDepth 100000
namespace Ly
open PySem PySem.Spec L2
open PyProof.Rows hiding St
section
variable {K : PySem.W.Frag} {E : St → XK} {p : Nat → Addr} {S : Hs} {H : Hp} {Q : VK}
theorem ext_junk {n : Nat} {q : Addr} {u : HO} (hq : H q = none) : Ext n n p p H (upd H q u) :=
  ⟨Nat.le_refl _, fun _ _ => rfl, fun a xs h => by rw [upd_ne (ne_of_none h hq)]; exact h⟩
theorem Real.junk {q : Addr} {u : HO} (R : Real K p S H) (hq : H q = none) : Real K p S (upd H q u) :=
  ⟨fun i o e => (R.ob i o e).ext (ext_junk hq) (by
    obtain ⟨z, e1, _⟩ := (R.ob i o e).some
    exact upd_ne (ne_of_none e1 hq)), R.inj⟩
theorem Post.val {d : D} (h : Post K E S.length p H (.ok d S) (QD K Q)) (R : Real K p S H) {v : V} (r : Rep K p S.length H d v) : Q v H := Post.ok h Ext.refl R v r
theorem Post.valT {ds : List D} {xs : List V} (h : Post K E S.length p H (.ok (.tup ds) S) (QD K Q)) (R : Real K p S H) (r : Reps K p S.length H ds xs) {q : Addr} (hq : H q = none) : Q (.ref q) (upd H q (.tup xs)) :=
  Post.ok h (ext_junk hq) (R.junk hq) _ (.tup upd_same (r.ext (ext_junk hq) _ _))
theorem Post.new {o : O} {u : HO} (h : Post K E S.length p H (.ok (.ref S.length) (S ++ [o])) (QD K Q)) (R : Real K p S H) {q : Addr} (hq : H q = none)
    (ro : RO K (piN p S.length q) (S.length + 1) (upd H q u) q o) : Q (.ref q) (upd H q u) := by
  have e : (S ++ [o]).length = S.length + 1 := by simp
  have := Post.ok h (by rw [e]; exact ext_new hq) (R.new hq ro) (.ref (piN p S.length q S.length)) (.ref (by rw [e]; exact Nat.lt_succ_self _))
  rwa [piN_same] at this
theorem Post.newL {ds : List D} {xs : List V} (h : Post K E S.length p H (.ok (.ref S.length) (S ++ [.lst ds])) (QD K Q)) (R : Real K p S H) (r : Reps K p S.length H ds xs) {q : Addr} (hq : H q = none) : Q (.ref q) (upd H q (.lst xs)) :=
  h.new R hq ⟨xs, upd_same, r.ext (ext_new hq) _ _⟩
theorem Post.put {d : D} {i : Nat} {o : O} {u : HO} (h : Post K E S.length p H (.ok d (S.set i o)) (QD K Q)) (R : Real K p S H) (hi : i < S.length) (ro : RO K p S.length (upd H (p i) u) (p i) o) {v : V} (r : Rep K p S.length (upd H (p i) u) d v) : Q v (upd H (p i) u) := by
  have e : (S.set i o).length = S.length := by simp
  exact Post.ok h (by rw [e]; exact ext_upd (R.notup hi)) (R.put hi ro) v (by rw [e]; exact r)
theorem Real.lst {i : Nat} {ds : List D} (R : Real K p S H) (e : S[i]? = some (.lst ds)) : ∃ xs, H (p i) = some (.lst xs) ∧ Reps K p S.length H ds xs := R.ob i _ e
theorem Real.lt {i : Nat} {o : O} (e : S[i]? = some o) : i < S.length := (List.getElem?_eq_some_iff.mp e).1
end
def OpOk (K : PySem.W.Frag) (E : St → XK) (r : R2) (op : D → D → Hs → R D) : Prop :=
  ∀ p S H x y v u Q, Real K p S H → Rep K p S.length H x v → Rep K p S.length H y u → Post K E S.length p H (op x y S) (QD K Q) → r v u H Q
def mBin (op : D → D → Hs → R D) (f g : M) : M := fun l S => (f l S).bind fun x S1 => (g l S1).bind fun y S2 => op x y S2
instance (i j : Int) : Decidable (IntMulOk i j) := inferInstanceAs (Decidable (¬ _))
def oAdd : D → D → Hs → R D
  | .int i, .int j, S => .ok (.int (i + j)) S
  | .str x, .str y, S => if x.length + y.length ≤ sizeLine then .ok (.str (x ++ y)) S else .bad
  | .tup xs, .tup ys, S => if xs.length + ys.length ≤ sizeLine then .ok (.tup (xs ++ ys)) S else .bad
  | .ref i, .ref j, S => match S[i]?, S[j]? with
    | some (.lst xs), some (.lst ys) => if xs.length + ys.length ≤ sizeLine then .ok (.ref S.length) (S ++ [.lst (xs ++ ys)]) else .bad
    | _, _ => .bad
  | _, _, _ => .bad
def oSub : D → D → Hs → R D
  | .int i, .int j, S => .ok (.int (i - j)) S
  | _, _, _ => .bad
def oMul : D → D → Hs → R D
  | .int i, .int j, S => if IntMulOk i j then .ok (.int (i * j)) S else .bad
  | .ref i, .int k, S => match S[i]? with
    | some (.lst xs) => if -(2 ^ 63) ≤ k ∧ k < 2 ^ 63 ∧ xs.length * k.toNat ≤ sizeLine then .ok (.ref S.length) (S ++ [.lst (List.replicate k.toNat xs).flatten]) else .bad
    | _ => .bad
  | _, _, _ => .bad
def oFdiv : D → D → Hs → R D
  | .int i, .int j, S => if 0 < j ∧ j.natAbs.log2 < 9000 then .ok (.int (i / j)) S else .bad
  | _, _, _ => .bad
def oMod : D → D → Hs → R D
  | .int i, .int j, S => if 0 < j then .ok (.int (i % j)) S else .bad
  | _, _, _ => .bad
def oPow : D → D → Hs → R D
  | .int i, .int j, S => if 0 ≤ j ∧ j ≤ 1000000 ∧ i.natAbs < 2 ^ 64 then .ok (.int (i ^ j.toNat)) S else .bad
  | _, _, _ => .bad
abbrev orR (r r' : R2) : R2 := fun x y H Q => r x y H Q ∨ r' x y H Q
section
variable {X : Cx} {E : St → XK} {a b : Expr} {f g : M} {pos : Pos}
theorem e_bin {o : Operator} {r : R2} {op : D → D → Hs → R D} (ho : OpR X (binaryOp o) r) (hk : OpOk X.K E r op) (ha : EM X E a f) (hb : EM X E b g) : EM X E (.BinOp a o b pos) (mBin op f g) :=
  ⟨(pe_op ho ha.pe hb.pe).weak fun s H Q ⟨p, l, S, R, L, h⟩ => T.of R L h fun p1 S1 H1 d v R1 x1 L1 r1 h1 => T.of R1 L1 h1 fun p2 S2 H2 d2 v2 R2 x2 L2 r2 h2 => hk p2 S2 H2 _ _ _ _ Q R2 (r1.ext x2 _ _) r2 h2⟩
abbrev rAddAll (K : PySem.W.Frag) : R2 := orR (rI0 fun i j => .int (i + j)) (orR (fun x y H Q => ∃ i j, x = V.str i ∧ y = V.str j ∧ i.length + j.length ≤ sizeLine ∧ Q (V.str (i ++ j)) H) (orR (rCatA K) rCat))
theorem or_add : OpR X (binaryOp .Add) (rAddAll X.K) := .or op_add (.or op_add_str (.or op_catA op_cat))
theorem ok_add {K : PySem.W.Frag} {E : St → XK} : OpOk K E (rAddAll K) oAdd := by
  intro p S H x y v u Q R rx ry h
  unfold oAdd at h
  split at h
  · cases rx; cases ry; exact .inl ⟨_, _, rfl, rfl, h.val R (.int _)⟩
  · split at h
    · rename_i hl; cases rx; cases ry; exact .inr (.inl ⟨_, _, rfl, rfl, hl, h.val R (.str _)⟩)
    · exact h.elim
  · split at h
    · rename_i xs ys _ hl
      cases rx with
      | @tup a ds vs t r =>
      cases ry with
      | @tup b es us t' r' =>
      refine .inr (.inr (.inl ⟨a, b, vs, us, rfl, rfl, SqT.of t, SqT.of t', by rw [← r.len, ← r'.len]; exact hl, fun e => ?_, fun e e' => ?_, fun e e' q hq => ?_⟩))
      · subst e; cases r; exact h.val R (.tup t' r')
      · subst e'; cases r'; rw [List.append_nil] at h; exact h.val R (.tup t r)
      · exact h.valT R (r.append r') hq
    · exact h.elim
  · split at h
    · rename_i i j _ _ _ xs ys e1 e2
      split at h
      · rename_i hl
        obtain ⟨vs, h1, r1⟩ := R.lst e1
        obtain ⟨us, h2, r2⟩ := R.lst e2
        cases rx; cases ry
        exact .inr (.inr (.inr ⟨_, _, vs, us, rfl, rfl, h1, h2, by rw [← r1.len, ← r2.len]; exact hl, fun q hq => h.newL R (r1.append r2) hq⟩))
      · exact h.elim
    · exact h.elim
  · exact h.elim
theorem e_add (ha : EM X E a f) (hb : EM X E b g) : EM X E (.BinOp a .Add b pos) (mBin oAdd f g) := e_bin or_add ok_add ha hb
theorem ok_I {K : PySem.W.Frag} {E : St → XK} {op : D → D → Hs → R D} {C : Int → Int → Prop} [∀ i j, Decidable (C i j)] {gg : Int → Int → Int}
    (h1 : ∀ i j S, op (.int i) (.int j) S = if C i j then .ok (.int (gg i j)) S else .bad) (h2 : ∀ x y S, (∀ i j, x = .int i → y = .int j → False) → op x y S = .bad) : OpOk K E (rI C fun i j => .int (gg i j)) op := by
  intro p S H x y v u Q R rx ry h
  by_cases e : ∃ i j, x = .int i ∧ y = .int j
  · obtain ⟨i, j, rfl, rfl⟩ := e
    rw [h1] at h
    cases rx; cases ry
    split at h
    · rename_i c; exact ⟨i, j, rfl, rfl, c, h.val R (.int _)⟩
    · exact h.elim
  · rw [h2 x y S fun i j a b => e ⟨i, j, a, b⟩] at h; exact h.elim
theorem ok_I0 {K : PySem.W.Frag} {E : St → XK} {op : D → D → Hs → R D} {gg : Int → Int → Int}
    (h1 : ∀ i j S, op (.int i) (.int j) S = .ok (.int (gg i j)) S) (h2 : ∀ x y S, (∀ i j, x = .int i → y = .int j → False) → op x y S = .bad) : OpOk K E (rI0 fun i j => .int (gg i j)) op := by
  intro p S H x y v u Q R rx ry h
  by_cases e : ∃ i j, x = .int i ∧ y = .int j
  · obtain ⟨i, j, rfl, rfl⟩ := e
    rw [h1] at h
    cases rx; cases ry
    exact ⟨i, j, rfl, rfl, h.val R (.int _)⟩
  · rw [h2 x y S fun i j a b => e ⟨i, j, a, b⟩] at h; exact h.elim
theorem e_sub (ha : EM X E a f) (hb : EM X E b g) : EM X E (.BinOp a .Sub b pos) (mBin oSub f g) :=
  e_bin op_sub (ok_I0 (fun _ _ _ => rfl) fun x y S h => by unfold oSub; split <;> first | rfl | exact (h _ _ rfl rfl).elim) ha hb
theorem op_mulA : OpR X (binaryOp .Mult) (rI IntMulOk fun i j => .int (i * j)) := opI fun _ _ _ _ _ _ _ hc q => mul_int q hc
theorem ok_mul {K : PySem.W.Frag} {E : St → XK} : OpOk K E (orR (rI IntMulOk fun i j => .int (i * j)) rRep) oMul := by
  intro p S H x y v u Q R rx ry h
  unfold oMul at h
  split at h
  · split at h
    · rename_i c; cases rx; cases ry; exact .inl ⟨_, _, rfl, rfl, c, h.val R (.int _)⟩
    · exact h.elim
  · split at h
    · rename_i e1
      split at h
      · rename_i hl
        obtain ⟨vs, h1, r1⟩ := R.lst e1
        cases rx; cases ry
        refine .inr ⟨_, _, vs, rfl, rfl, h1, hl.1, hl.2.1, by rw [← r1.len]; exact hl.2.2, fun q hq => h.newL R ?_ hq⟩
        generalize Int.toNat _ = n
        clear h hl
        induction n with
        | zero => exact .nil
        | succ n ih => rw [List.replicate_succ, List.replicate_succ, List.flatten_cons, List.flatten_cons]; exact r1.append ih
      · exact h.elim
    · exact h.elim
  · exact h.elim
theorem e_mul (ha : EM X E a f) (hb : EM X E b g) : EM X E (.BinOp a .Mult b pos) (mBin oMul f g) := e_bin (OpR.or op_mulA op_rep) ok_mul ha hb
theorem e_fdiv (ha : EM X E a f) (hb : EM X E b g) : EM X E (.BinOp a .FloorDiv b pos) (mBin oFdiv f g) :=
  e_bin op_fdivW (ok_I (C := fun _ j => 0 < j ∧ j.natAbs.log2 < 9000) (fun _ _ _ => rfl) fun x y S h => by unfold oFdiv; split <;> first | rfl | exact (h _ _ rfl rfl).elim) ha hb
theorem e_mod (ha : EM X E a f) (hb : EM X E b g) : EM X E (.BinOp a .Mod b pos) (mBin oMod f g) :=
  e_bin op_mod (ok_I (fun _ _ _ => rfl) fun x y S h => by unfold oMod; split <;> first | rfl | exact (h _ _ rfl rfl).elim) ha hb
theorem e_pow (ha : EM X E a f) (hb : EM X E b g) : EM X E (.BinOp a .Pow b pos) (mBin oPow f g) :=
  e_bin op_pow (ok_I (C := fun i j => 0 ≤ j ∧ j ≤ 1000000 ∧ i.natAbs < 2 ^ 64) (fun _ _ _ => rfl) fun x y S h => by unfold oPow; split <;> first | rfl | exact (h _ _ rfl rfl).elim) ha hb
def mVar (i : Nat) : M := fun l S => match l[i]? with
  | some (some d) => .ok d S
  | _ => .bad
def mC (d : D) : M := fun _ S => .ok d S
theorem e_of_var {e : Expr} {i : Nat} (h : PE X e (tVar i)) : EM X E e (mVar i) := ⟨h.weak fun s H Q ⟨p, l, S, R, L, h⟩ => by
  unfold mVar at h
  split at h
  · rename_i d e
    obtain ⟨v, h1, r⟩ := L.get e
    exact ⟨v, h1, h.val R r⟩
  · exact h.elim⟩
theorem e_of_c {e : Expr} {d : D} {v : V} (h : PE X e (tC v)) (hr : ∀ p n H, Rep X.K p n H d v) : EM X E e (mC d) := ⟨h.weak fun s H Q ⟨p, l, S, R, L, h⟩ => h.val R (hr _ _ _)⟩
theorem e_v (i : Nat) {x : Str} {pos : Pos} (hN : X.N[i]? = some x := by rfl) (hv : Vis X.env.scope x := by first | exact Or.inl rfl | exact Or.inr (Or.inl rfl) | exact Or.inr (Or.inr rfl)) (hd : (x == ("__debug__" : Str)) = false := by decide)
    (hcd : (x == ("__classdict__" : Str)) = false := by decide) : EM X E (.Name x pos) (mVar i) := e_of_var (pe_var hN hv hd hcd)
theorem e_int {i j pos} : EM X E (.Constant (.int i) j pos) (mC (.int i)) := e_of_c pe_int fun _ _ _ => .int _
theorem e_str {i j pos} : EM X E (.Constant (.str i) j pos) (mC (.str i)) := e_of_c pe_str fun _ _ _ => .str _
theorem e_bl {i j pos} : EM X E (.Constant (.bool i) j pos) (mC (.bl i)) := e_of_c pe_bl fun _ _ _ => .bl _
theorem e_non {j pos} : EM X E (.Constant .none j pos) (mC .non) := e_of_c pe_non fun _ _ _ => .non
def oNeg : D → Hs → R D
  | .int i, S => .ok (.int (-i)) S
  | _, _ => .bad
def mUn (op : D → Hs → R D) (f : M) : M := fun l S => (f l S).bind op
theorem e_neg (ha : EM X E a f) : EM X E (.UnaryOp .USub a pos) (mUn oNeg f) := ⟨(pe_un un_neg ha.pe).weak fun s H Q ⟨p, l, S, R, L, h⟩ => T.of R L h fun p1 S1 H1 d v R1 x1 L1 r1 h1 => by
  unfold oNeg at h1
  split at h1
  · cases r1; exact ⟨_, rfl, h1.val R1 (.int _)⟩
  · exact h1.elim⟩
end
end Ly
set_option Elab.async false
set_option linter.all false
set_option maxRecDepth 100000
namespace Ly
open PySem PySem.Spec L2
open PyProof.Rows hiding St
mutual
def D.pd (S : Hs) : Nat → D → Option PyData
  | 0, _ => none
  | _ + 1, .non => some .none
  | _ + 1, .bl b => some (.bool b)
  | _ + 1, .int i => some (.int i)
  | _ + 1, .str x => some (.str x)
  | k + 1, .tup ds => (D.pds S k ds).map .tuple
  | k + 1, .wt ds => (D.pds S k ds).map .tuple
  | k + 1, .ref i => match S[i]? with
    | some (.lst ds) => (D.pds S k ds).map .list
    | some (.rol ds) => (D.pds S k ds).map .list
    | _ => none
  | _ + 1, .cst _ => none
  | _ + 1, .wl _ => none
def D.pds (S : Hs) : Nat → List D → Option (List PyData)
  | _, [] => some []
  | 0, _ :: _ => none
  | k + 1, d :: ds => match D.pd S k d, D.pds S (k + 1) ds with
    | some a, some b => some (a :: b)
    | _, _ => none
end
section
variable {K : PySem.W.Frag} {p : Nat → Addr} {S : Hs} {H : Hp}
mutual
theorem D.pd_dp (R : Real K p S H) : ∀ (k : Nat) (d : D) (v : V) (x : PyData), Rep K p S.length H d v → D.pd S k d = some x → Dp K H v x
  | 0, d, _, _, _, e => by simp [D.pd] at e
  | k + 1, .non, _, _, .non, e => by simp [D.pd] at e; subst e; exact .non
  | k + 1, .bl b, _, _, .bl _, e => by simp [D.pd] at e; subst e; exact .bl _
  | k + 1, .int b, _, _, .int _, e => by simp [D.pd] at e; subst e; exact .int _
  | k + 1, .str b, _, _, .str _, e => by simp [D.pd] at e; subst e; exact .str _
  | k + 1, .tup ds, _, _, .tup t r, e => by
    simp only [D.pd, Option.map_eq_some_iff] at e
    obtain ⟨xs, e, rfl⟩ := e
    exact .tup (SqT.of t) (D.pds_dp R k ds _ _ r e)
  | k + 1, .wt ds, _, _, .wt t r, e => by
    simp only [D.pd, Option.map_eq_some_iff] at e
    obtain ⟨xs, e, rfl⟩ := e
    exact .tup t.sq (D.pds_dp R k ds _ _ r e)
  | k + 1, .ref i, _, _, .ref h, e => by
    simp only [D.pd] at e
    split at e
    · rename_i ds q
      simp only [Option.map_eq_some_iff] at e
      obtain ⟨xs, e, rfl⟩ := e
      obtain ⟨vs, h1, r⟩ := R.lst q
      exact .lst (SqL.of h1) (D.pds_dp R k ds _ _ r e)
    · rename_i ds q
      simp only [Option.map_eq_some_iff] at e
      obtain ⟨xs, e, rfl⟩ := e
      obtain ⟨o, vs, h1, r⟩ := R.ob i _ q
      exact .lst (.inl (.inr ⟨o, h1⟩)) (D.pds_dp R k ds _ _ r e)
    · cases e
  | k + 1, .cst a, _, _, _, e => by simp [D.pd] at e
  | k + 1, .wl a, _, _, _, e => by simp [D.pd] at e
theorem D.pds_dp (R : Real K p S H) : ∀ (k : Nat) (d : List D) (v : List V) (x : List PyData), Reps K p S.length H d v → D.pds S k d = some x → DpAll K H v x
  | k, [], _, _, .nil, e => by cases k <;> (simp [D.pds] at e; subst e; exact .nil)
  | 0, d :: ds, _, _, _, e => by simp [D.pds] at e
  | k + 1, d :: ds, _, _, .cons r s, e => by
    simp only [D.pds] at e
    split at e
    · rename_i a b e1 e2
      cases e
      exact .cons (D.pd_dp R k d _ _ r e1) (D.pds_dp R (k + 1) ds _ _ s e2)
    · cases e
end
end
def cEqS : D → D → Option Bool
  | .int i, .int j => some (decide (i = j))
  | .str i, .str j => some (decide (i = j))
  | .bl i, .bl j => some (decide (i = j))
  | .non, .non => some true
  | .non, .int _ => some false
  | .int _, .non => some false
  | .non, .bl _ => some false
  | .bl _, .non => some false
  | .non, .str _ => some false
  | .str _, .non => some false
  | .int _, .str _ => some false
  | .str _, .int _ => some false
  | .bl _, .str _ => some false
  | .str _, .bl _ => some false
  | _, _ => none
def cEqD (x y : D) (S : Hs) : Option Bool :=
  match cEqS x y with
  | some b => some b
  | none => match D.pd S 70 x, D.pd S 70 y with
    | some a, some b => if SeqAt.shaped a = true ∧ SeqAt.shaped b = true then some (PyData.eqv a b) else none
    | _, _ => none
def oEq (x y : D) (S : Hs) : R D := match cEqD x y S with
  | some b => .ok (.bl b) S
  | none => .bad
def oNe (x y : D) (S : Hs) : R D := match cEqD x y S with
  | some b => .ok (.bl (!b)) S
  | none => .bad
def oLt : D → D → Hs → R D
  | .int i, .int j, S => .ok (.bl (decide (i < j))) S
  | _, _, _ => .bad
def oLe : D → D → Hs → R D
  | .int i, .int j, S => .ok (.bl (decide (i ≤ j))) S
  | _, _, _ => .bad
def oGt : D → D → Hs → R D
  | .int i, .int j, S => .ok (.bl (decide (j < i))) S
  | _, _, _ => .bad
def oGe : D → D → Hs → R D
  | .int i, .int j, S => .ok (.bl (decide (j ≤ i))) S
  | _, _, _ => .bad
def D.isNon : D → Bool
  | .non => true
  | _ => false
def oIsNot : D → D → Hs → R D
  | x, .non, S => .ok (.bl (!x.isNon)) S
  | .bl a, .bl b, S => .ok (.bl (!decide (a = b))) S
  | _, _, _ => .bad
def eqF : D → D → Bool
  | .non, .non => true
  | .bl a, .bl b => a == b
  | .bl a, .int b => (if a then 1 else 0) == b
  | .int a, .bl b => a == (if b then 1 else 0)
  | .int a, .int b => a == b
  | .str a, .str b => a == b
  | _, _ => false
def flatD : D → Bool
  | .non => true
  | .bl _ => true
  | .int _ => true
  | .str _ => true
  | _ => false
def inS (i j : Str) : Bool := match i with
  | ⟨⟨[c]⟩⟩ => decide (c ∈ j.cps.toList)
  | _ => !(Builtin.Str.occurrences j i 0 j.length 1).isEmpty
def D.key : D → Option Key
  | .int i => some (.inl i)
  | .str x => some (.inr x)
  | _ => none
def D.keys : List D → Option (List Key)
  | [] => some []
  | d :: ds => match d.key, D.keys ds with
    | some k, some l => some (k :: l)
    | _, _ => none
def D.tkey : D → Option (List Key)
  | .tup ds => D.keys ds
  | _ => none
def getK {κ : Type} [DecidableEq κ] (kvs : List (κ × D)) (k : κ) : Option D := (kvs.find? fun kv => decide (kv.1 = k)).map (·.2)
def setK {κ : Type} [DecidableEq κ] (kvs : List (κ × D)) (k : κ) (v : D) : List (κ × D) :=
  if (kvs.any fun kv => decide (kv.1 = k)) = true then kvs.map fun kv => if kv.1 = k then (kv.1, v) else kv else kvs ++ [(k, v)]
def dGet (x y : D) (S : Hs) : Option (Option D) := match x with
  | .ref i => match S[i]? with
    | some (.dic kvs) => match y.key with
      | some k => some (getK kvs k)
      | none => none
    | some (.dit kvs) => match y.tkey with
      | some k => some (getK kvs k)
      | none => none
    | _ => none
  | _ => none
def cIn (x y : D) (S : Hs) : Option Bool := match x, y with
  | .str i, .str j => some (inS i j)
  | x, .tup ds => if flatD x && ds.all flatD then some (ds.any fun z => eqF z x) else
    match D.pd S 70 x, D.pd S 70 (.tup ds) with
    | some a, some (.tuple b) => if SeqAt.shaped a = true ∧ SeqAt.shaped (.tuple b) = true then some (b.any fun z => z.eqv a) else none
    | _, _ => none
  | x, .wt ds => if flatD x && ds.all flatD then some (ds.any fun z => eqF z x) else
    match D.pd S 70 x, D.pd S 70 (.wt ds) with
    | some a, some (.tuple b) => if SeqAt.shaped a = true ∧ SeqAt.shaped (.tuple b) = true then some (b.any fun z => z.eqv a) else none
    | _, _ => none
  | x, .ref i => match S[i]? with
    | some (.lst ds) => if flatD x && ds.all flatD then some (ds.any fun z => eqF z x) else
      match D.pd S 70 x, D.pd S 70 (.ref i) with
      | some a, some (.list b) => if SeqAt.shaped a = true ∧ SeqAt.shaped (.list b) = true then some (b.any fun z => z.eqv a) else none
      | _, _ => none
    | some (.dic kvs) => (dGet (.ref i) x S).map (·.isSome)
    | some (.dit kvs) => (dGet (.ref i) x S).map (·.isSome)
    | _ => none
  | _, _ => none
def oIn (x y : D) (S : Hs) : R D := match cIn x y S with
  | some b => .ok (.bl b) S
  | none => .bad
def oNotIn (x y : D) (S : Hs) : R D := match cIn x y S with
  | some b => .ok (.bl (!b)) S
  | none => .bad
section
variable {K : PySem.W.Frag} {E : St → XK} {p : Nat → Addr} {S : Hs} {H : Hp} {n : Nat} {pi : Nat → Addr}
theorem cEqS_V {x y : D} {v u : V} {b : Bool} (rx : Rep K pi n H x v) (ry : Rep K pi n H y u) (h : cEqS x y = some b) : scal v u = true ∧ decide (v = u) = b := by
  unfold cEqS at h
  split at h <;> first | (cases h; done) | (cases rx; cases ry; cases h; exact ⟨rfl, by simp⟩)
theorem ok_eq : OpOk K E (orR rEq (rEqD K)) oEq := by
  intro p S H x y v u Q R rx ry h
  unfold oEq at h
  split at h
  · rename_i b e
    unfold cEqD at e
    split at e
    · rename_i c e1
      cases e
      obtain ⟨h1, h2⟩ := cEqS_V rx ry e1
      exact .inl ⟨h1, by rw [h2]; exact h.val R (.bl _)⟩
    · split at e
      · rename_i a c e1 e2
        split at e
        · rename_i hs
          cases e
          exact .inr ⟨a, c, D.pd_dp R _ _ _ _ rx e1, D.pd_dp R _ _ _ _ ry e2, hs.1, hs.2, h.val R (.bl _)⟩
        · cases e
      · cases e
  · exact h.elim
theorem ok_ne : OpOk K E (orR rNe (rNeD K)) oNe := by
  intro p S H x y v u Q R rx ry h
  unfold oNe at h
  split at h
  · rename_i b e
    unfold cEqD at e
    split at e
    · rename_i c e1
      cases e
      obtain ⟨h1, h2⟩ := cEqS_V rx ry e1
      exact .inl ⟨h1, by rw [h2]; exact h.val R (.bl _)⟩
    · split at e
      · rename_i a c e1 e2
        split at e
        · rename_i hs
          cases e
          exact .inr ⟨a, c, D.pd_dp R _ _ _ _ rx e1, D.pd_dp R _ _ _ _ ry e2, hs.1, hs.2, h.val R (.bl _)⟩
        · cases e
      · cases e
  · exact h.elim
theorem ok_B0 {op : D → D → Hs → R D} {gg : Int → Int → Bool} (h1 : ∀ i j S, op (.int i) (.int j) S = .ok (.bl (gg i j)) S) (h2 : ∀ x y S, (∀ i j, x = .int i → y = .int j → False) → op x y S = .bad) : OpOk K E (rI0 fun i j => .bl (gg i j)) op := by
  intro p S H x y v u Q R rx ry h
  by_cases e : ∃ i j, x = .int i ∧ y = .int j
  · obtain ⟨i, j, rfl, rfl⟩ := e
    rw [h1] at h
    cases rx; cases ry
    exact ⟨i, j, rfl, rfl, h.val R (.bl _)⟩
  · rw [h2 x y S fun i j a b => e ⟨i, j, a, b⟩] at h; exact h.elim
theorem ok_lt : OpOk K E (rI0 fun i j => .bl (decide (i < j))) oLt := ok_B0 (fun _ _ _ => rfl) fun x y S h => by unfold oLt; split <;> first | rfl | exact (h _ _ rfl rfl).elim
theorem ok_le : OpOk K E (rI0 fun i j => .bl (decide (i ≤ j))) oLe := ok_B0 (fun _ _ _ => rfl) fun x y S h => by unfold oLe; split <;> first | rfl | exact (h _ _ rfl rfl).elim
theorem ok_gt : OpOk K E (rI0 fun i j => .bl (decide (j < i))) oGt := ok_B0 (fun _ _ _ => rfl) fun x y S h => by unfold oGt; split <;> first | rfl | exact (h _ _ rfl rfl).elim
theorem ok_ge : OpOk K E (rI0 fun i j => .bl (decide (j ≤ i))) oGe := ok_B0 (fun _ _ _ => rfl) fun x y S h => by unfold oGe; split <;> first | rfl | exact (h _ _ rfl rfl).elim
theorem isNon_V {x : D} {v : V} (rx : Rep K pi n H x v) : x.isNon = decide (v = .non) := by cases rx <;> rfl
abbrev rNotNA : R2 := fun x y H Q => y = .non ∧ Q (.bl (!decide (x = .non))) H
theorem ok_isnot : OpOk K E (orR rNotNA rNotB) oIsNot := by
  intro p S H x y v u Q R rx ry h
  unfold oIsNot at h
  split at h
  · cases ry; exact .inl ⟨rfl, by rw [← isNon_V rx]; exact h.val R (.bl _)⟩
  · cases rx; cases ry; exact .inr ⟨_, _, rfl, rfl, h.val R (.bl _)⟩
  · exact h.elim
theorem flat_V {x : D} {v : V} (rx : Rep K pi n H x v) (h : flatD x = true) : flatV v = true := by cases rx <;> first | rfl | cases h
theorem eqF_V {x y : D} {v u : V} (rx : Rep K pi n H x v) (ry : Rep K pi n H y u) (h : flatD y = true) : eqF x y = eqV v u := by cases rx <;> cases ry <;> first | rfl | cases h
theorem flats_V {ds : List D} {vs : List V} (r : Reps K pi n H ds vs) (h : ds.all flatD = true) : vs.all flatV = true := by
  induction ds generalizing vs with
  | nil => cases r; rfl
  | cons d ds ih =>
    cases r with
    | cons r s =>
      rw [List.all_cons, Bool.and_eq_true] at h ⊢
      exact ⟨flat_V r h.1, ih s h.2⟩
theorem any_V {ds : List D} {vs : List V} {x : D} {v : V} (r : Reps K pi n H ds vs) (rx : Rep K pi n H x v) (h : flatD x = true) : (ds.any fun z => eqF z x) = inV v vs := by
  unfold inV
  induction ds generalizing vs with
  | nil => cases r; rfl
  | cons d ds ih =>
    cases r with
    | cons r s => rw [List.any_cons, List.any_cons, eqF_V r rx h, ih s]
theorem key_V {y : D} {u : V} {k : Key} (ry : Rep K pi n H y u) (h : y.key = some k) : u = kV k := by
  unfold D.key at h
  split at h <;> first | (cases ry; cases h; rfl) | cases h
theorem keys_V {ds : List D} {vs : List V} {k : List Key} (r : Reps K pi n H ds vs) (h : D.keys ds = some k) : vs = k.map kV := by
  induction ds generalizing vs k with
  | nil => cases r; cases h; rfl
  | cons d ds ih =>
    cases r with
    | cons r s =>
      simp only [D.keys] at h
      split at h
      · rename_i a b e1 e2
        cases h
        rw [key_V r e1, ih s e2]; rfl
      · cases h
def GetRel (K : PySem.W.Frag) (p : Nat → Addr) (n : Nat) (H : Hp) (o : Option D) (w : Option V) : Prop := match o with
  | some d => ∃ z, w = some z ∧ Rep K p n H d z
  | none => w = none
theorem getK_V {κ : Type} [DecidableEq κ] {kvs : List (κ × D)} {ks : List (κ × V)} (h : ks.map (·.1) = kvs.map (·.1)) (r : Reps K pi n H (kvs.map (·.2)) (ks.map (·.2))) (k : κ) : GetRel K pi n H (getK kvs k) (valV ks k) := by
  induction kvs generalizing ks with
  | nil => cases ks with | nil => exact rfl | cons a b => cases h
  | cons a kvs ih =>
    cases ks with
    | nil => cases h
    | cons b ks =>
      simp only [List.map_cons, List.cons.injEq] at h
      cases r with
      | cons r s =>
        have := ih h.2 s
        unfold getK valV at this ⊢
        by_cases e : a.1 = k
        · rw [List.find?_cons_of_pos (by simpa using e)]
          refine ⟨b.2, ?_, r⟩
          rw [List.find?_cons_of_pos (by simpa [h.1] using e)]; rfl
        · rw [List.find?_cons_of_neg (by simpa using e), List.find?_cons_of_neg (by simpa [h.1] using e)]
          exact this
theorem dGet_V {x y : D} {v u : V} {o : Option D} (R : Real K p S H) (rx : Rep K p S.length H x v) (ry : Rep K p S.length H y u) (h : dGet x y S = some o) :
    ∃ a w, v = .ref a ∧ DGet H a u w ∧ GetRel K p S.length H o w := by
  cases x with
  | ref i =>
    cases rx
    simp only [dGet] at h
    split at h
    · rename_i kvs q
      obtain ⟨ks, h1, h2, h3⟩ := R.ob i _ q
      split at h
      · rename_i k ek
        cases h
        exact ⟨_, _, rfl, .inl ⟨ks, k, .inl h1, key_V ry ek, rfl⟩, getK_V h2 h3 k⟩
      · cases h
    · rename_i kvs q
      obtain ⟨ks, h1, h2, h3⟩ := R.ob i _ q
      split at h
      · rename_i k ek
        cases h
        unfold D.tkey at ek
        split at ek
        · cases ry with
          | @tup b _ vs t r =>
          exact ⟨_, _, rfl, .inr ⟨ks, k, b, .inl h1, rfl, by rw [← keys_V r ek]; exact t, rfl⟩, getK_V h2 h3 k⟩
        · cases ek
      · cases h
    · cases h
  | _ => cases h
abbrev rDIn : R2 := fun x y H Q => ∃ a o, y = .ref a ∧ DGet H a x o ∧ Q (.bl o.isSome) H
abbrev rDNotIn : R2 := fun x y H Q => ∃ a o, y = .ref a ∧ DGet H a x o ∧ Q (.bl (!o.isSome)) H
abbrev rInStr : R2 := fun x y H Q => ∃ i j, x = V.str i ∧ y = V.str j ∧ Q (V.bl !(Builtin.Str.occurrences j i 0 j.length 1).isEmpty) H
abbrev rInSign : R2 := fun x y H Q => ∃ (c : Nat) (z : Str), x = .str ⟨#[c]⟩ ∧ y = .str z ∧ Q (.bl (decide (c ∈ z.cps.toList))) H
def rInDT (K : PySem.W.Frag) : R2 := fun x y H Q => ∃ d ds, Dp K H x d ∧ Dp K H y (.tuple ds) ∧ SeqAt.shaped d = true ∧ SeqAt.shaped (.tuple ds) = true ∧ Q (.bl (ds.any fun z => PyData.eqv z d)) H
def rNotInDT (K : PySem.W.Frag) : R2 := fun x y H Q => ∃ d ds, Dp K H x d ∧ Dp K H y (.tuple ds) ∧ SeqAt.shaped d = true ∧ SeqAt.shaped (.tuple ds) = true ∧ Q (.bl (!ds.any fun z => PyData.eqv z d)) H
theorem op_inDT {X : Cx} (hu : X.A.units + 65 < cLine) : OpR X (compareOp .In) (rInDT X.K) := by
  intro pins s σ H x y v u Q I rx ry h
  obtain ⟨d, ds, hd, he, sd, se, q⟩ := h
  obtain ⟨as, r1⟩ := Dp.reads I d x v hd rx
  obtain ⟨bs, r2⟩ := Dp.reads I (.tuple ds) y u he ry
  exact SeqAt.in_tuple_reads r2 r1 (SeqAt.canLay_of_shaped se) (SeqAt.canLay_of_shaped sd) (room_in_shaped sd hu) ⟨.bl _, H, I, rfl, q⟩
theorem op_notInDT {X : Cx} (hu : X.A.units + 65 < cLine) : OpR X (compareOp .NotIn) (rNotInDT X.K) := by
  intro pins s σ H x y v u Q I rx ry h
  obtain ⟨d, ds, hd, he, sd, se, q⟩ := h
  obtain ⟨as, r1⟩ := Dp.reads I d x v hd rx
  obtain ⟨bs, r2⟩ := Dp.reads I (.tuple ds) y u he ry
  exact SeqAt.notIn_tuple_reads r2 r1 (SeqAt.canLay_of_shaped se) (SeqAt.canLay_of_shaped sd) (room_in_shaped sd hu) ⟨.bl _, H, I, rfl, q⟩
abbrev rInAll (K : PySem.W.Frag) : R2 := orR rInSign (orR rInStr (orR (rIn K false) (orR (rInD K) (orR (rInDT K) rDIn))))
abbrev rNotInStr : R2 := fun x y H Q => ∃ i j, x = V.str i ∧ y = V.str j ∧ Q (V.bl !(!(Builtin.Str.occurrences j i 0 j.length 1).isEmpty)) H
abbrev rNotInSign : R2 := fun x y H Q => ∃ (c : Nat) (z : Str), x = .str ⟨#[c]⟩ ∧ y = .str z ∧ Q (.bl (!decide (c ∈ z.cps.toList))) H
abbrev rNotInAll (K : PySem.W.Frag) : R2 := orR rNotInSign (orR rNotInStr (orR (rIn K true) (orR (rNotInD K) (orR (rNotInDT K) rDNotIn))))
theorem or_din {X : Cx} (hu : X.A.units + 1 < cLine) : OpR X (compareOp .In) rDIn := by
  intro pins s σ H x y v u Q I rx ry h
  obtain ⟨a, o, rfl, g, q⟩ := h
  obtain rfl : u = Value.ref a := ry
  exact d_in hu I g rx fun s3 I3 => ⟨.bl o.isSome, H, I3, rfl, q⟩
theorem or_dnotin {X : Cx} (hu : X.A.units + 1 < cLine) : OpR X (compareOp .NotIn) rDNotIn := by
  intro pins s σ H x y v u Q I rx ry h
  obtain ⟨a, o, rfl, g, q⟩ := h
  obtain rfl : u = Value.ref a := ry
  exact d_notIn hu I g rx fun s3 I3 => ⟨.bl (!o.isSome), H, I3, rfl, q⟩
theorem cIn_V {x y : D} {v u : V} {b : Bool} (R : Real K p S H) (rx : Rep K p S.length H x v) (ry : Rep K p S.length H y u) (h : cIn x y S = some b) :
    (∃ (c : Nat) (z : Str), v = .str ⟨#[c]⟩ ∧ u = .str z ∧ b = decide (c ∈ z.cps.toList)) ∨ (∃ i j, v = V.str i ∧ u = V.str j ∧ b = !(Builtin.Str.occurrences j i 0 j.length 1).isEmpty) ∨
    (∃ q xs, u = .ref q ∧ (SqL K H q xs ∨ SqT K H q xs) ∧ flatV v = true ∧ xs.all flatV = true ∧ b = inV v xs) ∨
    (∃ d ds, Dp K H v d ∧ Dp K H u (.list ds) ∧ SeqAt.shaped d = true ∧ SeqAt.shaped (.list ds) = true ∧ b = ds.any fun z => z.eqv d) ∨
    (∃ d ds, Dp K H v d ∧ Dp K H u (.tuple ds) ∧ SeqAt.shaped d = true ∧ SeqAt.shaped (.tuple ds) = true ∧ b = ds.any fun z => z.eqv d) ∨
    (∃ a o, u = .ref a ∧ DGet H a v o ∧ b = o.isSome) := by
  have dic : ∀ i, y = .ref i → ((dGet (.ref i) x S).map (·.isSome)) = some b → ∃ a o, u = .ref a ∧ DGet H a v o ∧ b = o.isSome := fun i e hh => by
    subst e
    rw [Option.map_eq_some_iff] at hh
    obtain ⟨o, hh, rfl⟩ := hh
    obtain ⟨a, w, e1, g, m⟩ := dGet_V R ry rx hh
    refine ⟨a, w, e1, g, ?_⟩
    cases o with
    | none => rw [m]; rfl
    | some d => obtain ⟨z, e, _⟩ := m; rw [e]; rfl
  unfold cIn at h
  split at h
  · rename_i i j
    cases h; cases rx; cases ry
    unfold inS
    split
    · exact .inl ⟨_, _, rfl, rfl, rfl⟩
    · exact .inr (.inl ⟨_, _, rfl, rfl, rfl⟩)
  · split at h
    · rename_i hf
      rw [Bool.and_eq_true] at hf
      cases h
      cases ry with
      | tup t r => exact .inr (.inr (.inl ⟨_, _, rfl, .inr (SqT.of t), flat_V rx hf.1, flats_V r hf.2, any_V r rx hf.1⟩))
    · split at h
      · rename_i a c e1 e2
        split at h
        · rename_i hs
          cases h
          exact .inr (.inr (.inr (.inr (.inl ⟨a, c, D.pd_dp R _ _ _ _ rx e1, D.pd_dp R _ _ _ _ ry e2, hs.1, hs.2, rfl⟩))))
        · cases h
      · cases h
  · split at h
    · rename_i hf
      rw [Bool.and_eq_true] at hf
      cases h
      cases ry with
      | wt t r => exact .inr (.inr (.inl ⟨_, _, rfl, .inr t.sq, flat_V rx hf.1, flats_V r hf.2, any_V r rx hf.1⟩))
    · split at h
      · rename_i a c e1 e2
        split at h
        · rename_i hs
          cases h
          exact .inr (.inr (.inr (.inr (.inl ⟨a, c, D.pd_dp R _ _ _ _ rx e1, D.pd_dp R _ _ _ _ ry e2, hs.1, hs.2, rfl⟩))))
        · cases h
      · cases h
  · rename_i i
    split at h
    · rename_i ds q
      obtain ⟨vs, h1, r⟩ := R.lst q
      split at h
      · rename_i hf
        rw [Bool.and_eq_true] at hf
        cases h
        cases ry
        exact .inr (.inr (.inl ⟨_, _, rfl, .inl (SqL.of h1), flat_V rx hf.1, flats_V r hf.2, any_V r rx hf.1⟩))
      · split at h
        · rename_i a c e1 e2
          split at h
          · rename_i hs
            cases h
            exact .inr (.inr (.inr (.inl ⟨a, c, D.pd_dp R _ _ _ _ rx e1, D.pd_dp R _ _ _ _ ry e2, hs.1, hs.2, rfl⟩)))
          · cases h
        · cases h
    · exact .inr (.inr (.inr (.inr (.inr (dic i rfl h)))))
    · exact .inr (.inr (.inr (.inr (.inr (dic i rfl h)))))
    · cases h
  · cases h
theorem ok_in : OpOk K E (rInAll K) oIn := by
  intro p S H x y v u Q R rx ry h
  unfold oIn at h
  split at h
  · rename_i b e
    have hq : Q (.bl b) H := h.val R (.bl _)
    rcases cIn_V R rx ry e with ⟨c, z, h1, h2, rfl⟩ | ⟨i, j, h1, h2, rfl⟩ | ⟨q, xs, h1, h2, h3, h4, rfl⟩ | ⟨d, ds, h1, h2, h3, h4, rfl⟩ | ⟨d, ds, h1, h2, h3, h4, rfl⟩ | ⟨a, o, h1, h2, rfl⟩
    · exact .inl ⟨c, z, h1, h2, hq⟩
    · exact .inr (.inl ⟨i, j, h1, h2, hq⟩)
    · exact .inr (.inr (.inl ⟨q, xs, h1, h2, h3, h4, hq⟩))
    · exact .inr (.inr (.inr (.inl ⟨d, ds, h1, h2, h3, h4, hq⟩)))
    · exact .inr (.inr (.inr (.inr (.inl ⟨d, ds, h1, h2, h3, h4, hq⟩))))
    · exact .inr (.inr (.inr (.inr (.inr ⟨a, o, h1, h2, hq⟩))))
  · exact h.elim
theorem ok_notin : OpOk K E (rNotInAll K) oNotIn := by
  intro p S H x y v u Q R rx ry h
  unfold oNotIn at h
  split at h
  · rename_i b e
    have hq : Q (.bl (!b)) H := h.val R (.bl _)
    rcases cIn_V R rx ry e with ⟨c, z, h1, h2, rfl⟩ | ⟨i, j, h1, h2, rfl⟩ | ⟨q, xs, h1, h2, h3, h4, rfl⟩ | ⟨d, ds, h1, h2, h3, h4, rfl⟩ | ⟨d, ds, h1, h2, h3, h4, rfl⟩ | ⟨a, o, h1, h2, rfl⟩
    · exact .inl ⟨c, z, h1, h2, hq⟩
    · exact .inr (.inl ⟨i, j, h1, h2, hq⟩)
    · exact .inr (.inr (.inl ⟨q, xs, h1, h2, h3, h4, hq⟩))
    · exact .inr (.inr (.inr (.inl ⟨d, ds, h1, h2, h3, h4, hq⟩)))
    · exact .inr (.inr (.inr (.inr (.inl ⟨d, ds, h1, h2, h3, h4, hq⟩))))
    · exact .inr (.inr (.inr (.inr (.inr ⟨a, o, h1, h2, hq⟩))))
  · exact h.elim
end
def mCmp (op : D → D → Hs → R D) (f g : M) : MB := fun l S => (f l S).bind fun x S1 => (g l S1).bind fun y S2 => (op x y S2).bind fun d S3 => match d with
  | .bl b => .ok b S3
  | _ => .bad
section
variable {X : Cx} {E : St → XK} {a b : Expr} {f g : M} {pos : Pos} {r : R2} {op : D → D → Hs → R D} {o : CmpOp}
theorem e_cmp (ho : OpR X (compareOp o) r) (hk : OpOk X.K E r op) (ha : EM X E a f) (hb : EM X E b g) (h1 : behindInMarks o b = false) : EM X E (.Compare a [o] [b] pos) (mBin op f g) :=
  ⟨(pe_cmpR ho ha.pe hb.pe h1).weak fun s H Q ⟨p, l, S, R, L, h⟩ => T.of R L h fun p1 S1 H1 d v R1 x1 L1 r1 h1 => T.of R1 L1 h1 fun p2 S2 H2 d2 v2 R2 x2 L2 r2 h2 => hk p2 S2 H2 _ _ _ _ Q R2 (r1.ext x2 _ _) r2 h2⟩
theorem OpOk.test (hk : OpOk X.K E r op) {p : Nat → Addr} {S : Hs} {H : Hp} {x y : D} {v u : V} {Q : Bool → Hp → Prop} (R : Real X.K p S H) (rx : Rep X.K p S.length H x v) (ry : Rep X.K p S.length H y u)
    (h : Post X.K E S.length p H ((op x y S).bind fun d S3 => match d with | .bl b => Ly.R.ok b S3 | _ => Ly.R.bad) (QB Q)) : r v u H fun x H' => ∃ k, x = .bl k ∧ Q k H' := by
  refine hk p S H x y v u _ R rx ry (h.bind.mono fun d S3 p3 H3 _ x3 R3 q w rw' => ?_)
  cases rw' with
  | bl b => exact ⟨b, rfl, Post.ok (Q := QB Q) q Ext.refl R3⟩
  | _ => exact q.elim
theorem b_cmp (ho : OpR X (compareOp o) r) (hk : OpOk X.K E r op) (ha : EM X E a f) (hb : EM X E b g) (h1 : behindInMarks o b = false) : BM X E (.Compare a [o] [b] pos) (mCmp op f g) :=
  ⟨(pt_cmpR ho ha.pe hb.pe h1).weak fun s H Q ⟨p, l, S, R, L, h⟩ => T.of R L h fun p1 S1 H1 d v R1 x1 L1 r1 h1 => T.of R1 L1 h1 fun p2 S2 H2 d2 v2 R2 x2 L2 r2 h2 => hk.test R2 (r1.ext x2 _ _) r2 h2⟩
end
end Ly
set_option Elab.async false
set_option linter.all false
set_option maxRecDepth 100000
namespace Ly
open PySem PySem.Spec L2
open PyProof.Rows hiding St
def lNil : ML := fun _ S => .ok [] S
def lCons (f : M) (g : ML) : ML := fun l S => (f l S).bind fun x S1 => (g l S1).bind fun xs S2 => .ok (x :: xs) S2
section
variable {X : Cx} {E : St → XK} {e : Expr} {es : List Expr} {f : M} {g : ML} {pos : Pos}
theorem l_nil : LM X E [] lNil := ⟨pa_nil.weak fun s H Q ⟨p, l, S, R, L, h⟩ => Post.ok h Ext.refl R _ .nil⟩
theorem l_cons (ha : EM X E e f) (hb : LM X E es g) (hs : starEach (e :: es) X.env = (false, eval e X.env) :: starEach es X.env := by rfl) : LM X E (e :: es) (lCons f g) :=
  ⟨(pa_cons ha.pe hb.pa hs).weak fun s H Q ⟨p, l, S, R, L, h⟩ => T.of R L h fun p1 S1 H1 d v R1 x1 L1 r1 h1 => TL.of R1 L1 h1 fun p2 S2 H2 d2 v2 R2 x2 L2 r2 h2 => Post.ok h2 Ext.refl R2 _ (.cons (r1.ext x2 _ _) r2)⟩
def tru (x : D) (S : Hs) : Option Bool := match x with
  | .non => some false
  | .bl b => some b
  | .int i => some (i != 0)
  | .str x => if x.length ≤ sizeLine then some ((x.length : Int) != 0) else none
  | .tup xs => some (!xs.isEmpty)
  | .wt xs => some (!xs.isEmpty)
  | .ref i => match S[i]? with
    | some (.lst xs) => some (!xs.isEmpty)
    | some (.rol xs) => some (!xs.isEmpty)
    | some (.dic xs) => some (!xs.isEmpty)
    | _ => none
  | .wl xs => some (!xs.isEmpty)
  | .cst _ => none
def oTru (x : D) (S : Hs) : R Bool := match tru x S with
  | some b => .ok b S
  | none => .bad
def oNot (x : D) (S : Hs) : R D := match tru x S with
  | some b => .ok (.bl (!b)) S
  | none => .bad
theorem empty_len {α β : Type} {xs : List α} {ys : List β} (h : xs.length = ys.length) : xs.isEmpty = ys.isEmpty := by cases xs <;> cases ys <;> first | rfl | simp at h
theorem tru_V {K : PySem.W.Frag} {p : Nat → Addr} {S : Hs} {H : Hp} {x : D} {v : V} {b : Bool} (R : Real K p S H) (rx : Rep K p S.length H x v) (h : tru x S = some b) : TruV K v H b := by
  unfold tru at h
  cases rx with
  | non => cases h; rfl
  | bl b => cases h; rfl
  | int i => cases h; rfl
  | str x => simp only at h; split at h <;> cases h; exact ⟨by assumption, rfl⟩
  | tup t r => cases h; exact .inr (.inl ⟨_, SqT.of t, by rw [empty_len r.len]⟩)
  | wt t r => cases h; exact .inr (.inl ⟨_, t.sq, by rw [empty_len r.len]⟩)
  | wl t r => cases h; exact .inl ⟨_, t.sq, by rw [empty_len r.len]⟩
  | ref hi =>
    simp only at h
    split at h
    · rename_i q
      obtain ⟨vs, h1, r⟩ := R.lst q
      cases h; exact .inl ⟨_, SqL.of h1, by rw [empty_len r.len]⟩
    · rename_i q
      obtain ⟨o, vs, h1, r⟩ := R.ob _ _ q
      cases h; exact .inl ⟨_, .inl (.inr ⟨o, h1⟩), by rw [empty_len r.len]⟩
    · rename_i q
      obtain ⟨ks, h1, h2, h3⟩ := R.ob _ _ q
      cases h; exact .inr (.inr ⟨_, h1, by rw [empty_len (show ks.length = _ from by simpa using congrArg List.length h2)]⟩)
    · cases h
  | cst a => cases h
def mTru (f : M) : MB := fun l S => (f l S).bind oTru
theorem oTru_of {K : PySem.W.Frag} {p : Nat → Addr} {S : Hs} {H : Hp} {x : D} {v : V} {Q : Bool → Hp → Prop} (R : Real K p S H) (rx : Rep K p S.length H x v) (h : Post K E S.length p H (oTru x S) (QB Q)) : ∃ k, TruV K v H k ∧ Q k H := by
  unfold oTru at h
  split at h
  · rename_i b e; exact ⟨b, tru_V R rx e, Post.ok (Q := QB Q) h Ext.refl R⟩
  · exact h.elim
theorem b_tru {a : Expr} (ha : EM X E a f) (he : ∀ whole, isTrue a X.env whole = (do let v ← whole; standAt a.pos; holding [v] (truthy v)) := by intro _; rfl) : BM X E a (mTru f) :=
  ⟨(pt_truth ha.pe he).weak fun s H Q ⟨p, l, S, R, L, h⟩ => T.of R L h fun p1 S1 H1 d v R1 x1 L1 r1 h1 => oTru_of R1 r1 h1⟩
def mNotB (f : MB) : MB := fun l S => (f l S).bind fun b S1 => .ok (!b) S1
def mAndB (f g : MB) : MB := fun l S => (f l S).bind fun b S1 => if b = true then g l S1 else .ok false S1
def mOrB (f g : MB) : MB := fun l S => (f l S).bind fun b S1 => if b = true then .ok true S1 else g l S1
theorem TB.last {K : PySem.W.Frag} {s : St} {H : Hp} {f : MB} {p : Nat → Addr} {l : Ls} {S : Hs} {Q : Bool → Hp → Prop} (R : Real K p S H) (L : Sl K p S.length H l s) (h : Post K E S.length p H (f l S) (QB Q)) : TB K E f s H Q := ⟨p, l, S, R, L, h⟩
variable {a b : Expr} {rest : List Expr} {fb gb : MB}
theorem b_not (ha : BM X E a fb) : BM X E (.UnaryOp .Not a pos) (mNotB fb) :=
  ⟨(pt_not ha.pt).weak fun s H Q ⟨p, l, S, R, L, h⟩ => TB.of R L h fun p1 S1 H1 b R1 x1 L1 h1 => Post.ok (Q := QB Q) h1 Ext.refl R1⟩
theorem w_and1 (ha : BM X E a fb) : BW X E (.BoolOp .And [a] pos) fb := ⟨pw_and1 ha.pt⟩
theorem w_or1 (ha : BM X E a fb) : BW X E (.BoolOp .Or [a] pos) fb := ⟨pw_or1 ha.pt⟩
theorem w_and (ha : BM X E a fb) (hb : BW X E (.BoolOp .And (b :: rest) pos) gb) : BW X E (.BoolOp .And (a :: b :: rest) pos) (mAndB fb gb) :=
  ⟨(pw_and ha.pt hb.pw).weak fun s H Q ⟨p, l, S, R, L, h⟩ => TB.of R L h fun p1 S1 H1 b R1 x1 L1 h1 => by
    cases b with
    | true => exact TB.last R1 L1 h1
    | false => exact Post.ok (Q := QB Q) h1 Ext.refl R1⟩
theorem w_or (ha : BM X E a fb) (hb : BW X E (.BoolOp .Or (b :: rest) pos) gb) : BW X E (.BoolOp .Or (a :: b :: rest) pos) (mOrB fb gb) :=
  ⟨(pw_or ha.pt hb.pw).weak fun s H Q ⟨p, l, S, R, L, h⟩ => TB.of R L h fun p1 S1 H1 b R1 x1 L1 h1 => by
    cases b with
    | false => exact TB.last R1 L1 h1
    | true => exact Post.ok (Q := QB Q) h1 Ext.refl R1⟩
theorem b_of {e : Expr} (h : BW X E e fb) : BM X E e fb := ⟨h.pw.pt⟩
def mAnd (f g : M) : M := fun l S => (f l S).bind fun x S1 => (oTru x S1).bind fun b S2 => if b = true then g l S2 else .ok x S2
def mOr (f g : M) : M := fun l S => (f l S).bind fun x S1 => (oTru x S1).bind fun b S2 => if b = true then .ok x S2 else g l S2
def mIf (c : MB) (f g : M) : M := fun l S => (c l S).bind fun b S1 => if b = true then f l S1 else g l S1
variable {h' : M} {t : List Expr}
theorem oTru_bind {β : Type} {K : PySem.W.Frag} {p : Nat → Addr} {S : Hs} {H : Hp} {x : D} {v : V} {k : Bool → Hs → R β} {QQ : β → Hs → (Nat → Addr) → Hp → Prop} (R : Real K p S H) (rx : Rep K p S.length H x v)
    (h : Post K E S.length p H ((oTru x S).bind k) QQ) : ∃ b, TruV K v H b ∧ Post K E S.length p H (k b S) QQ := by
  unfold oTru at h
  split at h
  · rename_i b e; exact ⟨b, tru_V R rx e, h⟩
  · exact h.elim
theorem e_one {op : BoolOp} (ha : EM X E a f) : EM X E (.BoolOp op [a] pos) f := ⟨pe_one ha.pe⟩
theorem e_and {g : M} (ha : EM X E a f) (hb : EM X E (.BoolOp .And (b :: rest) pos) g) : EM X E (.BoolOp .And (a :: b :: rest) pos) (mAnd f g) :=
  ⟨(pe_andT ha.pe hb.pe).weak fun s H Q ⟨p, l, S, R, L, h⟩ => T.of R L h fun p1 S1 H1 d v R1 x1 L1 r1 h1 => by
    obtain ⟨k, hk, h2⟩ := oTru_bind R1 r1 h1
    refine ⟨k, hk, ?_⟩
    cases k with
    | true => exact T.last R1 L1 h2
    | false => exact Post.val h2 R1 r1⟩
theorem e_not (ha : EM X E a f) : EM X E (.UnaryOp .Not a pos) (mUn oNot f) :=
  ⟨(pe_notT ha.pe).weak fun s H Q ⟨p, l, S, R, L, h⟩ => T.of R L h fun p1 S1 H1 d v R1 x1 L1 r1 h1 => by
    unfold oNot at h1
    split at h1
    · rename_i b e; exact ⟨b, tru_V R1 r1 e, h1.val R1 (.bl _)⟩
    · exact h1.elim⟩
theorem e_if {c : Expr} {g : M} (hc : BM X E c fb) (ha : EM X E a f) (hb : EM X E b g) : EM X E (.IfExp c a b pos) (mIf fb f g) :=
  ⟨(pe_ifExp hc.pt ha.pe hb.pe).weak fun s H Q ⟨p, l, S, R, L, h⟩ => TB.of R L h fun p1 S1 H1 b R1 x1 L1 h1 => by
    cases b with
    | true => exact T.last R1 L1 h1
    | false => exact T.last R1 L1 h1⟩
end
def oIx (x y : D) (S : Hs) : R D := match x, y with
  | .str z, .int i => if z.length ≤ sizeLine then (match atI z.cps.toList i with
    | some c => .ok (.str ⟨#[c]⟩) S
    | none => .bad) else .bad
  | .tup xs, .int i => match atI xs i with
    | some d => .ok d S
    | none => .bad
  | .wt xs, .int i => match atI xs i with
    | some d => .ok d S
    | none => .bad
  | .wl xs, .int i => match atI xs i with
    | some d => .ok d S
    | none => .bad
  | .ref j, y => match S[j]? with
    | some (.lst xs) => (match y with
      | .int i => (match atI xs i with
        | some d => .ok d S
        | none => .bad)
      | _ => .bad)
    | some (.rol xs) => (match y with
      | .int i => (match atI xs i with
        | some d => .ok d S
        | none => .bad)
      | _ => .bad)
    | some (.dic _) => (match dGet x y S with
      | some (some d) => .ok d S
      | _ => .bad)
    | some (.dit _) => (match dGet x y S with
      | some (some d) => .ok d S
      | _ => .bad)
    | _ => .bad
  | _, _ => .bad
abbrev rIxDic : R2 := fun x y H Q => ∃ a v, x = .ref a ∧ DGet H a y (some v) ∧ Q v H
theorem ix_dic {X : Cx} (hu : X.A.units + 1 < cLine) : IxR X rIxDic := by
  intro value slice pins s σ H x y v u Q I rx ry h hs
  obtain ⟨a, w, rfl, g, q⟩ := h
  obtain rfl : v = Value.ref a := rx
  exact tail_any (dict_typeIs I g) PySem.F.slot_dict_getitem.lookup (d_getItem hu I g ry fun w' s3 I3 rw' => ⟨w, H, I3, rw', q⟩) hs
abbrev rIxAll (K : PySem.W.Frag) : R2 := orR rIxS (orR (rIxL K) (orR (rIxT K) rIxDic))
theorem ix_all {X : Cx} (hu : X.A.units + 1 < cLine) : IxR X (rIxAll X.K) := IxR.or ix_str (IxR.or ix_list (IxR.or ix_tup (ix_dic hu)))
section
variable {K : PySem.W.Frag} {E : St → XK} {p : Nat → Addr} {S : Hs} {H : Hp} {n : Nat} {pi : Nat → Addr}
theorem Reps.atI {ds : List D} {vs : List V} (h : Reps K pi n H ds vs) {i : Int} {d : D} (e : atI ds i = some d) : ∃ v, L2.atI vs i = some v ∧ Rep K pi n H d v := by
  unfold L2.atI at e ⊢
  rw [← h.len]
  cases q : ixN ds.length i with
  | none => rw [q] at e; cases e
  | some j =>
    rw [q] at e
    exact h.get e
theorem ok_ix : OpOk K E (rIxAll K) oIx := by
  intro p S H x y v u Q R rx ry h
  unfold oIx at h
  split at h
  · split at h
    · rename_i hl
      split at h
      · rename_i c e; cases rx; cases ry; exact .inl ⟨_, _, c, rfl, rfl, hl, e, h.val R (.str _)⟩
      · exact h.elim
    · exact h.elim
  · split at h
    · rename_i d e
      cases ry
      cases rx with
      | tup t r =>
      obtain ⟨w, e2, r2⟩ := r.atI e
      exact .inr (.inr (.inl ⟨_, _, _, w, rfl, rfl, SqT.of t, e2, h.val R r2⟩))
    · exact h.elim
  · split at h
    · rename_i d e
      cases ry
      cases rx with
      | wt t r =>
      obtain ⟨w, e2, r2⟩ := r.atI e
      exact .inr (.inr (.inl ⟨_, _, _, w, rfl, rfl, t.sq, e2, h.val R r2⟩))
    · exact h.elim
  · split at h
    · rename_i d e
      cases ry
      cases rx with
      | wl t r =>
      obtain ⟨w, e2, r2⟩ := r.atI e
      exact .inr (.inl ⟨_, _, _, w, rfl, rfl, t.sq, e2, h.val R r2⟩)
    · exact h.elim
  · split at h
    · rename_i q
      split at h
      · split at h
        · rename_i d e
          obtain ⟨vs, h1, r⟩ := R.lst q
          obtain ⟨w, e2, r2⟩ := r.atI e
          cases rx; cases ry
          exact .inr (.inl ⟨_, _, _, w, rfl, rfl, SqL.of h1, e2, h.val R r2⟩)
        · exact h.elim
      · exact h.elim
    · rename_i q
      split at h
      · split at h
        · rename_i d e
          obtain ⟨o, vs, h1, r⟩ := R.ob _ _ q
          obtain ⟨w, e2, r2⟩ := r.atI e
          cases rx; cases ry
          exact .inr (.inl ⟨_, _, _, w, rfl, rfl, .inl (.inr ⟨o, h1⟩), e2, h.val R r2⟩)
        · exact h.elim
      · exact h.elim
    · split at h
      · rename_i d e
        obtain ⟨a, w, e1, g, m⟩ := dGet_V R rx ry e
        obtain ⟨z, e3, r3⟩ := m
        subst e3
        exact .inr (.inr (.inr ⟨a, z, e1, g, h.val R r3⟩))
      · exact h.elim
    · split at h
      · rename_i d e
        obtain ⟨a, w, e1, g, m⟩ := dGet_V R rx ry e
        obtain ⟨z, e3, r3⟩ := m
        subst e3
        exact .inr (.inr (.inr ⟨a, z, e1, g, h.val R r3⟩))
      · exact h.elim
    · exact h.elim
  · exact h.elim
end
abbrev MO := Ls → Hs → R (Option Int)
def oNo : MO := fun _ S => .ok none S
def oSome (f : M) : MO := fun l S => (f l S).bind fun d S1 => match d with
  | .int i => .ok (some i) S1
  | _ => .bad
def cutD (xs : List D) (lo hi : Option Int) : List D := (xs.drop (HT.sIx xs.length 0 lo)).take (HT.sIx xs.length xs.length hi - HT.sIx xs.length 0 lo)
def oSl (x : D) (lo hi : Option Int) (S : Hs) : R D := match x with
  | .str z => if z.length ≤ sizeLine then .ok (.str (cutS z lo hi)) S else .bad
  | .tup xs => .ok (.tup (cutD xs lo hi)) S
  | .ref i => match S[i]? with
    | some (.lst xs) => .ok (.ref S.length) (S ++ [.lst (cutD xs lo hi)])
    | some (.rol xs) => .ok (.ref S.length) (S ++ [.lst (cutD xs lo hi)])
    | _ => .bad
  | _ => .bad
def mSl (f : M) (lo hi : MO) : M := fun l S => (f l S).bind fun x S1 => (lo l S1).bind fun a S2 => (hi l S2).bind fun b S3 => oSl x a b S3
def TO' (K : PySem.W.Frag) (E : St → XK) (f : MO) : TO := fun s H Q => ∃ p l S, Real K p S H ∧ Sl K p S.length H l s ∧ Post K E S.length p H (f l S) (fun d _ _ H => Q d H)
structure OM (X : Cx) (E : St → XK) (e : Option Expr) (f : MO) : Prop where po : PO X e (TO' X.K E f)
section
variable {X : Cx} {E : St → XK} {e a b : Expr} {f g : M} {pos p2 : Pos} {lo hi : Option Expr} {fl fh : MO}
theorem _root_.L2.PO.weak {X : Cx} {e : Option Expr} {t t' : TO} (h : PO X e t) (w : ∀ s H Q, t' s H Q → t s H Q) : PO X e t' := ⟨fun pins s σ H Q I q => h.run pins s σ H Q I (w σ H Q q)⟩
theorem o_no : OM X E none oNo := ⟨po_none.weak fun s H Q ⟨p, l, S, R, L, h⟩ => Post.ok (Q := fun d _ _ H => Q d H) h Ext.refl R⟩
theorem o_some (ha : EM X E a f) : OM X E (some a) (oSome f) := ⟨(po_some ha.pe).weak fun s H Q ⟨p, l, S, R, L, h⟩ => T.of R L h fun p1 S1 H1 d v R1 x1 L1 r1 h1 => by
  split at h1
  · cases r1; exact ⟨_, rfl, Post.ok (Q := fun d _ _ H => Q d H) h1 Ext.refl R1⟩
  · exact h1.elim⟩
theorem OM.of {K : PySem.W.Frag} {s : St} {H : Hp} {β : Type} {QQ : β → Hs → (Nat → Addr) → Hp → Prop} {f : MO} {k : Option Int → Hs → R β} {p : Nat → Addr} {l : Ls} {S : Hs} {Q' : Option Int → Hp → Prop} (R : Real K p S H) (L : Sl K p S.length H l s) (h : Post K E S.length p H ((f l S).bind k) QQ)
    (st : ∀ p1 S1 H1 b, Real K p1 S1 H1 → Ext S.length S1.length p p1 H H1 → Sl K p1 S1.length H1 l s → Post K E S1.length p1 H1 (k b S1) QQ → Q' b H1) : TO' K E f s H Q' :=
  ⟨p, l, S, R, L, h.bind.mono fun a S1 p1 H1 _ x R1 q => st p1 S1 H1 a R1 x (L.ext x) q⟩
theorem Reps.cut {K : PySem.W.Frag} {pi : Nat → Addr} {n : Nat} {H : Hp} {ds : List D} {vs : List V} (h : Reps K pi n H ds vs) (a b : Option Int) : Reps K pi n H (cutD ds a b) (cutV vs a b) := by
  unfold cutD cutV
  rw [← h.len]
  exact (h.drop _).take _
theorem cut_whole {vs : List V} {a b : Option Int} (h : HT.sIx vs.length 0 a = 0 ∧ HT.sIx vs.length vs.length b = vs.length) : cutV vs a b = vs := by
  unfold cutV
  rw [h.1, h.2, List.drop_zero, Nat.sub_zero, List.take_length]
theorem e_slice (ha : EM X E a f) (hl : OM X E lo fl) (hu : OM X E hi fh) : EM X E (.Subscript a (.Slice lo hi none p2) pos) (mSl f fl fh) :=
  ⟨(pe_slice (SlR.or sl_str (SlR.or sl_list sl_tupA)) ha.pe hl.po hu.po).weak fun s H Q ⟨p, l, S, R, L, h⟩ => T.of R L h fun p1 S1 H1 d v R1 x1 L1 r1 h1 => OM.of R1 L1 h1 fun p2 S2 H2 ba R2 x2 L2 h2 => OM.of R2 L2 h2 fun p3 S3 H3 bb R3 x3 L3 h3 => by
    have r3 := r1.ext (x2.trans x3) _ _
    unfold oSl at h3
    split at h3
    · split at h3
      · rename_i hl; cases r3; exact .inl ⟨_, rfl, hl, h3.val R3 (.str _)⟩
      · exact h3.elim
    · cases r3 with
      | @tup q _ vs t r =>
      refine .inr (.inr ⟨q, vs, rfl, SqT.of t, fun w => ?_, fun _ z hz => h3.valT R3 (r.cut ba bb) hz⟩)
      have := r.cut ba bb
      rw [cut_whole w] at this
      exact h3.val R3 (.tup t this)
    · split at h3
      · rename_i q
        obtain ⟨vs, e1, r⟩ := R3.lst q
        cases r3
        exact .inr (.inl ⟨_, vs, rfl, SqL.of e1, fun z hz => h3.newL R3 (r.cut ba bb) hz⟩)
      · rename_i q
        obtain ⟨o, vs, e1, r⟩ := R3.ob _ _ q
        cases r3
        exact .inr (.inl ⟨_, vs, rfl, .inl (.inr ⟨o, e1⟩), fun z hz => h3.newL R3 (r.cut ba bb) hz⟩)
      · exact h3.elim
    · exact h3.elim⟩
theorem e_ix (hu : X.A.units + 1 < cLine) (ha : EM X E a f) (hb : EM X E b g) (hs : PlainIx b := by intro _ _; rfl) : EM X E (.Subscript a b pos) (mBin oIx f g) :=
  ⟨(pe_ix (ix_all hu) ha.pe hb.pe hs).weak fun s H Q ⟨p, l, S, R, L, h⟩ => T.of R L h fun p1 S1 H1 d v R1 x1 L1 r1 h1 => T.of R1 L1 h1 fun p2 S2 H2 d2 v2 R2 x2 L2 r2 h2 => ok_ix p2 S2 H2 _ _ _ _ Q R2 (r1.ext x2 _ _) r2 h2⟩
def mTup (f : ML) : M := fun l S => (f l S).bind fun ds S1 => if ds.length ≤ sizeLine then .ok (.tup ds) S1 else .bad
def mLst (f : ML) : M := fun l S => (f l S).bind fun ds S1 => if ds.length ≤ sizeLine then .ok (.ref S1.length) (S1 ++ [.lst ds]) else .bad
theorem e_tup {es : List Expr} {fl : ML} {x1 : Nat} (h : LM X E es fl) : EM X E (.Tuple es x1 pos) (mTup fl) :=
  ⟨(pe_tup h.pa).weak fun s H Q ⟨p, l, S, R, L, h⟩ => TL.of R L h fun p1 S1 H1 d v R1 x1 L1 r1 h1 => by
    split at h1
    · rename_i hl; exact ⟨by rw [← r1.len]; exact hl, fun q hq => h1.valT R1 r1 hq⟩
    · exact h1.elim⟩
theorem e_lst {es : List Expr} {fl : ML} (h : LM X E es fl) : EM X E (.List es pos) (mLst fl) :=
  ⟨(pe_lst h.pa).weak fun s H Q ⟨p, l, S, R, L, h⟩ => TL.of R L h fun p1 S1 H1 d v R1 x1 L1 r1 h1 => by
    split at h1
    · rename_i hl; exact ⟨by rw [← r1.len]; exact hl, fun q hq => h1.newL R1 r1 hq⟩
    · exact h1.elim⟩
def mDicK : M := fun _ S => .ok (.ref S.length) (S ++ [.dic []])
def mDicT : M := fun _ S => .ok (.ref S.length) (S ++ [.dit []])
theorem e_dicK : EM X E (.Dict [] [] pos) mDicK := ⟨pe_dnewK.weak fun s H Q ⟨p, l, S, R, L, h⟩ q hq => Post.new h R hq ⟨[], upd_same, rfl, .nil⟩⟩
end
end Ly
set_option Elab.async false
set_option linter.all false
set_option maxRecDepth 100000
namespace Ly
open PySem PySem.Spec L2
open PyProof.Rows hiding St
def mCall (op : List D → Hs → R D) (f : ML) : M := fun l S => (f l S).bind op
def CallOk (K : PySem.W.Frag) (E : St → XK) (r : List V → Hp → VK → Prop) (op : List D → Hs → R D) : Prop :=
  ∀ p S H ds vs Q, Real K p S H → Reps K p S.length H ds vs → Post K E S.length p H (op ds S) (QD K Q) → r vs H Q
abbrev orC (r r' : List V → Hp → VK → Prop) : List V → Hp → VK → Prop := fun xs H Q => r xs H Q ∨ r' xs H Q
section
variable {X : Cx} {E : St → XK} {e : Expr} {es : List Expr} {f : ML} {x : Str} {p pos : Pos} {id T : String} {r : List V → Hp → VK → Prop} {op : List D → Hs → R D}
theorem e_callB (hc : CallR X (.builtin id) r) (hk : CallOk X.K E r op) (hg : Gl X x) (hm : X.mg x = none) (hv : bootBuiltins x = some (.builtin id)) (ha : LM X E (e :: es) f) (hn : x ≠ "__name__" := by decide) (hdb : (x == ("__debug__" : Str)) = false := by decide)
    (he : starEach (e :: es) X.env = (false, eval e X.env) :: starEach es X.env := by rfl) (hpl : (backTo pos (starEach es X.env)).any (·.1) = false := by rfl) : EM X E (.Call (.Name x p) (e :: es) [] pos) (mCall op f) :=
  ⟨(pe_callB hc hg hm hv ha.pa hn hdb he hpl).weak fun s H Q ⟨p, l, S, R, L, h⟩ => TL.of R L h fun p1 S1 H1 d v R1 x1 L1 r1 h1 => hk p1 S1 H1 _ _ Q R1 r1 h1⟩
theorem e_callT (hc : CallR X (.type T) r) (hk : CallOk X.K E r op) (hg : Gl X x) (hm : X.mg x = none) (hv : bootBuiltins x = some (.type T)) (ha : LM X E (e :: es) f) (hn : x ≠ "__name__" := by decide) (hdb : (x == ("__debug__" : Str)) = false := by decide)
    (he : starEach (e :: es) X.env = (false, eval e X.env) :: starEach es X.env := by rfl) (hpl : (backTo pos (starEach es X.env)).any (·.1) = false := by rfl) : EM X E (.Call (.Name x p) (e :: es) [] pos) (mCall op f) :=
  ⟨(pe_callTy hc hg hm hv ha.pa hn hdb he hpl).weak fun s H Q ⟨p, l, S, R, L, h⟩ => TL.of R L h fun p1 S1 H1 d v R1 x1 L1 r1 h1 => hk p1 S1 H1 _ _ Q R1 r1 h1⟩
end
def lenD (x : D) (S : Hs) : Option Nat := match x with
  | .str y => if y.length ≤ sizeLine then some y.length else none
  | .tup xs => some xs.length
  | .wt xs => some xs.length
  | .wl xs => some xs.length
  | .ref i => match S[i]? with
    | some (.lst xs) => some xs.length
    | some (.rol xs) => some xs.length
    | some (.dic xs) => some xs.length
    | _ => none
  | _ => none
def bLen : List D → Hs → R D
  | [x], S => match lenD x S with
    | some n => .ok (.int (n : Int)) S
    | none => .bad
  | _, _ => .bad
def bInt : List D → Hs → R D
  | [.int i], S => .ok (.int i) S
  | [.bl b], S => .ok (.int (b2i b)) S
  | [.str x], S => match intText? x with
    | some n => if x.length ≤ 640 then .ok (.int n) S else .bad
    | none => .bad
  | _, _ => .bad
def bAbs : List D → Hs → R D
  | [.int i], S => .ok (.int (if i < 0 then -i else i)) S
  | _, _ => .bad
def intsD : List D → Option (List Int)
  | [] => some []
  | .int i :: r => (intsD r).map (i :: ·)
  | _ => none
def seqD (x : D) (S : Hs) : Option (List D) := match x with
  | .ref i => match S[i]? with
    | some (.lst xs) => some xs
    | some (.rol xs) => some xs
    | _ => none
  | .wl xs => some xs
  | _ => none
def bTuple : List D → Hs → R D
  | [.tup xs], S => .ok (.tup xs) S
  | [.wt xs], S => .ok (.wt xs) S
  | [.ref i], S => match seqD (.ref i) S with
    | some xs => .ok (.tup xs) S
    | none => .bad
  | _, _ => .bad
def keyD : Key → D
  | .inl i => .int i
  | .inr x => .str x
def bList : List D → Hs → R D
  | [.tup xs], S => .ok (.ref S.length) (S ++ [.lst xs])
  | [.wt xs], S => .ok (.ref S.length) (S ++ [.lst xs])
  | [.ref i], S => match S[i]? with
    | some (.lst xs) => .ok (.ref S.length) (S ++ [.lst xs])
    | some (.rol xs) => .ok (.ref S.length) (S ++ [.lst xs])
    | some (.dic kvs) => .ok (.ref S.length) (S ++ [.lst (kvs.map fun kv => keyD kv.1)])
    | _ => .bad
  | _, _ => .bad
section
variable {K : PySem.W.Frag} {E : St → XK} {X : Cx}
abbrev rLenAll (K : PySem.W.Frag) : List V → Hp → VK → Prop := orC (fun xs H Q => ∃ x n, xs = [x] ∧ LenV K x H n ∧ Q (V.int ((n : Nat) : Int)) H) (fun xs H Q => ∃ a kvs, xs = [V.ref a] ∧ H a = some (.dK kvs) ∧ Q (V.int ((kvs.length : Nat) : Int)) H)
theorem cr_lenA : CallR X (.builtin "len") (rLenAll X.K) := CallR.or call_len call_lenD
theorem ok_len : CallOk K E (rLenAll K) bLen := by
  intro p S H ds vs Q R r h
  unfold bLen at h
  split at h
  · cases r with
    | cons r0 rs =>
    cases rs
    split at h
    · rename_i n e
      have hq : Q (V.int ((n : Nat) : Int)) H := h.val R (.int _)
      unfold lenD at e
      split at e
      · split at e
        · cases e; cases r0; exact .inl ⟨_, _, rfl, ⟨by assumption, rfl⟩, hq⟩
        · cases e
      · cases e
        cases r0 with
        | tup t r => exact .inl ⟨_, _, rfl, .inr ⟨_, SqT.of t, r.len⟩, hq⟩
      · cases e
        cases r0 with
        | wt t r => exact .inl ⟨_, _, rfl, .inr ⟨_, t.sq, r.len⟩, hq⟩
      · cases e
        cases r0 with
        | wl t r => exact .inl ⟨_, _, rfl, .inl ⟨_, t.sq, r.len⟩, hq⟩
      · split at e
        · rename_i q
          obtain ⟨vs, h1, r⟩ := R.lst q
          cases e; cases r0; exact .inl ⟨_, _, rfl, .inl ⟨_, SqL.of h1, r.len⟩, hq⟩
        · rename_i q
          obtain ⟨o, vs, h1, r⟩ := R.ob _ _ q
          cases e; cases r0; exact .inl ⟨_, _, rfl, .inl ⟨_, .inl (.inr ⟨o, h1⟩), r.len⟩, hq⟩
        · rename_i zs q
          obtain ⟨ks, h1, h2, h3⟩ := R.ob _ _ q
          cases e; cases r0
          have hl : ks.length = zs.length := by simpa using congrArg List.length h2
          exact .inr ⟨_, _, rfl, h1, by rw [hl]; exact hq⟩
        · cases e
      · cases e
    · exact h.elim
  · exact h.elim
abbrev rIntAll : List V → Hp → VK → Prop := orC (fun xs H Q => (∃ i, xs = [.int i] ∧ Q (.int i) H) ∨ ∃ k, xs = [.bl k] ∧ Q (.int (b2i k)) H) (fun xs H Q => ∃ a n, xs = [V.str a] ∧ intText? a = some n ∧ a.length ≤ 640 ∧ Q (V.int n) H)
theorem cr_intA : CallR X (.type "int") rIntAll := CallR.or call_int1 call_int_str
theorem ok_int : CallOk K E rIntAll bInt := by
  intro p S H ds vs Q R r h
  unfold bInt at h
  split at h
  · cases r with
    | cons r0 rs => cases rs; cases r0; exact .inl (.inl ⟨_, rfl, h.val R (.int _)⟩)
  · cases r with
    | cons r0 rs => cases rs; cases r0; exact .inl (.inr ⟨_, rfl, h.val R (.int _)⟩)
  · cases r with
    | cons r0 rs =>
    cases rs; cases r0
    split at h
    · rename_i n e
      split at h
      · rename_i hl; exact .inr ⟨_, _, rfl, e, hl, h.val R (.int _)⟩
      · exact h.elim
    · exact h.elim
  · exact h.elim
theorem ok_abs : CallOk K E (fun xs H Q => ∃ i, xs = [.int i] ∧ Q (.int (if i < 0 then -i else i)) H) bAbs := by
  intro p S H ds vs Q R r h
  unfold bAbs at h
  split at h
  · cases r with
    | cons r0 rs => cases rs; cases r0; exact ⟨_, rfl, h.val R (.int _)⟩
  · exact h.elim
theorem ints_V {pi : Nat → Addr} {n : Nat} {H : Hp} {ds : List D} {vs : List V} {ns : List Int} (r : Reps K pi n H ds vs) (h : intsD ds = some ns) : vs = ns.map V.int := by
  induction ds generalizing vs ns with
  | nil => cases r; simp [intsD] at h; subst h; rfl
  | cons d ds ih =>
    cases r with
    | cons r s =>
      cases r <;> simp [intsD] at h
      obtain ⟨ms, h1, rfl⟩ := h
      rw [ih s h1]; rfl
theorem seq_V {p : Nat → Addr} {S : Hs} {H : Hp} {x : D} {v : V} {ds : List D} (R : Real K p S H) (r : Rep K p S.length H x v) (h : seqD x S = some ds) : ∃ a vs, v = .ref a ∧ SqL K H a vs ∧ Reps K p S.length H ds vs := by
  unfold seqD at h
  split at h
  · split at h
    · rename_i q
      cases h; cases r
      obtain ⟨vs, h1, r⟩ := R.lst q
      exact ⟨_, vs, rfl, SqL.of h1, r⟩
    · rename_i q
      cases h; cases r
      obtain ⟨o, vs, h1, r⟩ := R.ob _ _ q
      exact ⟨_, vs, rfl, .inl (.inr ⟨o, h1⟩), r⟩
    · cases h
  · cases h
    cases r with
    | wl t r => exact ⟨_, _, rfl, t.sq, r⟩
  · cases h
abbrev rTupleOf (K : PySem.W.Frag) : List V → Hp → VK → Prop := fun xs H Q => ∃ p ys, xs = [V.ref p] ∧ ((SqL K H p ys ∧ ∀ l, H l = none → Q (V.ref l) (upd H l (.tup ys))) ∨ SqT K H p ys ∧ Q (V.ref p) H)
theorem ok_tuple : CallOk K E (rTupleOf K) bTuple := by
  intro p S H ds vs Q R r h
  unfold bTuple at h
  split at h
  · cases r with
    | cons r0 rs =>
    cases rs
    cases r0 with
    | tup t r => exact ⟨_, _, rfl, .inr ⟨SqT.of t, h.val R (.tup t r)⟩⟩
  · cases r with
    | cons r0 rs =>
    cases rs
    cases r0 with
    | wt t r => exact ⟨_, _, rfl, .inr ⟨t.sq, h.val R (.wt t r)⟩⟩
  · split at h
    · rename_i e
      cases r with
      | cons r0 rs =>
      cases rs
      obtain ⟨a, vs, rfl, hs, r⟩ := seq_V R r0 e
      exact ⟨a, vs, rfl, .inl ⟨hs, fun q hq => h.valT R r hq⟩⟩
    · exact h.elim
  · exact h.elim
abbrev rListOf (K : PySem.W.Frag) : List V → Hp → VK → Prop := fun xs H Q => ∃ p ys, xs = [V.ref p] ∧ (SqL K H p ys ∨ SqT K H p ys) ∧ ∀ l, H l = none → Q (V.ref l) (upd H l (.lst ys))
abbrev rListD : List V → Hp → VK → Prop := fun xs H Q => ∃ (a : Addr) (kvs : List (Key × V)), xs = [.ref a] ∧ Rd H a (.dK kvs) ∧ ∀ p, H p = none → Q (.ref p) (upd H p (.lst (kvs.map fun kv => kV kv.1)))
theorem cr_listA (hc : X.calm = true) : CallR X (.type "list") (orC (rListOf X.K) rListD) := CallR.or call_list_of (call_listD hc)
theorem keyD_V {pi : Nat → Addr} {n : Nat} {H : Hp} (k : Key) : Rep K pi n H (keyD k) (kV k) := by cases k <;> constructor
theorem keysD_V {pi : Nat → Addr} {n : Nat} {H : Hp} {kvs : List (Key × D)} {ks : List (Key × V)} (h : ks.map (·.1) = kvs.map (·.1)) : Reps K pi n H (kvs.map fun kv => keyD kv.1) (ks.map fun kv => kV kv.1) := by
  induction kvs generalizing ks with
  | nil => cases ks with | nil => exact .nil | cons a b => cases h
  | cons a kvs ih =>
    cases ks with
    | nil => cases h
    | cons b ks =>
      simp only [List.map_cons, List.cons.injEq] at h
      simp only [List.map_cons]
      exact .cons (by rw [h.1]; exact keyD_V _) (ih h.2)
theorem ok_list : CallOk K E (orC (rListOf K) rListD) bList := by
  intro p S H ds vs Q R r h
  unfold bList at h
  split at h
  · cases r with
    | cons r0 rs =>
    cases rs
    cases r0 with
    | tup t r => exact .inl ⟨_, _, rfl, .inr (SqT.of t), fun q hq => h.newL R r hq⟩
  · cases r with
    | cons r0 rs =>
    cases rs
    cases r0 with
    | wt t r => exact .inl ⟨_, _, rfl, .inr t.sq, fun q hq => h.newL R r hq⟩
  · cases r with
    | cons r0 rs =>
    cases rs
    split at h
    · rename_i q
      obtain ⟨vs, h1, r⟩ := R.lst q
      cases r0
      exact .inl ⟨_, _, rfl, .inl (SqL.of h1), fun q hq => h.newL R r hq⟩
    · rename_i q
      obtain ⟨o, vs, h1, r⟩ := R.ob _ _ q
      cases r0
      exact .inl ⟨_, _, rfl, .inl (.inl (.inr ⟨o, h1⟩)), fun q hq => h.newL R r hq⟩
    · rename_i q
      obtain ⟨ks, h1, h2, h3⟩ := R.ob _ _ q
      cases r0
      exact .inr ⟨_, _, rfl, .inl h1, fun q hq => h.newL R (keysD_V h2) hq⟩
    · exact h.elim
  · exact h.elim
end
section
variable {X : Cx} {E : St → XK} {e : Expr} {f : ML} {p pos : Pos} {es : List Expr}
theorem c_len (hm : X.mg "len" = none) (ha : LM X E [e] f) (hg : Gl X "len" := by rfl) (he : starEach [e] X.env = (false, eval e X.env) :: starEach [] X.env := by rfl) : EM X E (.Call (.Name "len" p) [e] [] pos) (mCall bLen f) := e_callB cr_lenA ok_len hg hm (by decide +kernel) ha (by decide) (by decide) he (by rfl)
theorem c_int (hm : X.mg "int" = none) (ha : LM X E [e] f) (hg : Gl X "int" := by rfl) (he : starEach [e] X.env = (false, eval e X.env) :: starEach [] X.env := by rfl) : EM X E (.Call (.Name "int" p) [e] [] pos) (mCall bInt f) := e_callT cr_intA ok_int hg hm (by decide +kernel) ha (by decide) (by decide) he (by rfl)
theorem c_abs (hm : X.mg "abs" = none) (ha : LM X E [e] f) (hg : Gl X "abs" := by rfl) (he : starEach [e] X.env = (false, eval e X.env) :: starEach [] X.env := by rfl) : EM X E (.Call (.Name "abs" p) [e] [] pos) (mCall bAbs f) := e_callB call_abs ok_abs hg hm (by decide +kernel) ha (by decide) (by decide) he (by rfl)
theorem c_tuple (hm : X.mg "tuple" = none) (ha : LM X E [e] f) (hg : Gl X "tuple" := by rfl) (he : starEach [e] X.env = (false, eval e X.env) :: starEach [] X.env := by rfl) : EM X E (.Call (.Name "tuple" p) [e] [] pos) (mCall bTuple f) := e_callT call_tuple_of ok_tuple hg hm (by decide +kernel) ha (by decide) (by decide) he (by rfl)
theorem c_list (hc : X.calm = true) (hm : X.mg "list" = none) (ha : LM X E [e] f) (hg : Gl X "list" := by rfl) (he : starEach [e] X.env = (false, eval e X.env) :: starEach [] X.env := by rfl) : EM X E (.Call (.Name "list" p) [e] [] pos) (mCall bList f) := e_callT (cr_listA hc) ok_list hg hm (by decide +kernel) ha (by decide) (by decide) he (by rfl)
end
end Ly
set_option Elab.async false
set_option linter.all false
set_option maxRecDepth 100000
namespace Ly
open PySem PySem.Spec L2
open PyProof.Rows hiding St
def hasTy (T : String) (x : D) (S : Hs) : Bool := match x with
  | .str _ => decide (T = "str")
  | .int _ => decide (T = "int")
  | .ref i => match S[i]? with
    | some (.lst _) => decide (T = "list")
    | some (.rol _) => decide (T = "list")
    | some (.dic _) => decide (T = "dict")
    | some (.dit _) => decide (T = "dict")
    | _ => false
  | _ => false
theorem hasTy_V {K : PySem.W.Frag} {T : String} {p : Nat → Addr} {S : Hs} {H : Hp} {x : D} {v : V} (R : Real K p S H) (r : Rep K p S.length H x v) (h : hasTy T x S = true) : tyV K T v H := by
  unfold hasTy at h
  cases r with
  | str x => exact of_decide_eq_true (p := T = "str") h
  | int x => exact of_decide_eq_true (p := T = "int") h
  | ref hi =>
    simp only at h
    split at h
    · rename_i q
      obtain ⟨vs, h1, r⟩ := R.lst q
      exact .inl ⟨of_decide_eq_true h, _, SqL.of h1⟩
    · rename_i q
      obtain ⟨o, vs, h1, r⟩ := R.ob _ _ q
      exact .inl ⟨of_decide_eq_true h, _, .inl (.inr ⟨o, h1⟩)⟩
    · rename_i q
      obtain ⟨ks, h1, _⟩ := R.ob _ _ q
      exact .inr (.inr (.inl ⟨of_decide_eq_true h, .inl ⟨_, h1⟩⟩))
    · rename_i q
      obtain ⟨ks, h1, _⟩ := R.ob _ _ q
      exact .inr (.inr (.inl ⟨of_decide_eq_true h, .inr ⟨_, h1⟩⟩))
    · cases h
  | _ => cases h
def mBM (Tn : String) (op : D → List D → Hs → R D) (f : M) (g : ML) : M := fun l S => (f l S).bind fun x S1 => if hasTy Tn x S1 = true then (g l S1).bind fun ds S2 => op x ds S2 else .bad
def MtOk (K : PySem.W.Frag) (E : St → XK) (r : V → List V → Hp → VK → Prop) (op : D → List D → Hs → R D) : Prop :=
  ∀ p S H x v ds vs Q, Real K p S H → Rep K p S.length H x v → Reps K p S.length H ds vs → Post K E S.length p H (op x ds S) (QD K Q) → r v vs H Q
section
variable {X : Cx} {E : St → XK} {o e : Expr} {es : List Expr} {f : M} {g : ML} {name : Str} {apos cpos : Pos} {Tn id : String} {r : V → List V → Hp → VK → Prop} {op : D → List D → Hs → R D}
theorem e_bm (pa : PlainAttrs Tn) (slot : Slot Tn name id) (hty : typeOf (.builtin id) = pure (.type "method_descriptor")) (hm : MtR X id r) (hk : MtOk X.K E r op) (ho : EM X E o f) (ha : LM X E (e :: es) g)
    (hbase : attributeBase o name X.env (eval o X.env) = eval o X.env := by rfl)
    (hfew : ((backTo cpos (starEach (e :: es) X.env)).all (fun x => !x.1) && (backToKw cpos (keywordEach [] X.env)).all (fun x => x.1.isSome)
      && decide ((e :: es).length + ([] : List Keyword).length + (if ([] : List Keyword).isEmpty then 0 else 1) < 30)) = true := by rfl)
    (hline : (apos.endLine == cpos.line) = true := by rfl) (hs : starEach (e :: es) X.env = (false, eval e X.env) :: starEach es X.env := by rfl) (hplain : (backTo cpos (starEach es X.env)).any (·.1) = false := by rfl) :
    EM X E (.Call (.Attribute o name apos) (e :: es) [] cpos) (mBM Tn op f g) :=
  ⟨(pe_bm pa slot hty hm ho.pe ha.pa hbase hfew hline hs hplain).weak fun s H Q ⟨p, l, S, R, L, h⟩ => T.of R L h fun p1 S1 H1 d v R1 x1 L1 r1 h1 => by
    split at h1
    · rename_i ht
      exact ⟨hasTy_V R1 r1 ht, TL.of R1 L1 h1 fun p2 S2 H2 d2 v2 R2 x2 L2 r2 h2 => hk p2 S2 H2 _ _ _ _ Q R2 (r1.ext x2 _ _) r2 h2⟩
    · exact h1.elim⟩
theorem e_bm0 (pa : PlainAttrs Tn) (slot : Slot Tn name id) (hty : typeOf (.builtin id) = pure (.type "method_descriptor")) (hm : MtR X id r) (hk : MtOk X.K E r op) (ho : EM X E o f)
    (hbase : attributeBase o name X.env (eval o X.env) = eval o X.env := by rfl) (hline : (apos.endLine == cpos.line) = true := by rfl) :
    EM X E (.Call (.Attribute o name apos) [] [] cpos) (mBM Tn op f lNil) :=
  ⟨(pe_bm0 pa slot hty hm ho.pe hbase hline).weak fun s H Q ⟨p, l, S, R, L, h⟩ => T.of R L h fun p1 S1 H1 d v R1 x1 L1 r1 h1 => by
    split at h1
    · rename_i ht
      exact ⟨hasTy_V R1 r1 ht, hk p1 S1 H1 _ _ _ _ Q R1 r1 .nil h1⟩
    · exact h1.elim⟩
end
def oAppend (x : D) (ds : List D) (S : Hs) : R D := match x, ds with
  | .ref i, [y] => match S[i]? with
    | some (.lst xs) => if xs.length < sizeLine then .ok .non (S.set i (.lst (xs ++ [y]))) else .bad
    | _ => .bad
  | _, _ => .bad
def oExtend (x : D) (ds : List D) (S : Hs) : R D := match x, ds with
  | .ref i, [.ref j] => match S[i]?, S[j]? with
    | some (.lst xs), some (.lst ys) => if xs.length + ys.length ≤ sizeLine then .ok .non (S.set i (.lst (xs ++ ys))) else .bad
    | _, _ => .bad
  | _, _ => .bad
def oPop (x : D) (ds : List D) (S : Hs) : R D := match x, ds with
  | .ref i, [] => match S[i]? with
    | some (.lst xs) => (match xs[xs.length - 1]? with
      | some y => .ok y (S.set i (.lst xs.dropLast))
      | none => .bad)
    | _ => .bad
  | _, _ => .bad
section
variable {K : PySem.W.Frag} {E : St → XK} {X : Cx}
theorem ok_append : MtOk K E rAppend oAppend := by
  intro p S H x v ds vs Q R rx r h
  unfold oAppend at h
  split at h
  · split at h
    · rename_i y _ xs q
      split at h
      · rename_i hl
        obtain ⟨us, h1, r1⟩ := R.lst q
        cases rx
        cases r with
        | cons r0 rs =>
        cases rs
        have hi := Real.lt q
        refine ⟨_, us, _, rfl, rfl, h1, by rw [← r1.len]; exact hl, h.put R hi ⟨_, upd_same, ?_⟩ .non⟩
        exact (r1.ext (ext_upd (R.notup hi)) _ _).append (.cons (r0.ext (ext_upd (R.notup hi)) _ _) .nil)
      · exact h.elim
    · exact h.elim
  · exact h.elim
theorem Reps.dropLast {pi : Nat → Addr} {n : Nat} {H : Hp} {ds : List D} {vs : List V} (r : Reps K pi n H ds vs) : Reps K pi n H ds.dropLast vs.dropLast := by
  rw [List.dropLast_eq_take, List.dropLast_eq_take, ← r.len]; exact r.take _
theorem ok_pop : MtOk K E rPop oPop := by
  intro p S H x v ds vs Q R rx r h
  unfold oPop at h
  split at h
  · split at h
    · rename_i xs q
      split at h
      · rename_i y e
        obtain ⟨us, h1, r1⟩ := R.lst q
        cases rx; cases r
        have hi := Real.lt q
        obtain ⟨w, e2, r2⟩ := r1.get e
        have x1 : Ext S.length S.length p p H (upd H _ (HO.lst us.dropLast)) := ext_upd (R.notup hi)
        refine ⟨_, us, w, rfl, rfl, h1, by rw [← r1.len]; exact e2, h.put R hi ⟨_, upd_same, (r1.dropLast).ext x1 _ _⟩ (r2.ext x1 _ _)⟩
      · exact h.elim
    · exact h.elim
  · exact h.elim
end
def mSet (i : Nat) (f : M) : MS := fun l S => (f l S).bind fun d S1 => .ok (.nx (l.set i (some d))) S1
def mExpr (f : M) : MS := fun l S => (f l S).bind fun _ S1 => .ok (.nx l) S1
def mRet (f : M) : MS := fun l S => (f l S).bind fun d S1 => .ok (.rt d) S1
def mRetN : MS := fun _ S => .ok (.rt .non) S
def mPass : MS := fun l S => .ok (.nx l) S
def mBrk : MS := fun l S => .ok (.bk l) S
def mCnt : MS := fun l S => .ok (.ct l) S
def mSeq (f g : MS) : MS := fun l S => (f l S).bind fun r S1 => match r with
  | .nx l1 => g l1 S1
  | r => .ok r S1
def mIfS (c : MB) (f g : MS) : MS := fun l S => (c l S).bind fun b S1 => if b = true then f l S1 else g l S1
section
variable {X : Cx} {E : St → XK} {st : Stmt} {sts : List Stmt} {f g : MS} {e : Expr} {m : M} {pos : Pos}
theorem Post.nx {K : PySem.W.Frag} {D0 : Ends} {p : Nat → Addr} {S : Hs} {H : Hp} {l : Ls} {s : St} (h : Post K E S.length p H (.ok (.nx l) S) (QF K D0)) (R : Real K p S H) (L : Sl K p S.length H l s) : D0.nx s H := Post.ok (Q := QF K D0) h Ext.refl R s L
theorem SMs.nil : SMs X E [] mPass := ⟨pss_nil.weak fun s H D0 ⟨p, l, S, R, L, h⟩ => Post.nx h R L⟩
theorem SMs.cons (h1 : SM X E st f) (h2 : SMs X E sts g) : SMs X E (st :: sts) (mSeq f g) := ⟨(pss_cons h1.ps h2.ps).weak fun s H D0 ⟨p, l, S, R, L, h⟩ => by
  refine ⟨p, l, S, R, L, (Post.bind (r := f l S) h).mono fun a S1 p1 H1 _ x R1 q => ?_⟩
  cases a with
  | nx l1 => exact fun s1 L1 => ⟨p1, l1, S1, R1, L1, q⟩
  | rt d => exact fun v r => Post.ok (Q := QF _ D0) q Ext.refl R1 v r
  | bk l1 => exact fun v r => Post.ok (Q := QF _ D0) q Ext.refl R1 v r
  | ct l1 => exact fun v r => Post.ok (Q := QF _ D0) q Ext.refl R1 v r⟩
theorem SMs.one (h1 : SM X E st f) : SMs X E [st] f := ⟨pss_one h1.ps⟩
theorem s_brk : SM X E (.Break pos) mBrk := ⟨ps_break.weak fun s H D0 ⟨p, l, S, R, L, h⟩ => Post.ok (Q := QF _ D0) h Ext.refl R s L⟩
theorem s_set {i : Nat} {x : Str} {pos' : Pos} (hN : X.N.Nodup) (he : EM X E e m) (hi : X.N[i]? = some x := by rfl) (hx : L2.Loc X.env.scope x := by first | exact Or.inl rfl | exact Or.inr rfl)
    (hs : swapsWith e (some (.Name x pos')) pos.line X.env = pure false := by rfl) (hf : X.fn x = true ∨ X.env.scope.names.lookup x = some .local := by first | exact .inl rfl | exact .inr rfl | assumption) :
    SM X E (.Assign [.Name x pos'] e pos) (mSet i m) :=
  ⟨(ps_set hN hi hx he.pe hs hf).weak fun s H D0 ⟨p, l, S, R, L, h⟩ => T.of R L h fun p1 S1 H1 d v R1 x1 L1 r1 h1 => Post.nx h1 R1 (L1.set i r1)⟩
theorem s_expr (he : EM X E e m) (hs : swapsWith e none pos.line X.env = pure false := by rfl) : SM X E (.Expr e pos) (mExpr m) :=
  ⟨(ps_expr he.pe hs).weak fun s H D0 ⟨p, l, S, R, L, h⟩ => T.of R L h fun p1 S1 H1 d v R1 x1 L1 r1 h1 => Post.nx h1 R1 L1⟩
theorem s_ret (he : EM X E e m) : SM X E (.Return (some e) pos) (mRet m) :=
  ⟨(ps_ret he.pe).weak fun s H D0 ⟨p, l, S, R, L, h⟩ => T.of R L h fun p1 S1 H1 d v R1 x1 L1 r1 h1 => Post.ok (Q := QF _ D0) h1 Ext.refl R1 v r1⟩
theorem TSt.last {K : PySem.W.Frag} {s : St} {H : Hp} {D0 : Ends} {p : Nat → Addr} {l : Ls} {S : Hs} (R : Real K p S H) (L : Sl K p S.length H l s) (h : Post K E S.length p H (f l S) (QF K D0)) : TSt K E f D0 s H := ⟨p, l, S, R, L, h⟩
theorem s_if {c : Expr} {a b : List Stmt} {cm : MB} (hc : BM X E c cm) (ha : SMs X E a f) (hb : SMs X E b g) : SM X E (.If c a b pos) (mIfS cm f g) :=
  ⟨(ps_if hc.pt ha.ps hb.ps).weak fun s H D0 ⟨p, l, S, R, L, h⟩ => TB.of R L h fun p1 S1 H1 b R1 x1 L1 h1 => by
    cases b with
    | true => exact TSt.last R1 L1 h1
    | false => exact TSt.last R1 L1 h1⟩
end
def iter {A β : Type} (step : A → Sum A (R β)) : Nat → A → R β
  | 0, _ => .bad
  | n + 1, a => Sum.elim (iter step n) id (step a)
theorem iter_succ {A β : Type} (step : A → Sum A (R β)) : ∀ n a, iter step n a ≠ .bad → iter step (n + 1) a = iter step n a
  | 0, a, h => absurd rfl h
  | n + 1, a, h => by
    simp only [iter] at h ⊢
    cases e : step a with
    | inl a' => rw [e] at h; exact iter_succ step n a' h
    | inr r => rfl
theorem iter_le {A β : Type} (step : A → Sum A (R β)) {n m : Nat} (hnm : n ≤ m) {a : A} (h : iter step n a ≠ .bad) : iter step m a = iter step n a := by
  induction hnm with
  | refl => rfl
  | step _ ih => rw [iter_succ step _ a (by rw [ih]; exact h), ih]
open Classical in
noncomputable def runI {A β : Type} (step : A → Sum A (R β)) (a : A) : R β := if h : ∃ n, iter step n a ≠ .bad then iter step h.choose a else .bad
theorem runI_of {A β : Type} {step : A → Sum A (R β)} {n : Nat} {a : A} (h : iter step n a ≠ .bad) : runI step a = iter step n a := by
  have hx : ∃ n, iter step n a ≠ .bad := ⟨n, h⟩
  unfold runI
  rw [dif_pos hx]
  rcases Nat.le_total n hx.choose with q | q
  · exact iter_le step q h
  · exact (iter_le step q hx.choose_spec).symm
theorem runI_ex {A β : Type} {step : A → Sum A (R β)} {a : A} (h : runI step a ≠ .bad) : ∃ n, iter step n a = runI step a ∧ iter step n a ≠ .bad := by
  apply Classical.byContradiction
  intro hx
  refine h ?_
  have : ¬ ∃ n, iter step n a ≠ .bad := fun ⟨n, hn⟩ => hx ⟨n, (runI_of hn).symm, hn⟩
  unfold runI; rw [dif_neg this]
theorem runI_eq {A β : Type} (step : A → Sum A (R β)) (a : A) : runI step a = match step a with
    | .inl a' => runI step a'
    | .inr r => r := by
  cases e : step a with
  | inr r =>
    show runI step a = r
    by_cases hr : r = .bad
    · subst hr
      apply Classical.byContradiction
      intro h
      obtain ⟨n, _, hn⟩ := runI_ex h
      cases n with
      | zero => exact hn rfl
      | succ n => simp only [iter, e] at hn; exact hn rfl
    · have : iter step 1 a = r := by simp only [iter, e]; rfl
      rw [runI_of (n := 1) (by rw [this]; exact hr), this]
  | inl a' =>
    show runI step a = runI step a'
    by_cases h : runI step a' = .bad
    · rw [h]
      apply Classical.byContradiction
      intro h2
      obtain ⟨n, _, hn⟩ := runI_ex h2
      cases n with
      | zero => exact hn rfl
      | succ n =>
        simp only [iter, e] at hn
        exact hn (by rw [Sum.elim_inl, ← runI_of hn]; exact h)
    · obtain ⟨n, e1, hn⟩ := runI_ex h
      have : iter step (n + 1) a = iter step n a' := by simp only [iter, e]; rfl
      rw [runI_of (n := n + 1) (by rw [this]; exact hn), this, e1]
def turnOf {A : Type} (r : R F) (next : Ls → Hs → A) : Sum A (R F) := match r with
  | .ok (.nx l) S => .inl (next l S)
  | .ok (.ct l) S => .inl (next l S)
  | .ok (.bk l) S => .inr (.ok (.nx l) S)
  | .ok (.rt d) S => .inr (.ok (.rt d) S)
  | .exc c fs l S => .inr (.exc c fs l S)
  | .bad => .inr .bad
def wStep (c : MB) (b : MS) (a : Ls × Hs) : Sum (Ls × Hs) (R F) := match c a.1 a.2 with
  | .ok t S1 => if t = true then turnOf (b a.1 S1) Prod.mk else .inr (.ok (.nx a.1) S1)
  | .exc c fs l S => .inr (.exc c fs l S)
  | .bad => .inr .bad
noncomputable def mWhile (c : MB) (b : MS) : MS := fun l S => runI (wStep c b) (l, S)
theorem mWhile_eq (c : MB) (b : MS) (l : Ls) (S : Hs) : mWhile c b l S = (c l S).bind fun t S1 => if t = true then (b l S1).bind fun r S2 => match r with
    | .nx l2 => mWhile c b l2 S2
    | .ct l2 => mWhile c b l2 S2
    | .bk l2 => .ok (.nx l2) S2
    | .rt d => .ok (.rt d) S2
    else .ok (.nx l) S1 := by
  unfold mWhile
  rw [runI_eq]
  unfold wStep turnOf
  simp only []
  cases c l S with
  | ok t S1 =>
    cases t with
    | false => rfl
    | true =>
      simp only [if_true, R.bind_ok]
      cases b l S1 with
      | ok r S2 => cases r <;> rfl
      | exc _ _ _ _ => rfl
      | bad => rfl
  | exc _ _ _ _ => rfl
  | bad => rfl
theorem Post.ne {α : Type} {K : PySem.W.Frag} {E : St → XK} {n : Nat} {p : Nat → Addr} {H : Hp} {r : R α} {Q : α → Hs → (Nat → Addr) → Hp → Prop} (h : Post K E n p H r Q) : r ≠ .bad := fun e => by subst e; exact h
section
variable {X : Cx} {E : St → XK} {g : MS} {pos : Pos}
theorem turn_post {K : PySem.W.Frag} {A : Type} {step : A → Sum A (R F)} {m : Nat} {p : Nat → Addr} {S : Hs} {H : Hp} {D0 : Ends} {r : R F} {next : Ls → Hs → A} {N : St → Hp → Prop}
    (h : Post K E S.length p H (Sum.elim (iter step m) id (turnOf r next)) (QF K D0))
    (hN : ∀ l S2 p2 H2 s, Ext S.length S2.length p p2 H H2 → Real K p2 S2 H2 → Sl K p2 S2.length H2 l s → Post K E S2.length p2 H2 (iter step m (next l S2)) (QF K D0) → N s H2) :
    Post K E S.length p H r (QF K { D0 with nx := N, ct := N, bk := D0.nx }) := by
  unfold turnOf at h
  cases r with
  | ok f S2 =>
    intro p2 H2 x R2
    cases f with
    | nx l => exact fun s L => hN l S2 p2 H2 s x R2 L (Post.ext h x)
    | ct l => exact fun s L => hN l S2 p2 H2 s x R2 L (Post.ext h x)
    | bk l => exact fun s L => Post.nx (Post.ext h x) R2 L
    | rt d => exact fun v r => Post.ok (Q := QF _ D0) (Post.ext h x) Ext.refl R2 v r
  | exc c fs l S2 => exact h
  | bad => exact h
theorem s_while {c : Expr} {body : List Stmt} {cm : MB} (hp : PassesOwn (model X.prog X.w) X.A X.env X.xe) (hc : BM X E c cm) (hb : SMs X E body g) : SM X E (.While c body [] pos) (mWhile cm g) :=
  ⟨(ps_while hp hc.pt hb.ps).weak fun s H D0 ⟨p, l, S, R, L, h⟩ => by
    obtain ⟨n, hn, _⟩ := runI_ex (Post.ne h)
    rw [show mWhile cm g l S = _ from hn.symm] at h
    refine ⟨fun m s H => ∃ p l S, Real X.K p S H ∧ Sl X.K p S.length H l s ∧ Post X.K E S.length p H (iter (wStep cm g) m (l, S)) (QF X.K D0), ⟨n, p, l, S, R, L, h⟩, ?_⟩
    rintro m s H ⟨p, l, S, R, L, h⟩
    cases m with
    | zero => exact h.elim
    | succ m =>
      simp only [iter, wStep] at h
      refine ⟨p, l, S, R, L, ?_⟩
      cases e : cm l S with
      | bad => rw [e] at h; exact h
      | exc c fs l2 S2 => rw [e] at h; exact h
      | ok t S1 =>
        rw [e] at h
        simp only [] at h
        intro p1 H1 x R1
        cases t with
        | false => exact Post.nx (Post.ext h x) R1 (L.ext x)
        | true =>
          simp only [if_true] at h ⊢
          exact ⟨fun s H => ∃ p l S, Real X.K p S H ∧ Sl X.K p S.length H l s ∧ Post X.K E S.length p H (iter (wStep cm g) m (l, S)) (QF X.K D0), fun s' H' w => ⟨m, Nat.lt_succ_self m, w⟩, p1, l, S1, R1, L.ext x,
            turn_post (Post.ext h x) fun l2 S2 p2 H2 s2 _ R2 L2 h2 => ⟨p2, l2, S2, R2, L2, h2⟩⟩⟩
end
end Ly
set_option Elab.async false
set_option linter.all false
set_option maxRecDepth 100000
namespace Ly
open PySem PySem.Spec L2
open PyProof.Rows hiding St
def R.at {α : Type} (r : R α) (l : Ls) : R α := match r with
  | .exc c fs _ S => .exc c fs l S
  | r => r
@[simp] theorem R.at_ok {α : Type} (a : α) (S : Hs) (l : Ls) : (R.ok a S).at l = .ok a S := (show (R.ok a S).at l = .ok a S from rfl).trans (Eq.refl _)
@[simp] theorem R.at_exc {α : Type} (c fs l2) (S : Hs) (l : Ls) : (R.exc c fs l2 S : R α).at l = .exc c fs l S := (show (R.exc c fs l2 S : R α).at l = .exc c fs l S from rfl).trans (Eq.refl _)
@[simp] theorem R.at_bad {α : Type} (l : Ls) : (R.bad : R α).at l = .bad := rfl
abbrev MD := List D → Hs → R D
def endOf (r : R F) : R D := match r with
  | .ok (.nx _) S => .ok .non S
  | .ok (.rt d) S => .ok d S
  | .ok _ _ => .bad
  | .exc c fs _ S => .exc c fs [] S
  | .bad => .bad
def mDef (np nl : Nat) (body : MS) : MD := fun ds S => if ds.length = np then endOf (body (ds.map some ++ List.replicate nl none) S) else .bad
def spM (K : PySem.W.Frag) (np : Nat) (m : MD) : Sp := fun vs H Q E => ∃ p S ds, Real K p S H ∧ Reps K p S.length H ds vs ∧ ds.length = np ∧ Post K (fun _ => E) S.length p H (m ds S) (QD K Q)
theorem spM_len {K : PySem.W.Frag} {np : Nat} {m : MD} {vs : List V} {H : Hp} {Q : VK} {E : XK} (h : spM K np m vs H Q E) : vs.length = np := by
  obtain ⟨p, S, ds, R, r, hl, _⟩ := h
  rw [← r.len]; exact hl
theorem Reps.sl {K : PySem.W.Frag} {p : Nat → Addr} {n : Nat} {H : Hp} {ds : List D} {vs : List V} (r : Reps K p n H ds vs) (m : Nat) : Sl K p n H (ds.map some ++ List.replicate m none) (vs.map some ++ List.replicate m none) := by
  induction ds generalizing vs with
  | nil =>
    cases r
    simp only [List.map_nil, List.nil_append]
    induction m with
    | zero => exact .nil
    | succ m ih => exact .no _ ih
  | cons d ds ih => cases r with | cons r s => exact .yes r (ih s)
section
variable {P : Program} {w : World} {K : PySem.W.Frag} {mg : Str → Option Value} {base : Heap}
theorem fn_def {x qual : Str} {st : Stmt} {f : Addr} {fd : FuncData} {N ps : List Str} {k : Nat} {np nl : Nat} {m : MS} (F : Fun K x qual st f fd) (S : FnScope N ps (defScope st)) (hp : ps.length = np) (hn : N.length = np + nl)
    (hb : ∀ (cdv : Value) (A : Around) (outer : List Env) (s : Shared) (H : Hp) (E : XK), Room k (A.deeper (PyProof.Rows.envOfC qual (defScope st) s.heap.objs.size f cdv)) →
      SMs (cxOf (L2.CX P w) P w K mg base N qual (defScope st) f cdv A outer s H E) (fun _ => E) (defBody st) m) : FnOk P w K mg base (L2.CX P w) (k + 1) f fd ps (spM K np (mDef np nl m)) := by
  refine F.okX S (fun vs H Q E h => (spM_len h).trans hp.symm) fun cdv A outer s H vs Q E hr h => ⟨_, (hb cdv A outer s H E hr).ps, ?_⟩
  obtain ⟨p, S0, ds, R, r, hl, h⟩ := h
  have e : L2.start N vs = vs.map some ++ List.replicate nl none := by
    unfold L2.start
    rw [hn, ← r.len, hl, Nat.add_sub_cancel_left]
  refine ⟨p, ds.map some ++ List.replicate nl none, S0, R, by rw [e]; exact r.sl nl, ?_⟩
  unfold mDef at h
  rw [if_pos hl] at h
  revert h
  generalize m _ S0 = res
  intro h
  cases res with
  | ok a S1 =>
    intro p1 H1 x1 R1
    cases a with
    | nx l1 => exact fun s1 L1 => Post.ok (Q := QD K Q) h x1 R1 _ .non
    | rt d => exact fun v r => Post.ok (Q := QD K Q) h x1 R1 v r
    | bk l1 => exact h.elim
    | ct l1 => exact h.elim
  | exc c fs l S1 => exact fun p1 H1 u d s1 x1 R1 rc rf L1 => h p1 H1 u d [] x1 R1 rc rf .nil
  | bad => exact h
theorem pass_def {N : List Str} {qual : Str} {scope : Scope} {f : Addr} {cdv : Value} {A : Around} {outer : List Env} {s : Shared} {H : Hp} {E : XK} :
    Passes (L2.CX P w) (cxOf (L2.CX P w) P w K mg base N qual scope f cdv A outer s H E) E :=
  passes_call (takes_of rfl rfl rfl rfl) fun _ _ _ _ h => h
end
section
variable {X : Cx} {E : St → XK} {CX : CXT} {k : Nat} {f C : Addr} {fd : FuncData} {ps : List Str} {np : Nat} {md : MD} {x m : Str} {p pos apos : Pos} {e o : Expr} {es : List Expr} {g : ML} {E0 : XK}
def mFn (md : MD) (g : ML) : M := fun l S => (g l S).bind fun ds S1 => (md ds S1).at l
theorem fn_post {α : Type} {K : PySem.W.Frag} {n : Nat} {q : Nat → Addr} {H : Hp} {r : R α} {l : Ls} {s : St} {Q : α → Hs → (Nat → Addr) → Hp → Prop} (L : Sl K q n H l s) (h : Post K E n q H (r.at l) Q) : Post K (fun _ => E s) n q H r Q := by
  cases r with
  | ok a S => exact h
  | exc c fs l2 S => exact fun p1 H1 u d s1 x1 R1 rc rf L1 => h p1 H1 u d s x1 R1 rc rf (L.ext x1)
  | bad => exact h
theorem e_fn (F : FnOk X.prog X.w X.K X.mg X.base CX k f fd ps (spM X.K np md)) (hp : ∀ ds S, ds.length ≠ np → md ds S = .bad) (hr : Room k X.A) (hg : Gl X x) (hm : X.mg x = some (.ref f)) (hk : PySem.W.keepIn X.K (.ref f) = true) (hb : Binds X.K fd ps [])
    (hx : ∀ σ, PassesAt CX X σ (E σ)) (ha : LM X E (e :: es) g) (hdb : (x == ("__debug__" : Str)) = false := by decide) (he : starEach (e :: es) X.env = (false, eval e X.env) :: starEach es X.env := by rfl)
    (hpl : (backTo pos (starEach es X.env)).any (·.1) = false := by rfl) : EM X E (.Call (.Name x p) (e :: es) [] pos) (mFn md g) :=
  ⟨(pe_callSD F hr hg hm hk hb .nil hx ha.pa hdb he hpl).weak fun s H Q ⟨q, l, S, R, L, h⟩ => TL.of R L h fun p1 S1 H1 d v R1 x1 L1 r1 h1 => by
    refine ⟨p1, S1, d, R1, by rw [List.append_nil]; exact r1, ?_, fn_post L1 h1⟩
    apply Classical.byContradiction
    intro hne
    rw [hp d S1 hne] at h1
    exact h1⟩
theorem Passes.at (h : Passes CX X E0) (σ : St) : PassesAt CX X σ E0 := fun pins H s e s' => h pins σ H s e s'
end
theorem mDef_len {np nl : Nat} {b : MS} (ds : List D) (S : Hs) (h : ds.length ≠ np) : mDef np nl b ds S = .bad := if_neg h
mutual
def D.low (n : Nat) : D → Prop
  | .ref i => i < n
  | .tup ds => D.lows n ds
  | .wt ds => D.lows n ds
  | .wl ds => D.lows n ds
  | _ => True
def D.lows (n : Nat) : List D → Prop
  | [] => True
  | d :: ds => D.low n d ∧ D.lows n ds
end
def O.low (n : Nat) : O → Prop
  | .lst ds => D.lows n ds
  | .rol ds => D.lows n ds
  | .dic kvs => D.lows n (kvs.map (·.2))
  | .dit kvs => D.lows n (kvs.map (·.2))
  | .ins _ fs => D.lows n (fs.map (·.2))
def Wf (S : Hs) : Prop := ∀ (i : Nat) (o : O), S[i]? = some o → o.low S.length
section
variable {K : PySem.W.Frag} {pi : Nat → Addr} {n m : Nat} {H : Hp}
mutual
theorem Rep.low : ∀ (d : D) (v : V), Rep K pi n H d v → d.low n
  | .non, _, _ => by simp [D.low]
  | .bl _, _, _ => by simp [D.low]
  | .int _, _, _ => by simp [D.low]
  | .str _, _, _ => by simp [D.low]
  | .tup ds, _, .tup t r => by simp only [D.low]; exact Reps.low ds _ r
  | .wt ds, _, .wt t r => by simp only [D.low]; exact Reps.low ds _ r
  | .wl ds, _, .wl t r => by simp only [D.low]; exact Reps.low ds _ r
  | .ref i, _, .ref h => by simpa [D.low] using h
  | .cst _, _, _ => by simp [D.low]
theorem Reps.low : ∀ (d : List D) (v : List V), Reps K pi n H d v → D.lows n d
  | [], _, _ => by simp [D.lows]
  | d :: ds, _, .cons r s => by simp only [D.lows]; exact ⟨Rep.low d _ r, Reps.low ds _ s⟩
end
mutual
theorem Rep.cut : ∀ (d : D) (v : V), Rep K pi n H d v → d.low m → Rep K pi m H d v
  | .non, _, .non, _ => .non
  | .bl _, _, .bl _, _ => .bl _
  | .int _, _, .int _, _ => .int _
  | .str _, _, .str _, _ => .str _
  | .tup ds, _, .tup t r, h => .tup t (Reps.cutN ds _ r (by simpa only [D.low] using h))
  | .wt ds, _, .wt t r, h => .wt t (Reps.cutN ds _ r (by simpa only [D.low] using h))
  | .wl ds, _, .wl t r, h => .wl t (Reps.cutN ds _ r (by simpa only [D.low] using h))
  | .ref i, _, .ref _, h => .ref (by simpa only [D.low] using h)
  | .cst _, _, .cst _, _ => .cst _
theorem Reps.cutN : ∀ (d : List D) (v : List V), Reps K pi n H d v → D.lows m d → Reps K pi m H d v
  | [], _, .nil, _ => .nil
  | d :: ds, _, .cons r s, h => by
    simp only [D.lows] at h
    exact .cons (Rep.cut d _ r h.1) (Reps.cutN ds _ s h.2)
end
theorem RO.low {a : Addr} {o : O} (h : RO K pi n H a o) : o.low n := by
  cases o with
  | lst ds => obtain ⟨xs, _, h2⟩ := h; exact h2.low
  | rol ds => obtain ⟨o, xs, _, h2⟩ := h; exact h2.low
  | dic kvs => obtain ⟨ks, _, _, h3⟩ := h; exact h3.low
  | dit kvs => obtain ⟨ks, _, _, h3⟩ := h; exact h3.low
  | ins C fs => obtain ⟨dx, ks, _, _, h3⟩ := h; exact h3.low
theorem RO.cut {a : Addr} {o : O} (h : RO K pi n H a o) (l : o.low m) : RO K pi m H a o := by
  cases o with
  | lst ds => obtain ⟨xs, h1, h2⟩ := h; exact ⟨xs, h1, h2.cutN _ _ l⟩
  | rol ds => obtain ⟨o, xs, h1, h2⟩ := h; exact ⟨o, xs, h1, h2.cutN _ _ l⟩
  | dic kvs => obtain ⟨ks, h1, h2, h3⟩ := h; exact ⟨ks, h1, h2, h3.cutN _ _ l⟩
  | dit kvs => obtain ⟨ks, h1, h2, h3⟩ := h; exact ⟨ks, h1, h2, h3.cutN _ _ l⟩
  | ins C fs => obtain ⟨dx, ks, h1, h2, h3⟩ := h; exact ⟨dx, ks, h1, h2, h3.cutN _ _ l⟩
theorem Real.wf {S : Hs} (R : Real K pi S H) : Wf S := fun i o e => (R.ob i o e).low
theorem Real.drop {S g : Hs} (R : Real K pi (S ++ g) H) (w : Wf S) : Real K pi S H := by
  refine ⟨fun i o e => ?_, fun i j hi hj => R.inj i j (by simp; omega) (by simp; omega)⟩
  have hi := (List.getElem?_eq_some_iff.mp e).1
  exact (R.ob i o (by rw [List.getElem?_append_left hi]; exact e)).cut (w i o e)
end
end Ly
set_option Elab.async false
set_option linter.all false
set_option maxRecDepth 100000
namespace Ly
open PySem PySem.Spec L2
open PyProof.Rows hiding St
abbrev MG := D → Ls → Hs → R Ls
def TG' (K : PySem.W.Frag) (E : St → XK) (f : MG) : TG := fun v s H Q => ∃ p l S d, Real K p S H ∧ Sl K p S.length H l s ∧ Rep K p S.length H d v ∧ Post K E S.length p H (f d l S) (fun l1 S1 p1 H1 => ∀ s1, Sl K p1 S1.length H1 l1 s1 → Q s1 H1)
structure GM (X : Cx) (E : St → XK) (t : Expr) (f : MG) : Prop where pg : PG X t (TG' X.K E f)
theorem _root_.L2.PG.weak {X : Cx} {e : Expr} {t t' : TG} (h : PG X e t) (w : ∀ v s H Q, t' v s H Q → t v s H Q) : PG X e t' := ⟨fun pins s σ H v u Q I r q => h.run pins s σ H v u Q I r (w v σ H Q q)⟩
def gN (i : Nat) : MG := fun d l S => .ok (l.set i (some d)) S
abbrev MGs := List D → Ls → Hs → R Ls
def gsN : MGs := fun ds l S => match ds with
  | [] => .ok l S
  | _ => .bad
def gsC (f : MG) (g : MGs) : MGs := fun ds l S => match ds with
  | d :: r => (f d l S).bind fun l1 S1 => g r l1 S1
  | [] => .bad
def gT (n : Nat) (f : MGs) : MG := fun d l S => match d with
  | .tup ds => if ds.length = n then f ds l S else .bad
  | .wt ds => if ds.length = n then f ds l S else .bad
  | _ => .bad
def TGs' (K : PySem.W.Frag) (E : St → XK) (f : MGs) : TGs := fun v s H Q => ∃ p l S d, Real K p S H ∧ Sl K p S.length H l s ∧ Reps K p S.length H d v ∧ Post K E S.length p H (f d l S) (fun l1 S1 p1 H1 => ∀ s1, Sl K p1 S1.length H1 l1 s1 → Q s1 H1)
structure GMs (X : Cx) (E : St → XK) (t : List Expr) (f : MGs) : Prop where pgs : PGs X t (TGs' X.K E f)
section
variable {X : Cx} {E : St → XK} {pos : Pos}
theorem g_n {i : Nat} {x : Str} (hN : X.N.Nodup) (hi : X.N[i]? = some x := by rfl) (hx : L2.Loc X.env.scope x := by first | exact Or.inl rfl | exact Or.inr rfl) (hf : X.fn x = true ∨ X.env.scope.names.lookup x = some .local := by first | exact .inl rfl | exact .inr rfl | assumption) : GM X E (.Name x pos) (gN i) :=
  ⟨(pg_name hN hi hx hf).weak fun v s H Q ⟨p, l, S, d, R, L, r, h⟩ => Post.ok h Ext.refl R _ (L.set i r)⟩
theorem gs_nil : GMs X E [] gsN := ⟨⟨fun pins s σ H vs us Q I rv ⟨p, l, S, d, R, L, r, h⟩ => by
  refine pgs_nil.run pins s σ H vs us Q I rv ?_
  unfold gsN at h
  split at h
  · cases r; exact ⟨rfl, Post.ok h Ext.refl R _ L⟩
  · exact h.elim⟩⟩
theorem gs_cons {e : Expr} {es : List Expr} {f : MG} {g : MGs} (h1 : GM X E e f) (h2 : GMs X E es g) (hs : (assignEach (e :: es) X.env).map (·.2) = assign e X.env :: (assignEach es X.env).map (·.2) := by rfl) : GMs X E (e :: es) (gsC f g) :=
  ⟨⟨fun pins s σ H vs us Q I rv ⟨p, l, S, d, R, L, r, h⟩ => by
    refine (pgs_cons h1.pg h2.pgs hs).run pins s σ H vs us Q I rv ?_
    unfold gsC at h
    split at h
    · cases r with
      | cons r0 rs =>
      exact ⟨_, _, rfl, p, l, S, _, R, L, r0, h.bind.mono fun l1 S1 p1 H1 _ x1 R1 q s1 L1 => ⟨p1, l1, S1, _, R1, L1, rs.ext x1 _ _, q⟩⟩
    · exact h.elim⟩⟩
theorem g_tup {es : List Expr} {k n : Nat} {f : MGs} (hc : X.calm = true) (h : GMs X E es f) (hn : (assignEach es X.env).length = n := by rfl) (hst : (assignEach es X.env).findIdx? (·.1) = none := by rfl) : GM X E (.Tuple es k pos) (gT n f) :=
  ⟨(pg_tup hc h.pgs hn hst).weak fun v s H Q ⟨p, l, S, d, R, L, r, h⟩ => by
    unfold gT at h
    split at h
    · split at h
      · rename_i hl
        cases r with
        | tup t r => exact ⟨_, _, rfl, SqT.of t, by rw [← r.len]; exact hl, p, l, S, _, R, L, r, h⟩
      · exact h.elim
    · split at h
      · rename_i hl
        cases r with
        | wt t r => exact ⟨_, _, rfl, t.sq, by rw [← r.len]; exact hl, p, l, S, _, R, L, r, h⟩
      · exact h.elim
    · exact h.elim⟩
def mAsg (f : M) (g : MG) : MS := fun l S => (f l S).bind fun d S1 => (g d l S1).bind fun l1 S2 => .ok (.nx l1) S2
theorem s_asg {tg e : Expr} {f : M} {g : MG} (he : EM X E e f) (hg : GM X E tg g) (hs : swapsWithSole [tg] e pos.line X.env = pure false := by rfl) (hw : swappedStores [tg] e X.env = pure none := by rfl)
    (h1 : (assignEach [tg] X.env).map (·.2) = [assign tg X.env] := by rfl) : SM X E (.Assign [tg] e pos) (mAsg f g) :=
  ⟨(ps_asg he.pe hg.pg hs hw h1).weak fun s H D0 ⟨p, l, S, R, L, h⟩ => T.of R L h fun p1 S1 H1 d v R1 x1 L1 r1 h1 => ⟨p1, l, S1, d, R1, L1, r1, h1.bind.mono fun l1 S2 p2 H2 _ x2 R2 q s2 L2 => Post.nx q R2 L2⟩⟩
def oSet (x y d : D) (S : Hs) : R Unit := match x with
  | .ref i => match S[i]? with
    | some (.lst xs) => (match y with
      | .int k => (match ixN xs.length k with
        | some j => .ok () (S.set i (.lst (xs.set j d)))
        | none => .bad)
      | _ => .bad)
    | some (.dic kvs) => (match y.key with
      | some k => if kvs.length < sizeLine then .ok () (S.set i (.dic (setK kvs k d))) else .bad
      | none => .bad)
    | some (.dit kvs) => (match y.tkey with
      | some k => if kvs.length < sizeLine then .ok () (S.set i (.dit (setK kvs k d))) else .bad
      | none => .bad)
    | _ => .bad
  | _ => .bad
abbrev rSetD : V → V → V → Hp → (Hp → Prop) → Prop := fun o i v H Q => ∃ a H', o = .ref a ∧ DPut H a i v H' ∧ Q H'
theorem set_dic (hu : X.A.units + 1 < cLine) : PSet X rSetD := by
  intro pins s σ H o i v ov iv u Q I ro ri rv h
  obtain ⟨a, H', rfl, g, q⟩ := h
  obtain rfl : ov = Value.ref a := ro
  exact d_setItem hu I g ri rv fun s4 I4 => ⟨H', I4, q⟩
abbrev rSetA : V → V → V → Hp → (Hp → Prop) → Prop := fun o i v H Q => rSetL o i v H Q ∨ rSetD o i v H Q
theorem set_all (hu : X.A.units + 1 < cLine) : PSet X rSetA := fun pins s σ H o i v ov iv u Q I ro ri rv h => h.elim (set_list pins s σ H o i v ov iv u Q I ro ri rv) (set_dic hu pins s σ H o i v ov iv u Q I ro ri rv)
theorem setK_V {κ : Type} [DecidableEq κ] {K : PySem.W.Frag} {pi : Nat → Addr} {n : Nat} {H : Hp} {kvs : List (κ × D)} {ks : List (κ × V)} (h : ks.map (·.1) = kvs.map (·.1)) (r : Reps K pi n H (kvs.map (·.2)) (ks.map (·.2))) (k : κ) {d : D} {v : V} (rv : Rep K pi n H d v) :
    (putK ks k v).map (·.1) = (setK kvs k d).map (·.1) ∧ Reps K pi n H ((setK kvs k d).map (·.2)) ((putK ks k v).map (·.2)) := by
  have hany : (ks.any fun kv => decide (kv.1 = k)) = kvs.any fun kv => decide (kv.1 = k) := by
    have e1 : (ks.any fun kv => decide (kv.1 = k)) = (ks.map (·.1)).any fun z => decide (z = k) := by rw [List.any_map]; rfl
    have e2 : (kvs.any fun kv => decide (kv.1 = k)) = (kvs.map (·.1)).any fun z => decide (z = k) := by rw [List.any_map]; rfl
    rw [e1, e2, h]
  unfold putK setK
  rw [hany]
  split
  · rename_i hx
    clear hx hany
    induction kvs generalizing ks with
    | nil => cases ks with | nil => exact ⟨rfl, .nil⟩ | cons a b => cases h
    | cons a kvs ih =>
      cases ks with
      | nil => cases h
      | cons b ks =>
        simp only [List.map_cons, List.cons.injEq] at h
        cases r with
        | cons r s =>
          obtain ⟨i1, i2⟩ := ih h.2 s
          simp only [List.map_cons, List.cons.injEq]
          rw [h.1]
          by_cases e : a.1 = k
          · simp only [e, if_true]; exact ⟨⟨trivial, i1⟩, .cons rv i2⟩
          · simp only [e, if_false]; exact ⟨⟨h.1, i1⟩, .cons r i2⟩
  · rw [List.map_append, List.map_append, List.map_append, List.map_append, h]
    exact ⟨rfl, r.append (.cons rv .nil)⟩
theorem Post.put1 {K : PySem.W.Frag} {p : Nat → Addr} {S : Hs} {H : Hp} {i : Nat} {o : O} {u : HO} {Q : Unit → Hs → (Nat → Addr) → Hp → Prop} (h : Post K E S.length p H (.ok () (S.set i o)) Q) (R : Real K p S H) (hi : i < S.length)
    (ro : RO K p S.length (upd H (p i) u) (p i) o) : Q () (S.set i o) p (upd H (p i) u) := by
  have e : (S.set i o).length = S.length := by simp
  exact Post.ok h (by rw [e]; exact ext_upd (R.notup hi)) (R.put hi ro)
theorem ok_set {K : PySem.W.Frag} {p : Nat → Addr} {S : Hs} {H : Hp} {x y d : D} {v u w : V} {Q : Hp → Prop} {QQ : Unit → Hs → (Nat → Addr) → Hp → Prop} (R : Real K p S H) (rx : Rep K p S.length H x v) (ry : Rep K p S.length H y u) (rd : Rep K p S.length H d w)
    (h : Post K E S.length p H (oSet x y d S) QQ) (hq : ∀ S1 H1, Ext S.length S1.length p p H H1 → Real K p S1 H1 → QQ () S1 p H1 → Q H1) : rSetA v u w H Q := by
  have fin : ∀ {i : Nat} {o : O} {z : HO}, i < S.length → Post K E S.length p H (.ok () (S.set i o)) QQ → RO K p S.length (upd H (p i) z) (p i) o → Q (upd H (p i) z) := fun {i o z} hi h ro =>
    hq _ _ (by rw [List.length_set]; exact ext_upd (R.notup hi)) (R.put hi ro) (h.put1 R hi ro)
  unfold oSet at h
  split at h
  · split at h
    · rename_i q
      split at h
      · split at h
        · rename_i j e
          obtain ⟨vs, h1, r⟩ := R.lst q
          cases rx; cases ry
          refine .inl ⟨_, vs, _, j, rfl, rfl, h1, by rw [← r.len]; exact e, fin (Real.lt q) h ⟨_, upd_same, ?_⟩⟩
          exact (r.ext (ext_upd (R.notup (Real.lt q))) _ _).set j (rd.ext (ext_upd (R.notup (Real.lt q))) _ _)
        · exact h.elim
      · exact h.elim
    · rename_i kvs q
      split at h
      · rename_i k ek
        split at h
        · rename_i hl
          obtain ⟨ks, h1, h2, h3⟩ := R.ob _ _ q
          have hlen : ks.length = kvs.length := by simpa using congrArg List.length h2
          cases rx
          have sv := setK_V (H := upd H (p _) (.dK (putK ks k w))) h2 (h3.ext (ext_upd (R.notup (Real.lt q))) _ _) k (rd.ext (ext_upd (R.notup (Real.lt q))) _ _)
          exact .inr ⟨_, _, rfl, .inl ⟨ks, k, h1, key_V ry ek, by rw [hlen]; exact hl, rfl⟩, fin (Real.lt q) h ⟨_, upd_same, sv.1, sv.2⟩⟩
        · exact h.elim
      · exact h.elim
    · rename_i kvs q
      split at h
      · rename_i k ek
        split at h
        · rename_i hl
          obtain ⟨ks, h1, h2, h3⟩ := R.ob _ _ q
          have hlen : ks.length = kvs.length := by simpa using congrArg List.length h2
          cases rx
          have sv := setK_V (H := upd H (p _) (.dT (putK ks k w))) h2 (h3.ext (ext_upd (R.notup (Real.lt q))) _ _) k (rd.ext (ext_upd (R.notup (Real.lt q))) _ _)
          unfold D.tkey at ek
          split at ek
          · cases ry with
            | @tup b _ us t r =>
            exact .inr ⟨_, _, rfl, .inr ⟨ks, k, b, h1, rfl, by rw [← keys_V r ek]; exact t, by rw [hlen]; exact hl, rfl⟩, fin (Real.lt q) h ⟨_, upd_same, sv.1, sv.2⟩⟩
          · cases ek
        · exact h.elim
      · exact h.elim
    · exact h.elim
  · exact h.elim
def gSb (f g : M) : MG := fun d l S => (f l S).bind fun x S1 => (g l S1).bind fun y S2 => (oSet x y d S2).bind fun _ S3 => .ok l S3
theorem g_sub {o i : Expr} {f g : M} (hu : X.A.units + 1 < cLine) (ho : EM X E o f) (hi : EM X E i g)
    (ha : ∀ v, assign (.Subscript o i pos) X.env v = (do
      let ov ← holding [v] (eval o X.env)
      let iv ← holding [v, ov] (eval i X.env)
      standAt pos
      holding [v, ov, iv] (setItem ov iv v)
      release [v, ov, iv] []) := by intro _; rfl) : GM X E (.Subscript o i pos) (gSb f g) :=
  ⟨(pg_sub ho.pe hi.pe (set_all hu) ha).weak fun v s H Q ⟨p, l, S, d, R, L, r, h⟩ => T.of R L h fun p1 S1 H1 x vx R1 x1 L1 r1 h1 => T.of R1 L1 h1 fun p2 S2 H2 y vy R2 x2 L2 r2 h2 =>
    ok_set R2 (r1.ext x2 _ _) r2 ((r.ext x1 _ _).ext x2 _ _) h2.bind fun S3 H3 x3 R3 q => Post.ok q Ext.refl R3 _ (L2.ext x3)⟩
theorem s_sub {o i e : Expr} {f g m : M} {pos' : Pos} (hu : X.A.units + 1 < cLine) (he : EM X E e m) (ho : EM X E o f) (hi : EM X E i g)
    (hs : swapsWithSole [Expr.Subscript o i pos'] e pos.line X.env = pure false := by rfl) (hw : swappedStores [Expr.Subscript o i pos'] e X.env = pure none := by rfl) (h1 : (assignEach [Expr.Subscript o i pos'] X.env).map (·.2) = [assign (Expr.Subscript o i pos') X.env] := by rfl)
    (ha : ∀ v, assign (.Subscript o i pos') X.env v = (do
      let ov ← holding [v] (eval o X.env)
      let iv ← holding [v, ov] (eval i X.env)
      standAt pos'
      holding [v, ov, iv] (setItem ov iv v)
      release [v, ov, iv] []) := by intro _; rfl) : SM X E (.Assign [.Subscript o i pos'] e pos) (mAsg m (gSb f g)) := s_asg he (g_sub hu ho hi ha) hs hw h1
def mAug (i : Nat) (op : D → D → Hs → R D) (f : M) : MS := fun l S => match l[i]? with
  | some (some x) => (f l S).bind fun y S1 => (op x y S1).bind fun d S2 => .ok (.nx (l.set i (some d))) S2
  | _ => .bad
theorem s_aug {i : Nat} {x : Str} {e : Expr} {op : Operator} {r : R2} {o : D → D → Hs → R D} {f : M} {pos' : Pos} (ho : OpR X (inplaceOp op) r) (hk : OpOk X.K E r o) (hN : X.N.Nodup) (he : EM X E e f) (hi : X.N[i]? = some x := by rfl) (hx : L2.Loc X.env.scope x := by first | exact Or.inl rfl | exact Or.inr rfl)
    (hf : X.fn x = true ∨ X.env.scope.names.lookup x = some .local := by first | exact .inl rfl | exact .inr rfl | assumption) : SM X E (.AugAssign (.Name x pos') op e pos) (mAug i o f) :=
  ⟨(ps_aug (ti := r) hN hi hx he.pe ho hf).weak fun s H D0 ⟨p, l, S, R, L, h⟩ => by
    unfold mAug at h
    split at h
    · rename_i d e
      obtain ⟨v, h1, r1⟩ := L.get e
      refine ⟨v, h1, T.of R L h fun p1 S1 H1 d1 v1 R1 x1 L1 r2 h2 => hk p1 S1 H1 _ _ _ _ _ R1 (r1.ext x1 _ _) r2 (h2.bind.mono fun d3 S3 p3 H3 _ x3 R3 q v3 r3 => Post.nx q R3 ((L1.ext x3).set i r3))⟩
    · exact h.elim⟩
def oIAdd : D → D → Hs → R D
  | .int i, .int j, S => .ok (.int (i + j)) S
  | .str x, .str y, S => if x.length + y.length ≤ sizeLine then .ok (.str (x ++ y)) S else .bad
  | _, _, _ => .bad
abbrev rIAdd2 : R2 := orR (rI0 fun i j => .int (i + j)) (fun x y H Q => ∃ i j, x = V.str i ∧ y = V.str j ∧ i.length + j.length ≤ sizeLine ∧ Q (V.str (i ++ j)) H)
theorem ok_iadd {K : PySem.W.Frag} : OpOk K E rIAdd2 oIAdd := by
  intro p S H x y v u Q R rx ry h
  unfold oIAdd at h
  split at h
  · cases rx; cases ry; exact .inl ⟨_, _, rfl, rfl, h.val R (.int _)⟩
  · split at h
    · rename_i hl; cases rx; cases ry; exact .inr ⟨_, _, rfl, rfl, hl, h.val R (.str _)⟩
    · exact h.elim
  · exact h.elim
theorem s_iadd {i : Nat} {x : Str} {e : Expr} {f : M} {pos' : Pos} (hN : X.N.Nodup) (he : EM X E e f) (hi : X.N[i]? = some x := by rfl) (hx : L2.Loc X.env.scope x := by first | exact Or.inl rfl | exact Or.inr rfl)
    (hf : X.fn x = true ∨ X.env.scope.names.lookup x = some .local := by first | exact .inl rfl | exact .inr rfl | assumption) : SM X E (.AugAssign (.Name x pos') .Add e pos) (mAug i oIAdd f) := s_aug (OpR.or iop_add iop_add_str) ok_iadd hN he hi hx hf
end
end Ly
set_option Elab.async false
set_option linter.all false
set_option maxRecDepth 100000
namespace LyI
open PySem PySem.Spec L2
open PyProof.Rows hiding St
def SqB (k : Bool) (K : PySem.W.Frag) (H : Hp) (a : Addr) (xs : List V) : Prop := match k with
  | true => SqL K H a xs
  | false => SqT K H a xs
def ItB (k : Bool) (h : Heap) (it a : Addr) (i : Nat) : Prop := match k with
  | true => h.IsListIter it a i
  | false => h.IsTupleIter it a i
def IsB (k : Bool) (h : Heap) (a : Addr) (items : Array Value) : Prop := match k with
  | true => h.IsList a items
  | false => h.IsTuple a items
def itO (k : Bool) (a : Addr) : Obj := match k with
  | true => { cls := .type "list_iterator", data := .fields #[.ref a, .int 0 0] }
  | false => { cls := .type "tuple_iterator", data := .fields #[.ref a, .int 0 0] }
theorem drawsB {prog : Program} {w : World} {A : Around} (k : Bool) (hh : A.handled = none) (it a : Addr) (hne : a ≠ it) (items : Array Value) :
    Draws prog w A it [it, a] items.size (fun i v => items[i]? = some v) (fun i h => ItB k h it a i ∧ IsB k h a items) := by
  cases k
  · exact .tuple hh it a hne items
  · exact .list hh it a hne items
theorem beginsB (k : Bool) (a : Addr) (items : Array Value) : Begins (.ref a) (itO k a) fun h => IsB k h a items := by
  cases k
  · exact begins_tuple a items
  · exact begins_list a items
theorem itB_new (k : Bool) {h : Heap} {it a : Addr} (e : h.get? it = some (itO k a)) : ItB k h it a 0 := by
  cases k
  · exact ⟨_, e, rfl, rfl⟩
  · exact ⟨_, e, rfl, rfl⟩
theorem ItB.at {k : Bool} {h h' : Heap} {it a : Addr} {i : Nat} (x : ItB k h it a i) (e : ∀ o, h.get? it = some o → h'.get? it = some o) : ItB k h' it a i := by
  cases k
  · exact Heap.IsTupleIter.at x e
  · exact Heap.IsListIter.at x e
theorem ItB.obj {k : Bool} {h : Heap} {it a : Addr} {i : Nat} (x : ItB k h it a i) : ∃ o, h.get? it = some o ∧ ∀ v, o.data ≠ .cell v := by
  cases k
  · obtain ⟨o, e, _, d⟩ := x; exact ⟨o, e, fun v q => by rw [d] at q; cases q⟩
  · obtain ⟨o, e, _, d⟩ := x; exact ⟨o, e, fun v q => by rw [d] at q; cases q⟩
section
variable {X : Cx} {pins : List (Addr × Obj)} {σ : St} {H : Hp} {s : Shared} {a : Addr} {xs ys : List V} {k : Bool}
theorem seqB (I : Inv X pins σ H s) (h : SqB k X.K H a xs) : ∃ its : List Value, Vals xs its ∧ IsB k s.heap a its.toArray ∧ a < s.heap.objs.size := by
  cases k
  · obtain ⟨its, r, p, _⟩ := I.tuple h
    obtain ⟨o, e, _⟩ := id p
    exact ⟨its, r, p, Heap.lt_size e⟩
  · obtain ⟨its, r, p, _⟩ := I.list h
    exact ⟨its, r, p.isList, p.lt⟩
theorem seqB_inj (I : Inv X pins σ H s) (h : SqB k X.K H a xs) (h' : SqB k X.K H a ys) : xs = ys := by
  cases k
  · exact I.tuple_inj h h'
  · exact I.list_inj h h'
end
def IteB (k : Bool) (K : PySem.W.Frag) (a : Addr) : It :=
  ⟨fun i H => ∃ (xs : List V) (x : V), SqB k K H a xs ∧ xs[i]? = some x, fun i H v H' => ∃ T x, v = .ref T ∧ H T = none ∧ H' = upd H T (.tup [.int (i : Nat), x]) ∧ ∀ xs, SqB k K H a xs → xs[i]? = some x, fun i H => ∃ xs : List V, SqB k K H a xs ∧ xs.length = i⟩
theorem turn_enumB {P : Program} {w : World} {K : PySem.W.Frag} {elts : List Expr} {kk : Nat} {tpos : Pos} (k : Bool) (a e it : Addr) :
    Turn P w K (.Tuple elts kk tpos) (IteB k K a) [e, it] e (fun i h => (∃ old, IsEnum h e it ((i : Nat) : Int) old) ∧ ItB k h it a i ∧ e ≠ it ∧ a ≠ it ∧ a ≠ e) where
  mem := by simp
  obj := fun i h st b hb => by
    obtain ⟨⟨old, he⟩, hi, _⟩ := st
    have e' : b = e ∨ b = it := by simpa using hb
    rcases e' with z | z
    · rw [z]; exact ⟨_, he, fun v q => nomatch q⟩
    · rw [z]; exact hi.obj
  keep := fun i h h' st k => let ⟨⟨old, he⟩, hi, hne⟩ := st; ⟨⟨old, k e (by simp) _ he⟩, hi.at fun o q => k it (by simp) o q, hne⟩
  item := by
    intro X hP hw hK hc i pins s σ H E I hf st hg
    subst hP hw hK
    obtain ⟨⟨old, he⟩, hit, hne, hai, hae⟩ := st
    obtain ⟨xs, x, hq, hx⟩ := hg
    obtain ⟨its, rv, p, hz⟩ := seqB I hq
    obtain ⟨u, hu, ru⟩ := rv.get hx
    have hel : e < s.heap.objs.size := Heap.lt_size he
    have hil : it < s.heap.objs.size := by obtain ⟨_, q, _⟩ := hit.obj; exact Heap.lt_size q
    have hlt : i < its.toArray.size := by
      obtain ⟨h1, _⟩ := List.getElem?_eq_some_iff.mp hu
      simpa using h1
    refine wpAny_pyNext_enum_itemD (drawsB k (by exact I.ok.hd hc) it a hai its.toArray) he ⟨hit, p⟩ hlt hne (by simp [hne, Ne.symm hae]) fun x' h' tk hx' ho hit' hT hsz hk => ?_
    have hxu : x' = u := by
      have : its[i]? = some x' := by simpa using hx'
      rw [hu] at this; cases this; rfl
    subst hxu
    refine ⟨_, rfl, wpAny_letOwnedTupleGo_enum (s := { s with heap := h', toks := tk + 1 }) ho fun h'' he' sb => ?_⟩
    have hT2 : h''.get? s.heap.objs.size = some { cls := .type "tuple", data := .seq #[.int i tk, x'] } := (sb.2 _ (Nat.ne_of_gt hel)).trans hT
    have new : ObjOk X.prog X.w (upd H s.heap.objs.size (.tup [.int (i : Nat), x])) h'' s.heap.objs.size (.tup [.int (i : Nat), x]) :=
      ⟨by show 2 ≤ sizeLine; decide, [.int i tk, x'], .cons ⟨_, rfl⟩ (.cons ru .nil), ⟨_, hT2, rfl, _, rfl⟩⟩
    have I1 : Inv X pins σ (upd H s.heap.objs.size (.tup [.int (i : Nat), x])) { s with heap := h'', toks := tk + 1 } :=
      I.turnedNew (ch := [e, it]) (fun b ob hb q => (sb.2 b (fun z => hb (by simp [z]))).trans (hk b ob (fun z => hb (by simp [z])) (fun z => hb (by simp [z])) q)) hf (Nat.le_refl _) new
    refine ⟨.ref s.heap.objs.size, _, I1, rfl, ⟨_, x, rfl, I.hok.fresh (Nat.le_refl _), rfl, fun ys hy => by rw [seqB_inj I hy hq]; exact hx⟩, ⟨⟨x', ?_⟩, hit'.1.at fun o q => (sb.2 it (Ne.symm hne)).trans q, hne, hai, hae⟩, fun b hb => ?_⟩
    · have e1 : ((i + 1 : Nat) : Int) = (i : Int) + 1 := by omega
      rw [e1]; exact he'
    · have hb' : b < s.heap.objs.size := by
        have e' : b = e ∨ b = it := by simpa using hb
        rcases e' with z | z
        · rw [z]; exact hel
        · rw [z]; exact hil
      rw [upd_ne (Nat.ne_of_lt hb')]
      exact (hf b hb).1
  done := by
    intro X hP hw hK hc i pins s σ H E I hf st hg
    subst hP hw hK
    obtain ⟨⟨old, he⟩, hit, hne, hai, hae⟩ := st
    obtain ⟨xs, hq, hx⟩ := hg
    obtain ⟨its, rv, p, hz⟩ := seqB I hq
    obtain ⟨f0, f1, f2, f3, f4, f5⟩ := hf it (by simp)
    have hl := rv.length
    have hi : i = its.toArray.size := by simp; omega
    subst hi
    exact wpAny_pyNext_enum_endD (drawsB k (by exact I.ok.hd hc) it a hai its.toArray) he ⟨hit, p⟩ fun h' eb => ⟨rfl, I.turned (t' := s.toks) (fun b o hb q => eb b o hb q) f0 f1 f3 f4 f5⟩
  self := fun A i s Q E st h => let ⟨⟨_, he⟩, _⟩ := st; wpAny_pyIter_enum he h
set_option maxHeartbeats 1000000 in
theorem meets_enumerate_newB0 {v : Value} {o : Obj} {H : Heap → Prop} (B : Begins v o H) :
    Meets (Builtin.«enumerate.__new__» ⟨[.type "enumerate", v], []⟩) (fun _ R s => H s.heap ∧
      R (.ok (.ret (.ref (s.heap.push o).objs.size))) { s with heap := (s.heap.push o).push { cls := .type "enumerate", data := .fields #[.none, .bool false, .ref s.heap.objs.size, rawInt 0, .none, .none] } }) :=
  .of_wp fun prog w A R s h => by
    obtain ⟨hp, g, d, tk, os⟩ := s; obtain ⟨h1, h⟩ := h
    have hsub := sub_enumerate
    have q1 : ∀ {A' : Around} {E : Value → Shared → Prop} {Q : Value → Shared → Prop}, Q (.ref hp.objs.size) ⟨hp.push o, g, d, tk, os⟩ → wpAny (model prog w) A' (pyIter v) Q E ⟨hp, g, d, tk, os⟩ :=
      fun q => B.iter prog w _ _ ⟨hp, g, d, tk, os⟩ _ h1 q
    wp_walk using q1
    refine wpAny_stack_any fun st => wpAny_pure ?_
    split
    · rename_i c _ _ _ _ _
      cases (c == Value.type "enumerate")
      · wp_walk using q1
        exact ⟨_, rfl, h⟩
      · wp_walk using q1
        exact ⟨_, rfl, h⟩
    · wp_walk using q1
      exact ⟨_, rfl, h⟩
theorem enum_begins0 {prog : Program} {w : World} {A : Around} {E : Value → Shared → Prop} {s : Shared} {v : Value} {o : Obj} {H : Heap → Prop} {Q : Value → Shared → Prop} (B : Begins v o H) (h1 : H s.heap)
    (h : ∀ h', IsEnum h' (s.heap.objs.size + 1) s.heap.objs.size 0 .none → h'.get? s.heap.objs.size = some o → h'.objs.size = s.heap.objs.size + 2 →
      (∀ b o, s.heap.get? b = some o → h'.get? b = some o) → Q (.ref (s.heap.objs.size + 1)) { s with heap := h' }) :
    wpAny (model prog w) A (call (.type "enumerate") [v]) Q E s := by
  refine callType_new F.called_enumerate (by decide) (F.typeCall_enumerate_1 _) (F.newCall_enumerate_1 _) (fun obj => F.args_object_init_2 obj _) F.entry_enumerate_new
    (meets_enumerate_newB0 B) ⟨h1, ?_⟩
  have hz : (s.heap.push o).objs.size = s.heap.objs.size + 1 := Heap.size_push ..
  show _ ∧ _
  rw [hz]
  have he : IsEnum ((s.heap.push o).push { cls := .type "enumerate", data := .fields #[.none, .bool false, .ref s.heap.objs.size, rawInt 0, .none, .none] }) (s.heap.objs.size + 1) s.heap.objs.size 0 .none := by
    have := Heap.get?_push_size (s.heap.push o) (o := { cls := .type "enumerate", data := .fields #[.none, .bool false, .ref s.heap.objs.size, rawInt 0, .none, .none] }) rfl
    rw [hz] at this; exact this
  refine ⟨⟨_, he, rfl⟩, h _ he (Heap.get?_push_of_some _ (Heap.get?_push_size _ B.free)) (by rw [Heap.size_push, hz]) fun b o x => Heap.get?_push_of_some _ (Heap.get?_push_of_some _ x)⟩
def iEnumB (K : PySem.W.Frag) (ta : TA) : TI := fun σ H R => ta σ H fun vs H1 => ∃ k a xs, vs = [.ref a] ∧ SqB k K H1 a xs ∧ R (IteB k K a) H1
theorem pi_enumB {X : Cx} {e : Expr} {ta : TA} {p pos tpos : Pos} {elts : List Expr} {kk : Nat} (hg : Gl X "enumerate") (hm : X.mg "enumerate" = none) (ha : PA X [e] ta) (hs : starEach [e] X.env = [(false, eval e X.env)] := by rfl) :
    PI X (.Tuple elts kk tpos) (.Call (.Name "enumerate" p) [e] [] pos) (iEnumB X.K ta) := by
  refine ⟨fun pins s σ H R I h => ?_⟩
  refine Call_ (ld_blt I hg hm boot_enumerate (PyProof.Rows.callWith_type1 (thn (ha.run pos pins s σ H _ I h) fun us s1 ⟨vs, H1, I1, r1, q1⟩ => ?_) hs rfl))
  obtain ⟨k, a, xs, ex, hq, q⟩ := q1
  subst ex
  cases r1 with
  | cons r rr =>
    cases rr
    cases r
    obtain ⟨its, rv, p', hz⟩ := seqB I1 hq
    refine enum_begins0 (beginsB k a its.toArray) p' fun h' he hit hsz hk => wpAny_pyIter_enum he ?_
    have I2 : Inv X pins σ H1 { s1 with heap := h' } := I1.kept (t' := s1.toks) hk
    refine ⟨s1.heap.objs.size + 1, [s1.heap.objs.size + 1, s1.heap.objs.size], _, _, H1, rfl, I2, turn_enumB k a (s1.heap.objs.size + 1) s1.heap.objs.size, ⟨⟨.none, he⟩, itB_new k hit, Nat.succ_ne_self _, Nat.ne_of_lt hz, Nat.ne_of_lt (Nat.lt_succ_of_lt hz)⟩, fun b hb => ?_, q⟩
    have e' : b = s1.heap.objs.size + 1 ∨ b = s1.heap.objs.size := by simpa using hb
    have hle : s1.heap.objs.size ≤ b := by
      rcases e' with z | z
      · rw [z]; exact Nat.le_add_right _ _
      · rw [z]; exact Nat.le_refl _
    exact I1.fpOk hle (I1.hok.fresh hle)
def ItzB (k1 k2 : Bool) (K : PySem.W.Frag) (a b : Addr) : It :=
  ⟨fun i H => ∃ (xs ys : List V) (x y : V), SqB k1 K H a xs ∧ SqB k2 K H b ys ∧ xs[i]? = some x ∧ ys[i]? = some y,
    fun i H v H' => ∃ T x y, v = .ref T ∧ H T = none ∧ H' = upd H T (.tup [x, y]) ∧ (∀ xs, SqB k1 K H a xs → xs[i]? = some x) ∧ ∀ ys, SqB k2 K H b ys → ys[i]? = some y,
    fun i H => ∃ xs ys : List V, SqB k1 K H a xs ∧ SqB k2 K H b ys ∧ i ≤ xs.length ∧ i ≤ ys.length ∧ (xs.length = i ∨ ys.length = i)⟩
theorem turn_zipB {P : Program} {w : World} {K : PySem.W.Frag} {elts : List Expr} {kk : Nat} {tpos : Pos} (k1 k2 : Bool) {a b z TI TO i1 i2 : Addr} (D : ZipApart z TI TO i1 i2 a b) (D2 : ZipApart z TI TO i2 i1 b a) :
    Turn P w K (.Tuple elts kk tpos) (ItzB k1 k2 K a b) [z, TI, TO, i1, i2] z (fun i h => IsZip h z TI TO .none ∧ IsTupOf2 h TI (.ref i1) (.ref i2) ∧ (∃ x y, IsTupOf2 h TO x y) ∧ ItB k1 h i1 a i ∧ ItB k2 h i2 b i) where
  mem := by simp
  obj := fun i h st c hc => by
    obtain ⟨hz, hTI, ⟨x, y, hTO⟩, h1, h2⟩ := st
    have e' : c = z ∨ c = TI ∨ c = TO ∨ c = i1 ∨ c = i2 := by simpa using hc
    rcases e' with q | q | q | q | q
    · rw [q]; exact ⟨_, hz, fun v q => nomatch q⟩
    · rw [q]; exact ⟨_, hTI, fun v q => nomatch q⟩
    · rw [q]; exact ⟨_, hTO, fun v q => nomatch q⟩
    · rw [q]; exact h1.obj
    · rw [q]; exact h2.obj
  keep := fun i h h' st k => by
    obtain ⟨hz, hTI, ⟨x, y, hTO⟩, h1, h2⟩ := st
    exact ⟨k z (by simp) _ hz, k TI (by simp) _ hTI, ⟨x, y, k TO (by simp) _ hTO⟩, h1.at fun o q => k i1 (by simp) o q, h2.at fun o q => k i2 (by simp) o q⟩
  item := by
    intro X hP hw hK hc i pins s σ H E I hf st hg
    subst hP hw hK
    obtain ⟨hz, hTI, ⟨x0, y0, hTO⟩, h1, h2⟩ := st
    obtain ⟨xs, ys, x, y, hqx, hqy, hx, hy⟩ := hg
    obtain ⟨its, rv, p, _⟩ := seqB I hqx
    obtain ⟨its2, rv2, p2, _⟩ := seqB I hqy
    obtain ⟨u, hu, ru⟩ := rv.get hx
    obtain ⟨u2, hu2, ru2⟩ := rv2.get hy
    have hzl : z < s.heap.objs.size := Heap.lt_size hz
    have S : ZipSep2 z TI TO i1 i2 [i1, a] [i2, b] := ⟨D.TIz, D.TOz, D.TITO, D.TIi1, by simp, by simp [Ne.symm D.i1z, Ne.symm D.l1z], by simp [D.TOi1, Ne.symm D.l1TO], D.TIi2, by simp, by simp [Ne.symm D.i2z, Ne.symm D2.l1z], by simp [D.TOi2, Ne.symm D2.l1TO], by simp [D.i12, Ne.symm D2.l1i2], by simp [Ne.symm D.i12, Ne.symm D.l1i2]⟩
    refine wpAny_pyNext_zipD2_item S (drawsB k1 (by exact I.ok.hd hc) i1 a D.l1i1 its.toArray) (drawsB k2 (by exact I.ok.hd hc) i2 b D2.l1i1 its2.toArray) hz hTI hTO ⟨h1, p⟩ ⟨h2, p2⟩
      (by obtain ⟨q, _⟩ := List.getElem?_eq_some_iff.mp hu; simpa using q) (by obtain ⟨q, _⟩ := List.getElem?_eq_some_iff.mp hu2; simpa using q) fun x' y' h' tk hx' hy' z' TO' h1' h2' hT hsz hk => ?_
    have hxu : x' = u := by
      have : its[i]? = some x' := by simpa using hx'
      rw [hu] at this; cases this; rfl
    have hyu : y' = u2 := by
      have : its2[i]? = some y' := by simpa using hy'
      rw [hu2] at this; cases this; rfl
    subst hxu hyu
    refine ⟨_, rfl, wpAny_letOwnedTupleGo_zip (s := { s with heap := h', toks := tk }) z' fun h'' z'' sb => ?_⟩
    have hT2 : h''.get? s.heap.objs.size = some { cls := .type "tuple", data := .seq #[x', y'] } := (sb.2 _ (Nat.ne_of_gt hzl)).trans hT
    have new : ObjOk X.prog X.w (upd H s.heap.objs.size (.tup [x, y])) h'' s.heap.objs.size (.tup [x, y]) :=
      ⟨by show 2 ≤ sizeLine; decide, [x', y'], .cons ru (.cons ru2 .nil), ⟨_, hT2, rfl, _, rfl⟩⟩
    have I1 : Inv X pins σ (upd H s.heap.objs.size (.tup [x, y])) { s with heap := h'', toks := tk } :=
      I.turnedNew (ch := [z, TI, TO, i1, i2]) (fun c o hb q => (sb.2 c (fun q' => hb (by simp [q']))).trans (hk c o (fun q' => hb (by simp [q'])) (fun q' => hb (by simp [q'])) (fun q' => hb (by simp [q'])) (fun q' => hb (by simp [q'])) q)) hf (Nat.le_refl _) new
    refine ⟨.ref s.heap.objs.size, _, I1, rfl, ⟨_, x, y, rfl, I.hok.fresh (Nat.le_refl _), rfl, fun l hl => by rw [seqB_inj I hl hqx]; exact hx, fun l hl => by rw [seqB_inj I hl hqy]; exact hy⟩, ⟨z'', ?_, ⟨x', y', ?_⟩, ?_, ?_⟩, fun c hcm => ?_⟩
    · exact (sb.2 _ D.TIz).trans (hk _ _ D.TIz D.TITO D.TIi1 D.TIi2 hTI)
    · exact (sb.2 _ D.TOz).trans TO'
    · exact h1'.1.at fun o q => (sb.2 _ D.i1z).trans q
    · exact h2'.1.at fun o q => (sb.2 _ D.i2z).trans q
    · have hlt : c < s.heap.objs.size := by
        have e' : c = z ∨ c = TI ∨ c = TO ∨ c = i1 ∨ c = i2 := by simpa using hcm
        rcases e' with q | q | q | q | q
        · rw [q]; exact hzl
        · rw [q]; exact Heap.lt_size hTI
        · rw [q]; exact Heap.lt_size hTO
        · rw [q]; obtain ⟨_, e1, _⟩ := h1.obj; exact Heap.lt_size e1
        · rw [q]; obtain ⟨_, e2, _⟩ := h2.obj; exact Heap.lt_size e2
      rw [upd_ne (Nat.ne_of_lt hlt)]
      exact (hf c hcm).1
  done := by
    intro X hP hw hK hc i pins s σ H E I hf st hg
    subst hP hw hK
    obtain ⟨hz, hTI, ⟨x0, y0, hTO⟩, h1, h2⟩ := st
    obtain ⟨xs, ys, hqx, hqy, hl1, hl2, hend⟩ := hg
    obtain ⟨its, rv, p, _⟩ := seqB I hqx
    obtain ⟨its2, rv2, p2, _⟩ := seqB I hqy
    have l1 := rv.length
    have l2 := rv2.length
    have S : ZipSep2 z TI TO i1 i2 [i1, a] [i2, b] := ⟨D.TIz, D.TOz, D.TITO, D.TIi1, by simp, by simp [Ne.symm D.i1z, Ne.symm D.l1z], by simp [D.TOi1, Ne.symm D.l1TO], D.TIi2, by simp, by simp [Ne.symm D.i2z, Ne.symm D2.l1z], by simp [D.TOi2, Ne.symm D2.l1TO], by simp [D.i12, Ne.symm D2.l1i2], by simp [Ne.symm D.i12, Ne.symm D.l1i2]⟩
    refine wpAny_pyNext_zipD2_end S (drawsB k1 (by exact I.ok.hd hc) i1 a D.l1i1 its.toArray) (drawsB k2 (by exact I.ok.hd hc) i2 b D2.l1i1 its2.toArray) hz hTI hTO ⟨h1, p⟩ ⟨h2, p2⟩
      (by simp; omega) (by simp; omega) (by rcases hend with q | q <;> simp <;> omega) fun h' tk hk => ⟨rfl, I.turnedL (t' := tk) (ch := [z, TI, TO, i1, i2]) (fun c o hb q =>
      hk c o (fun q' => hb (by simp [q'])) (fun q' => hb (by simp [q'])) (fun q' => hb (by simp [q'])) (fun q' => hb (by simp [q'])) q) hf⟩
  self := fun A i s Q E st h => wpAny_pyIter_zip st.1 h
def iZipB (K : PySem.W.Frag) (ta : TA) : TI := fun σ H R => ta σ H fun vs H1 => ∃ k1 k2 a b xs ys, vs = [.ref a, .ref b] ∧ SqB k1 K H1 a xs ∧ SqB k2 K H1 b ys ∧ R (ItzB k1 k2 K a b) H1
theorem pi_zipB {X : Cx} {e e2 : Expr} {ta : TA} {p pos tpos : Pos} {elts : List Expr} {kk : Nat} (hg : Gl X "zip") (hm : X.mg "zip" = none) (ha : PA X [e, e2] ta)
    (hs : starEach [e, e2] X.env = (false, eval e X.env) :: starEach [e2] X.env := by rfl) (hpl : (backTo pos (starEach [e2] X.env)).any (·.1) = false := by rfl) :
    PI X (.Tuple elts kk tpos) (.Call (.Name "zip" p) [e, e2] [] pos) (iZipB X.K ta) := by
  refine ⟨fun pins s σ H R I h => ?_⟩
  refine Call_ (ld_blt I hg hm PyProof.Rows.boot_zip (PyProof.Rows.callWith_type1 (thn (ha.run pos pins s σ H _ I h) fun us s1 ⟨vs, H1, I1, r1, q1⟩ => ?_) hs hpl))
  obtain ⟨k1, k2, a, b, xs, ys, ex, hqx, hqy, q⟩ := q1
  subst ex
  cases r1 with
  | cons r rr =>
    cases rr with
    | cons r' rr =>
      cases rr
      cases r
      cases r'
      have fresh5 : ∀ c, c ∈ [s1.heap.objs.size + 4, s1.heap.objs.size + 2, s1.heap.objs.size + 3, s1.heap.objs.size, s1.heap.objs.size + 1] → FpOk X pins H1 c := fun c hcm => by
        have hle : s1.heap.objs.size ≤ c := by
          simp only [List.mem_cons, List.not_mem_nil, or_false] at hcm
          omega
        exact I1.fpOk hle (I1.hok.fresh hle)
      obtain ⟨its, rv, p1, l1⟩ := seqB I1 hqx
      obtain ⟨its2, rv2, p2, l2⟩ := seqB I1 hqy
      refine zip_begins2 (beginsB k1 a its.toArray) (beginsB k2 b its2.toArray) p1 p2 fun h' hz hTI hTO h1 h2 hsz hk => wpAny_pyIter_zip hz ?_
      have I2 : Inv X pins σ H1 { s1 with heap := h' } := I1.kept (t' := s1.toks) hk
      have D : ZipApart (s1.heap.objs.size + 4) (s1.heap.objs.size + 2) (s1.heap.objs.size + 3) s1.heap.objs.size (s1.heap.objs.size + 1) a b := PySem.W.ktu_apart s1.heap.objs.size a b l1 l2
      have D2 : ZipApart (s1.heap.objs.size + 4) (s1.heap.objs.size + 2) (s1.heap.objs.size + 3) (s1.heap.objs.size + 1) s1.heap.objs.size b a := ⟨D.TIz, D.TOz, D.i2z, D.i1z, D.TITO, D.TIi2, D.TIi1, D.TOi2, D.TOi1, D.i12.symm, D.l2z, D.l2TO, D.l2i2, D.l2i1, D.l1z, D.l1TO, D.l1i2, D.l1i1⟩
      exact ⟨s1.heap.objs.size + 4, [s1.heap.objs.size + 4, s1.heap.objs.size + 2, s1.heap.objs.size + 3, s1.heap.objs.size, s1.heap.objs.size + 1], _, _, H1, rfl, I2, turn_zipB k1 k2 D D2, ⟨hz, hTI, ⟨_, _, hTO⟩, itB_new k1 h1, itB_new k2 h2⟩, fresh5, q⟩
end LyI
set_option Elab.async false
set_option linter.all false
set_option maxRecDepth 100000
namespace LyI
open PySem PySem.Spec L2
open PyProof.Rows hiding St
section
variable {prog : Program} {w : World} {A : Around} {E : Value → Shared → Prop} {s : Shared} {z TI TO i1 i2 : Addr} {fp1 fp2 : List Addr} {n1 n2 i : Nat} {P1 P2 : Nat → Value → Prop} {St1 St2 : Nat → Heap → Prop}
end
def ItezB (k1 k2 : Bool) (K : PySem.W.Frag) (a b : Addr) : It :=
  ⟨fun i H => ∃ (xs ys : List V) (x y : V), SqB k1 K H a xs ∧ SqB k2 K H b ys ∧ xs[i]? = some x ∧ ys[i]? = some y,
    fun i H v H' => ∃ T T' x y, v = .ref T' ∧ H T = none ∧ T' ≠ T ∧ H T' = none ∧ H' = upd (upd H T (.tup [x, y])) T' (.tup [.int (i : Nat), .ref T]) ∧ (∀ xs, SqB k1 K H a xs → xs[i]? = some x) ∧ ∀ ys, SqB k2 K H b ys → ys[i]? = some y,
    fun i H => ∃ xs ys : List V, SqB k1 K H a xs ∧ SqB k2 K H b ys ∧ i ≤ xs.length ∧ i ≤ ys.length ∧ (xs.length = i ∨ ys.length = i)⟩
theorem FpOk.upd {X : Cx} {pins : List (Addr × Obj)} {H : Hp} {b T : Addr} {o : HO} (h : FpOk X pins H b) (hb : b ≠ T) : FpOk X pins (upd H T o) b := ⟨by rw [upd_ne hb]; exact h.1, h.2⟩
end LyI
set_option Elab.async false
set_option linter.all false
set_option maxRecDepth 100000
namespace Ly
open PySem PySem.Spec L2
open PyProof.Rows hiding St
inductive Sq where
  | l (i : Nat) | t (ds : List D)
inductive J where
  | tup (ds : List D) | lst (i : Nat) | rng (lo : Int) (n : Nat) | str (x : Str) | enum (s : Sq) | zip (s t : Sq) | cnt (lo c : Int) (n : Nat) | rev (s : Sq) (n : Nat) | ez (s t : Sq)
def seqAt (S : Hs) (i : Nat) : Option (List D) := seqD (.ref i) S
def Sq.at (S : Hs) : Sq → Option (List D)
  | .l i => seqAt S i
  | .t ds => some ds
def sqOf (x : D) (S : Hs) : Option Sq := match x with
  | .ref i => (seqAt S i).map fun _ => .l i
  | .tup ds => some (.t ds)
  | .wt ds => some (.t ds)
  | _ => none
def SqR (K : PySem.W.Frag) (p : Nat → Addr) (n : Nat) (H : Hp) : Sq → Bool → Addr → Prop
  | .l i, k, a => i < n ∧ k = true ∧ a = p i
  | .t ds, k, a => k = false ∧ ∃ vs, (H a = some (.tup vs) ∨ Wt K a vs) ∧ Reps K p n H ds vs
def itGo (j : J) (k : Nat) (S : Hs) : Option (Option D) := match j with
  | .tup ds => some ds[k]?
  | .lst i => (seqAt S i).map (·[k]?)
  | .rng lo n => some (if k < n then some (.int (lo + k)) else none)
  | .str x => some (x.cps[k]?.map fun c => .str ⟨#[c]⟩)
  | .cnt lo c n => some (if k < n then some (.int (lo + k * c)) else none)
  | .enum s => (s.at S).bind fun ds => if k ≤ ds.length then some (ds[k]?.map fun d => .tup [.int k, d]) else none
  | .zip a b => match a.at S, b.at S with
    | some xs, some ys => if k ≤ xs.length ∧ k ≤ ys.length then some (match xs[k]?, ys[k]? with
      | some x, some y => some (.tup [x, y])
      | _, _ => none) else none
    | _, _ => none
  | .rev s n => (s.at S).bind fun ds => if ds.length = n then some (if k < n then ds[n - 1 - k]? else none) else none
  | .ez a b => match a.at S, b.at S with
    | some xs, some ys => if k ≤ xs.length ∧ k ≤ ys.length then some (match xs[k]?, ys[k]? with
      | some x, some y => some (.tup [.int k, .tup [x, y]])
      | _, _ => none) else none
    | _, _ => none
def JRel (K : PySem.W.Frag) (p : Nat → Addr) (n : Nat) (H : Hp) : J → It → Prop
  | .tup ds, I => ∃ a vs, Rep K p n H (.tup ds) (.ref a) ∧ (H a = some (.tup vs) ∧ Reps K p n H ds vs) ∧ I = Itt K a ∨ Rep K p n H (.wt ds) (.ref a) ∧ (Wt K a vs ∧ Reps K p n H ds vs) ∧ I = Itt K a
  | .lst i, I => i < n ∧ I = Itl K (p i)
  | .rng lo m, I => I = Itr lo m
  | .str x, I => I = Its x
  | .cnt lo c m, I => I = Itc lo c m
  | .enum s, I => ∃ k a, SqR K p n H s k a ∧ I = LyI.IteB k K a
  | .zip s t, I => ∃ k1 a k2 b, SqR K p n H s k1 a ∧ SqR K p n H t k2 b ∧ I = LyI.ItzB k1 k2 K a b
  | .rev s m, I => ∃ b a, SqR K p n H s b a ∧ I = (if b = true then Itv K a m else RT.ItvT K a m)
  | .ez s t, I => ∃ k1 a k2 b, SqR K p n H s k1 a ∧ SqR K p n H t k2 b ∧ I = LyI.ItezB k1 k2 K a b
section
variable {K : PySem.W.Frag} {E : St → XK} {p q : Nat → Addr} {n m : Nat} {H H' : Hp} {S : Hs} {j : J} {I : It} {k : Nat}
theorem SqR.ext {s : Sq} {k : Bool} {a : Addr} (h : SqR K p n H s k a) (x : Ext n m p q H H') : SqR K q m H' s k a := by
  cases s with
  | l i => obtain ⟨h1, h2, h3⟩ := h; exact ⟨Nat.lt_of_lt_of_le h1 x.le, h2, by rw [x.ag i h1]; exact h3⟩
  | t ds =>
    obtain ⟨h1, vs, h2, h3⟩ := h
    refine ⟨h1, vs, ?_, h3.ext x _ _⟩
    rcases h2 with h2 | h2
    · exact .inl (x.tp _ _ h2)
    · exact .inr h2
theorem JRel.ext (h : JRel K p n H j I) (x : Ext n m p q H H') : JRel K q m H' j I := by
  cases j with
  | tup ds =>
    obtain ⟨a, vs, h⟩ := h
    rcases h with ⟨h1, ⟨h2, h3⟩, h4⟩ | ⟨h1, ⟨h2, h3⟩, h4⟩
    · exact ⟨a, vs, .inl ⟨h1.ext x _ _, ⟨x.tp _ _ h2, h3.ext x _ _⟩, h4⟩⟩
    · exact ⟨a, vs, .inr ⟨h1.ext x _ _, ⟨h2, h3.ext x _ _⟩, h4⟩⟩
  | lst i => obtain ⟨h1, h2⟩ := h; exact ⟨Nat.lt_of_lt_of_le h1 x.le, by rw [x.ag i h1]; exact h2⟩
  | rng lo m => exact h
  | str z => exact h
  | cnt lo c m => exact h
  | enum s => obtain ⟨k, a, h1, h2⟩ := h; exact ⟨k, a, h1.ext x, h2⟩
  | zip s t => obtain ⟨k1, a, k2, b, h1, h2, h3⟩ := h; exact ⟨k1, a, k2, b, h1.ext x, h2.ext x, h3⟩
  | rev s n => obtain ⟨b, a, h1, h2⟩ := h; exact ⟨b, a, h1.ext x, h2⟩
  | ez s t => obtain ⟨k1, a, k2, b, h1, h2, h3⟩ := h; exact ⟨k1, a, k2, b, h1.ext x, h2.ext x, h3⟩
theorem seqAt_V {i : Nat} {ds : List D} (R : Real K p S H) (h : seqAt S i = some ds) : ∃ vs, SqL K H (p i) vs ∧ Reps K p S.length H ds vs := by
  have hi : i < S.length := by
    unfold seqAt seqD at h
    simp only at h
    split at h
    · rename_i q; exact Real.lt q
    · rename_i q; exact Real.lt q
    · cases h
  obtain ⟨a, vs, e, h1, r⟩ := seq_V R (.ref hi) h
  cases e
  exact ⟨vs, h1, r⟩
theorem SqR.seq {s : Sq} {b : Bool} {a : Addr} {ds : List D} (R : Real K p S H) (h : SqR K p S.length H s b a) (e : s.at S = some ds) : ∃ vs, LyI.SqB b K H a vs ∧ Reps K p S.length H ds vs := by
  cases s with
  | l i =>
    obtain ⟨h1, rfl, rfl⟩ := h
    obtain ⟨vs, hs, r⟩ := seqAt_V R e
    exact ⟨vs, hs, r⟩
  | t es =>
    obtain ⟨rfl, vs, h2, h3⟩ := h
    cases e
    refine ⟨vs, ?_, h3⟩
    rcases h2 with h2 | h2
    · exact SqT.of h2
    · exact h2.sq
theorem sqOf_R {x : D} {v : V} {s : Sq} (R : Real K p S H) (r : Rep K p S.length H x v) (h : sqOf x S = some s) : ∃ b a ds, v = .ref a ∧ SqR K p S.length H s b a ∧ s.at S = some ds := by
  cases x with
  | ref i =>
    simp only [sqOf, Option.map_eq_some_iff] at h
    obtain ⟨ds, e, rfl⟩ := h
    cases r with
    | ref hi => exact ⟨true, _, ds, rfl, ⟨hi, rfl, rfl⟩, e⟩
  | tup ds =>
    cases h
    cases r with
    | tup t r => exact ⟨false, _, ds, rfl, ⟨rfl, _, .inl t, r⟩, rfl⟩
  | wt ds =>
    cases h
    cases r with
    | wt t r => exact ⟨false, _, ds, rfl, ⟨rfl, _, .inr t, r⟩, rfl⟩
  | _ => cases h
theorem Reps.none {ds : List D} {vs : List V} (r : Reps K p n H ds vs) (e : ds[k]? = none) : vs.length ≤ k := by
  rw [← r.len]; exact List.getElem?_eq_none_iff.mp e
theorem it_stop (R : Real K p S H) (h : JRel K p S.length H j I) (e : itGo j k S = some none) : I.stop k H := by
  cases j with
  | tup ds =>
    obtain ⟨a, vs, h⟩ := h
    simp only [itGo, Option.some.injEq] at e
    rcases h with ⟨h1, ⟨h2, h3⟩, rfl⟩ | ⟨h1, ⟨h2, h3⟩, rfl⟩
    · exact ⟨vs, SqT.of h2, h3.none e⟩
    · exact ⟨vs, h2.sq, h3.none e⟩
  | lst i =>
    obtain ⟨h1, rfl⟩ := h
    simp only [itGo, Option.map_eq_some_iff] at e
    obtain ⟨ds, e, e2⟩ := e
    obtain ⟨vs, hs, r⟩ := seqAt_V R e
    exact ⟨vs, hs, r.none e2⟩
  | rng lo m =>
    cases h
    simp only [itGo, Option.some.injEq] at e
    split at e
    · cases e
    · rename_i hk; exact Nat.le_of_not_lt hk
  | str x =>
    cases h
    simp only [itGo, Option.some.injEq, Option.map_eq_none_iff] at e
    exact Array.getElem?_eq_none_iff.mp e
  | cnt lo c m =>
    cases h
    simp only [itGo, Option.some.injEq] at e
    split at e
    · cases e
    · rename_i hk; exact Nat.le_of_not_lt hk
  | enum s =>
    obtain ⟨b, a, h1, rfl⟩ := h
    simp only [itGo, Option.bind_eq_some_iff] at e
    obtain ⟨ds, e, e2⟩ := e
    obtain ⟨vs, hs, r⟩ := h1.seq R e
    split at e2
    · rename_i hk
      simp only [Option.some.injEq, Option.map_eq_none_iff, List.getElem?_eq_none_iff] at e2
      exact ⟨vs, hs, by rw [← r.len]; omega⟩
    · cases e2
  | zip s t =>
    obtain ⟨b1, a, b2, b, h1, h2, rfl⟩ := h
    simp only [itGo] at e
    split at e
    · rename_i xs ys e1 e2
      obtain ⟨vs, hs, r⟩ := h1.seq R e1
      obtain ⟨us, hs', r'⟩ := h2.seq R e2
      split at e
      · rename_i hk
        simp only [Option.some.injEq] at e
        have l1 := r.len
        have l2 := r'.len
        refine ⟨vs, us, hs, hs', by omega, by omega, ?_⟩
        split at e
        · cases e
        · rename_i hno
          cases q1 : xs[k]? with
          | none => have := List.getElem?_eq_none_iff.mp q1; exact .inl (by omega)
          | some x =>
            cases q2 : ys[k]? with
            | none => have := List.getElem?_eq_none_iff.mp q2; exact .inr (by omega)
            | some y => exact (hno x y q1 q2).elim
      · cases e
    · cases e
  | rev s n =>
    obtain ⟨b, a, h1, rfl⟩ := h
    simp only [itGo, Option.bind_eq_some_iff] at e
    obtain ⟨ds, e, e2⟩ := e
    have hn : n ≤ k := by
      split at e2
      · rename_i hl
        simp only [Option.some.injEq] at e2
        split at e2
        · rename_i hk
          have := List.getElem?_eq_none_iff.mp e2
          omega
        · omega
      · cases e2
    cases b
    · exact hn
    · exact hn
  | ez s t =>
    obtain ⟨b1, a, b2, b, h1, h2, rfl⟩ := h
    simp only [itGo] at e
    split at e
    · rename_i xs ys e1 e2
      obtain ⟨vs, hs, r⟩ := h1.seq R e1
      obtain ⟨us, hs', r'⟩ := h2.seq R e2
      split at e
      · rename_i hk
        simp only [Option.some.injEq] at e
        have l1 := r.len
        have l2 := r'.len
        refine ⟨vs, us, hs, hs', by omega, by omega, ?_⟩
        split at e
        · cases e
        · rename_i hno
          cases q1 : xs[k]? with
          | none => have := List.getElem?_eq_none_iff.mp q1; exact .inl (by omega)
          | some x =>
            cases q2 : ys[k]? with
            | none => have := List.getElem?_eq_none_iff.mp q2; exact .inr (by omega)
            | some y => exact (hno x y q1 q2).elim
      · cases e
    · cases e
theorem it_go (R : Real K p S H) (h : JRel K p S.length H j I) {d : D} (e : itGo j k S = some (some d)) :
    I.go k H ∧ ∀ x H', I.yld k H x H' → Ext S.length S.length p p H H' ∧ Real K p S H' ∧ Rep K p S.length H' d x := by
  cases j with
  | tup ds =>
    obtain ⟨a, vs, h⟩ := h
    simp only [itGo, Option.some.injEq] at e
    rcases h with ⟨h1, ⟨h2, h3⟩, rfl⟩ | ⟨h1, ⟨h2, h3⟩, rfl⟩
    · obtain ⟨v, e2, r⟩ := h3.get e
      refine ⟨⟨vs, v, SqT.of h2, e2⟩, fun x H' y => ?_⟩
      obtain ⟨rfl, y⟩ := y
      have := (y vs (SqT.of h2)).symm.trans e2
      cases this
      exact ⟨Ext.refl, R, r⟩
    · obtain ⟨v, e2, r⟩ := h3.get e
      refine ⟨⟨vs, v, h2.sq, e2⟩, fun x H' y => ?_⟩
      obtain ⟨rfl, y⟩ := y
      have := (y vs h2.sq).symm.trans e2
      cases this
      exact ⟨Ext.refl, R, r⟩
  | lst i =>
    obtain ⟨h1, rfl⟩ := h
    simp only [itGo, Option.map_eq_some_iff] at e
    obtain ⟨ds, e, e2⟩ := e
    obtain ⟨vs, hs, r⟩ := seqAt_V R e
    obtain ⟨v, e3, r3⟩ := r.get e2
    refine ⟨⟨vs, v, hs, e3⟩, fun x H' y => ?_⟩
    obtain ⟨rfl, y⟩ := y
    have := (y vs hs).symm.trans e3
    cases this
    exact ⟨Ext.refl, R, r3⟩
  | rng lo m =>
    cases h
    simp only [itGo, Option.some.injEq] at e
    split at e
    · rename_i hk
      cases e
      refine ⟨hk, fun x H' y => ?_⟩
      obtain ⟨rfl, rfl⟩ := y
      exact ⟨Ext.refl, R, .int _⟩
    · cases e
  | str z =>
    cases h
    simp only [itGo, Option.some.injEq, Option.map_eq_some_iff] at e
    obtain ⟨c, e, rfl⟩ := e
    refine ⟨(Array.getElem?_eq_some_iff.mp e).1, fun x H' y => ?_⟩
    obtain ⟨rfl, c', e', rfl⟩ := y
    rw [e] at e'; cases e'
    exact ⟨Ext.refl, R, .str _⟩
  | cnt lo c m =>
    cases h
    simp only [itGo, Option.some.injEq] at e
    split at e
    · rename_i hk
      cases e
      refine ⟨hk, fun x H' y => ?_⟩
      obtain ⟨rfl, rfl⟩ := y
      exact ⟨Ext.refl, R, .int _⟩
    · cases e
  | enum s =>
    obtain ⟨b, a, h1, rfl⟩ := h
    simp only [itGo, Option.bind_eq_some_iff] at e
    obtain ⟨ds, e, e2⟩ := e
    obtain ⟨vs, hs, r⟩ := h1.seq R e
    split at e2
    · rename_i hk
      simp only [Option.some.injEq, Option.map_eq_some_iff] at e2
      obtain ⟨c, e2, rfl⟩ := e2
      obtain ⟨v, e3, r3⟩ := r.get e2
      refine ⟨⟨vs, v, hs, e3⟩, fun x H' y => ?_⟩
      obtain ⟨T, z, rfl, hT, rfl, y⟩ := y
      have := (y vs hs).symm.trans e3
      cases this
      exact ⟨ext_junk hT, R.junk hT, .tup upd_same (.cons (.int _) (.cons (r3.ext (ext_junk hT) _ _) .nil))⟩
    · cases e2
  | zip s t =>
    obtain ⟨b1, a, b2, b, h1, h2, rfl⟩ := h
    simp only [itGo] at e
    split at e
    · rename_i xs ys e1 e2
      obtain ⟨vs, hs, r⟩ := h1.seq R e1
      obtain ⟨us, hs', r'⟩ := h2.seq R e2
      split at e
      · simp only [Option.some.injEq] at e
        split at e
        · rename_i x y q1 q2
          cases e
          obtain ⟨v, e3, r3⟩ := r.get q1
          obtain ⟨u, e4, r4⟩ := r'.get q2
          refine ⟨⟨vs, us, v, u, hs, hs', e3, e4⟩, fun z H' w => ?_⟩
          obtain ⟨T, z1, z2, rfl, hT, rfl, y1, y2⟩ := w
          have := (y1 vs hs).symm.trans e3
          cases this
          have := (y2 us hs').symm.trans e4
          cases this
          exact ⟨ext_junk hT, R.junk hT, .tup upd_same (.cons (r3.ext (ext_junk hT) _ _) (.cons (r4.ext (ext_junk hT) _ _) .nil))⟩
        · cases e
      · cases e
    · cases e
  | rev s n =>
    obtain ⟨b, a, h1, rfl⟩ := h
    simp only [itGo, Option.bind_eq_some_iff] at e
    obtain ⟨ds, e, e2⟩ := e
    obtain ⟨vs, hs, r⟩ := h1.seq R e
    split at e2
    · simp only [Option.some.injEq] at e2
      split at e2
      · rename_i hk
        obtain ⟨v, e3, r3⟩ := r.get e2
        cases b with
        | true =>
          refine ⟨⟨hk, vs, v, hs, e3⟩, fun x H' y => ?_⟩
          obtain ⟨rfl, y⟩ := y
          have := (y vs hs).symm.trans e3
          cases this
          exact ⟨Ext.refl, R, r3⟩
        | false =>
          refine ⟨⟨hk, vs, v, hs, e3⟩, fun x H' y => ?_⟩
          obtain ⟨rfl, y⟩ := y
          have := (y vs hs).symm.trans e3
          cases this
          exact ⟨Ext.refl, R, r3⟩
      · cases e2
    · cases e2
  | ez s t =>
    obtain ⟨b1, a, b2, b, h1, h2, rfl⟩ := h
    simp only [itGo] at e
    split at e
    · rename_i xs ys e1 e2
      obtain ⟨vs, hs, r⟩ := h1.seq R e1
      obtain ⟨us, hs', r'⟩ := h2.seq R e2
      split at e
      · simp only [Option.some.injEq] at e
        split at e
        · rename_i x y q1 q2
          cases e
          obtain ⟨v, e3, r3⟩ := r.get q1
          obtain ⟨u, e4, r4⟩ := r'.get q2
          refine ⟨⟨vs, us, v, u, hs, hs', e3, e4⟩, fun z H' w => ?_⟩
          obtain ⟨T, T', z1, z2, rfl, hT, hne, hT', rfl, y1, y2⟩ := w
          have := (y1 vs hs).symm.trans e3
          cases this
          have := (y2 us hs').symm.trans e4
          cases this
          have hn : upd H T (.tup [v, u]) T' = none := (upd_ne hne).trans hT'
          have x1 : Ext S.length S.length p p H (upd H T (.tup [v, u])) := ext_junk hT
          have x2 : Ext S.length S.length p p (upd H T (.tup [v, u])) (upd (upd H T (.tup [v, u])) T' (.tup [.int (k : Nat), .ref T])) := ext_junk hn
          have rp : Rep K p S.length (upd H T (.tup [v, u])) (.tup [x, y]) (.ref T) := .tup upd_same (.cons (r3.ext x1 _ _) (.cons (r4.ext x1 _ _) .nil))
          exact ⟨x1.trans x2, (R.junk hT).junk hn, .tup upd_same (.cons (.int _) (.cons (rp.ext x2 _ _) .nil))⟩
        · cases e
      · cases e
    · cases e
end
abbrev MI := Ls → Hs → R J
def TI' (K : PySem.W.Frag) (E : St → XK) (f : MI) : TI := fun s H Q => ∃ p l S, Real K p S H ∧ Sl K p S.length H l s ∧ Post K E S.length p H (f l S) (fun j S1 p1 H1 => ∀ I, JRel K p1 S1.length H1 j I → Q I H1)
structure IM (X : Cx) (E : St → XK) (tg e : Expr) (f : MI) : Prop where pi : PI X tg e (TI' X.K E f)
theorem _root_.L2.PI.weak {X : Cx} {tg e : Expr} {t t' : TI} (h : PI X tg e t) (w : ∀ s H Q, t' s H Q → t s H Q) : PI X tg e t' := ⟨fun pins s σ H Q I q => h.run pins s σ H Q I (w σ H Q q)⟩
theorem _root_.L2.PI.or {X : Cx} {tg e : Expr} {t t' : TI} (h : PI X tg e t) (h' : PI X tg e t') : PI X tg e (fun s H Q => t s H Q ∨ t' s H Q) := ⟨fun pins s σ H Q I q => q.elim (h.run pins s σ H Q I) (h'.run pins s σ H Q I)⟩
def oIt (x : D) (S : Hs) : R J := match x with
  | .tup ds => .ok (.tup ds) S
  | .wt ds => .ok (.tup ds) S
  | .str x => .ok (.str x) S
  | .ref i => match seqAt S i with
    | some _ => .ok (.lst i) S
    | none => .bad
  | _ => .bad
def mIt (f : M) : MI := fun l S => (f l S).bind oIt
def oRng1 (ds : List D) (S : Hs) : R J := match ds with
  | [.int n] => if -(2 ^ 62) ≤ n ∧ n < 2 ^ 62 then .ok (.rng 0 n.toNat) S else .bad
  | _ => .bad
def oRng2 (ds : List D) (S : Hs) : R J := match ds with
  | [.int a, .int b] => if -(2 ^ 62) ≤ a ∧ a < 2 ^ 62 ∧ -(2 ^ 62) ≤ b ∧ b < 2 ^ 62 then .ok (.rng a (b - a).toNat) S else .bad
  | _ => .bad
def mRng1 (f : ML) : MI := fun l S => (f l S).bind oRng1
def mRng2 (f : ML) : MI := fun l S => (f l S).bind oRng2
def oEnum (ds : List D) (S : Hs) : R J := match ds with
  | [x] => match sqOf x S with
    | some s => .ok (.enum s) S
    | none => .bad
  | _ => .bad
def mEnum (f : ML) : MI := fun l S => (f l S).bind oEnum
def oZip (ds : List D) (S : Hs) : R J := match ds with
  | [x, y] => match sqOf x S, sqOf y S with
    | some s, some t => .ok (.zip s t) S
    | _, _ => .bad
  | _ => .bad
def mZip (f : ML) : MI := fun l S => (f l S).bind oZip
def oEz (ds : List D) (S : Hs) : R J := match ds with
  | [x, y] => match sqOf x S, sqOf y S with
    | some s, some t => .ok (.ez s t) S
    | _, _ => .bad
  | _ => .bad
def mEz (f : ML) : MI := fun l S => (f l S).bind oEz
section
variable {X : Cx} {E : St → XK} {tg e e2 : Expr} {f : M} {g : ML} {p0 pos : Pos}
abbrev QJ (K : PySem.W.Frag) (Q : It → Hp → Prop) : J → Hs → (Nat → Addr) → Hp → Prop := fun j S1 p1 H1 => ∀ I, JRel K p1 S1.length H1 j I → Q I H1
theorem seqAt_lt {S : Hs} {i : Nat} {ds : List D} (h : seqAt S i = some ds) : i < S.length := by
  unfold seqAt seqD at h
  simp only at h
  split at h
  · rename_i q; exact Real.lt q
  · rename_i q; exact Real.lt q
  · cases h
theorem i_it (he : EM X E e f) : IM X E tg e (mIt f) :=
  ⟨(PI.or (pi_list he.pe) (PI.or (pi_tup he.pe) (pi_str he.pe))).weak fun s H Q ⟨p, l, S, R, L, h⟩ => by
    unfold mIt at h
    have hc : ∃ d S1, f l S = .ok d S1 ∨ ∃ c fs l1, f l S = .exc c fs l1 S1 := by
      cases q : f l S with
      | ok d S1 => exact ⟨d, S1, .inl rfl⟩
      | exc c fs l1 S1 => exact ⟨.non, S1, .inr ⟨c, fs, l1, rfl⟩⟩
      | bad => rw [q] at h; exact h.elim
    obtain ⟨d, S1, hc | ⟨c, fs, l1, hc⟩⟩ := hc
    · rw [hc] at h
      simp only [Ly.R.bind_ok] at h
      unfold oIt at h
      split at h
      · refine .inr (.inl ⟨p, l, S, R, L, ?_⟩)
        rw [hc]
        intro p1 H1 x1 R1 v r
        cases r with
        | tup t r => exact ⟨_, rfl, ⟨_, SqT.of t⟩, Post.ok (Q := QJ _ Q) h x1 R1 _ ⟨_, _, .inl ⟨.tup t r, ⟨t, r⟩, rfl⟩⟩⟩
      · refine .inr (.inl ⟨p, l, S, R, L, ?_⟩)
        rw [hc]
        intro p1 H1 x1 R1 v r
        cases r with
        | wt t r => exact ⟨_, rfl, ⟨_, t.sq⟩, Post.ok (Q := QJ _ Q) h x1 R1 _ ⟨_, _, .inr ⟨.wt t r, ⟨t, r⟩, rfl⟩⟩⟩
      · refine .inr (.inr ⟨p, l, S, R, L, ?_⟩)
        rw [hc]
        intro p1 H1 x1 R1 v r
        cases r
        exact ⟨_, rfl, Post.ok (Q := QJ _ Q) h x1 R1 _ rfl⟩
      · refine .inl ⟨p, l, S, R, L, ?_⟩
        rw [hc]
        split at h
        · rename_i ds q
          intro p1 H1 x1 R1 v r
          obtain ⟨vs, hs, _⟩ := seqAt_V R1 q
          cases r
          exact ⟨_, rfl, ⟨_, hs⟩, Post.ok (Q := QJ _ Q) h x1 R1 _ ⟨seqAt_lt q, rfl⟩⟩
        · exact h.elim
      · exact h.elim
    · rw [hc] at h
      refine .inl ⟨p, l, S, R, L, ?_⟩
      rw [hc]
      exact h⟩
theorem i_rng1 {a : Expr} (hm : X.mg "range" = none) (ha : LM X E [a] g) (hg : Gl X "range" := by rfl) (hs : starEach [a] X.env = [(false, eval a X.env)] := by rfl) : IM X E tg (.Call (.Name "range" p0) [a] [] pos) (mRng1 g) :=
  ⟨(pi_range1 hg hm ha.pa hs).weak fun s H Q ⟨p, l, S, R, L, h⟩ => TL.of R L h fun p1 S1 H1 d v R1 x1 L1 r1 h1 => by
    unfold oRng1 at h1
    split at h1
    · split at h1
      · rename_i hb
        cases r1 with
        | cons r0 rs => cases rs; cases r0; exact ⟨_, rfl, hb.1, hb.2, Post.ok (Q := QJ _ Q) h1 Ext.refl R1 _ rfl⟩
      · exact h1.elim
    · exact h1.elim⟩
theorem i_enum {elts : List Expr} {kk : Nat} {tpos : Pos} (hm : X.mg "enumerate" = none) (ha : LM X E [e] g) (hg : Gl X "enumerate" := by rfl) (hs : starEach [e] X.env = [(false, eval e X.env)] := by rfl) : IM X E (.Tuple elts kk tpos) (.Call (.Name "enumerate" p0) [e] [] pos) (mEnum g) :=
  ⟨(LyI.pi_enumB hg hm ha.pa hs).weak fun s H Q ⟨p, l, S, R, L, h⟩ => TL.of R L h fun p1 S1 H1 d v R1 x1 L1 r1 h1 => by
    unfold oEnum at h1
    split at h1
    · split at h1
      · rename_i q
        cases r1 with
        | cons r0 rs =>
          cases rs
          obtain ⟨b, a, ds, rfl, h2, e⟩ := sqOf_R R1 r0 q
          obtain ⟨vs, hs, _⟩ := h2.seq R1 e
          exact ⟨b, a, vs, rfl, hs, Post.ok (Q := QJ _ Q) h1 Ext.refl R1 _ ⟨b, a, h2, rfl⟩⟩
      · exact h1.elim
    · exact h1.elim⟩
theorem i_zip {elts : List Expr} {kk : Nat} {tpos : Pos} (hm : X.mg "zip" = none) (ha : LM X E [e, e2] g) (hg : Gl X "zip" := by rfl) (hs : starEach [e, e2] X.env = (false, eval e X.env) :: starEach [e2] X.env := by rfl) (hpl : (backTo pos (starEach [e2] X.env)).any (·.1) = false := by rfl) :
    IM X E (.Tuple elts kk tpos) (.Call (.Name "zip" p0) [e, e2] [] pos) (mZip g) :=
  ⟨(LyI.pi_zipB hg hm ha.pa hs hpl).weak fun s H Q ⟨p, l, S, R, L, h⟩ => TL.of R L h fun p1 S1 H1 d v R1 x1 L1 r1 h1 => by
    unfold oZip at h1
    split at h1
    · split at h1
      · rename_i q q'
        cases r1 with
        | cons r0 rs =>
          cases rs with
          | cons r2 rs =>
            cases rs
            obtain ⟨b, a, ds, rfl, h2, e⟩ := sqOf_R R1 r0 q
            obtain ⟨b', a', ds', rfl, h2', e'⟩ := sqOf_R R1 r2 q'
            obtain ⟨vs, hs, _⟩ := h2.seq R1 e
            obtain ⟨us, hs', _⟩ := h2'.seq R1 e'
            exact ⟨b, b', a, a', vs, us, rfl, hs, hs', Post.ok (Q := QJ _ Q) h1 Ext.refl R1 _ ⟨b, a, b', a', h2, h2', rfl⟩⟩
      · exact h1.elim
    · exact h1.elim⟩
end
def fStep (j : J) (g : MG) (b : MS) (a : Nat × Ls × Hs) : Sum (Nat × Ls × Hs) (R F) := match itGo j a.1 a.2.2 with
  | none => .inr .bad
  | some none => .inr (.ok (.nx a.2.1) a.2.2)
  | some (some d) => match g d a.2.1 a.2.2 with
    | .ok l1 S1 => turnOf (b l1 S1) fun l2 S2 => (a.1 + 1, l2, S2)
    | .exc c fs l1 S1 => .inr (.exc c fs l1 S1)
    | .bad => .inr .bad
noncomputable def fLoop (j : J) (g : MG) (b : MS) (k : Nat) : MS := fun l S => runI (fStep j g b) (k, l, S)
noncomputable def mFor (it : MI) (g : MG) (b : MS) : MS := fun l S => (it l S).bind fun j S1 => fLoop j g b 0 l S1
theorem fLoop_eq (j : J) (g : MG) (b : MS) (k : Nat) (l : Ls) (S : Hs) : fLoop j g b k l S = match itGo j k S with
    | none => .bad
    | some none => .ok (.nx l) S
    | some (some d) => (g d l S).bind fun l1 S1 => (b l1 S1).bind fun r S2 => match r with
      | .nx l2 => fLoop j g b (k + 1) l2 S2
      | .ct l2 => fLoop j g b (k + 1) l2 S2
      | .bk l2 => .ok (.nx l2) S2
      | .rt d => .ok (.rt d) S2 := by
  unfold fLoop
  rw [runI_eq]
  unfold fStep turnOf
  simp only []
  cases itGo j k S with
  | none => rfl
  | some o =>
    cases o with
    | none => rfl
    | some d =>
      simp only []
      cases g d l S with
      | ok l1 S1 =>
        simp only [R.bind_ok]
        cases b l1 S1 with
        | ok r S2 => cases r <;> rfl
        | exc _ _ _ _ => rfl
        | bad => rfl
      | exc _ _ _ _ => rfl
      | bad => rfl
section
variable {X : Cx} {E : St → XK} {tg e : Expr} {it : MI} {g : MG} {b : MS} {pos : Pos} {body : List Stmt}
theorem s_for (hp : PassesOwn (model X.prog X.w) X.A X.env X.xe) (hc : X.calm = true) (hi : IM X E tg e it) (hg : GM X E tg g) (hb : SMs X E body b) (hs : ∀ x, foldedSetIterable e X.env x = pure x := by intro _; rfl) : SM X E (.For tg e body [] pos) (mFor it g b) :=
  ⟨(ps_for hp hc hi.pi hg.pg hb.ps hs).weak fun s H D0 ⟨p, l, S, R, L, h⟩ => by
    refine ⟨p, l, S, R, L, (Post.bind (r := it l S) h).mono fun j S1 p1 H1 _ x1 R1 q I hI => ?_⟩
    obtain ⟨n, hn, _⟩ := runI_ex (Post.ne q)
    rw [show fLoop j g b 0 l S1 = _ from hn.symm] at q
    refine ⟨fun k m s H => ∃ p l S, Real X.K p S H ∧ Sl X.K p S.length H l s ∧ JRel X.K p S.length H j I ∧ Post X.K E S.length p H (iter (fStep j g b) m (k, l, S)) (QF X.K D0), ⟨n, p1, l, S1, R1, L.ext x1, hI, q⟩, ?_⟩
    rintro k m s H ⟨p, l, S, R, L, hI, h⟩
    cases m with
    | zero => exact h.elim
    | succ m =>
      simp only [iter, fStep] at h
      cases e1 : itGo j k S with
      | none => rw [e1] at h; exact h.elim
      | some o =>
        cases o with
        | none => rw [e1] at h; exact .inl ⟨it_stop R hI e1, Post.nx h R L⟩
        | some d =>
          obtain ⟨g1, g2⟩ := it_go R hI e1
          rw [e1] at h
          simp only [] at h
          refine .inr ⟨g1, fun s H => ∃ p l S, Real X.K p S H ∧ Sl X.K p S.length H l s ∧ JRel X.K p S.length H j I ∧ Post X.K E S.length p H (iter (fStep j g b) m (k + 1, l, S)) (QF X.K D0), fun s' H' w => ⟨m, Nat.lt_succ_self m, w⟩, fun x H' y => ?_⟩
          obtain ⟨x2, R2, r2⟩ := g2 x H' y
          refine ⟨p, l, S, d, R2, L.ext x2, r2, ?_⟩
          have h2 := Post.ext h x2
          cases e2 : g d l S with
          | bad => rw [e2] at h2; exact h2
          | exc c fs l1 S1 => rw [e2] at h2; exact h2
          | ok l1 S3 =>
            rw [e2] at h2
            simp only [] at h2
            intro p3 H3 x3 R3 s3 L3
            refine ⟨p3, l1, S3, R3, L3, turn_post (Post.ext h2 x3) fun l2 S4 p4 H4 s4 x4 R4 L4 h4 => ⟨p4, l2, S4, R4, L4, hI.ext (x2.trans (x3.trans x4)), h4⟩⟩⟩
end
end Ly
set_option Elab.async false
set_option linter.all false
set_option maxRecDepth 100000
namespace Ly
open PySem PySem.Spec L2
open PyProof.Rows hiding St
def wipeL (l : Ls) : List Nat → Ls
  | [] => l
  | v :: vs => (wipeL l vs).set v none
theorem Sl.wipe {K : PySem.W.Frag} {p : Nat → Addr} {n : Nat} {H : Hp} {l : Ls} {s : St} (h : Sl K p n H l s) : ∀ vs, Sl K p n H (wipeL l vs) (L2.wipe s vs)
  | [] => h
  | v :: vs => (Sl.wipe h vs).skip v none
abbrev CG := D → Ls → Option Ls
def GOk (K : PySem.W.Frag) (vs : List Nat) (g : TG) (gl : CG) : Prop := ∀ (p : Nat → Addr) (n : Nat) (H : Hp) (d : D) (x : V) (l l1 : Ls) (s : St) (Q : St → Hp → Prop), Sl K p n H l (L2.wipe s vs) → Rep K p n H d x → gl d l = some l1 →
  (∀ s2, L2.wipe s2 vs = L2.wipe s vs → Sl K p n H l1 s2 → Q s2 H) → g x (L2.wipe s vs) H Q
def cN (i : Nat) : CG := fun d l => some (l.set i (some d))
def cT : List Nat → CG := fun is d l => match d with
  | .tup ds => if ds.length = is.length then some ((is.zip ds).foldl (fun l x => l.set x.1 (some x.2)) l) else none
  | .wt ds => if ds.length = is.length then some ((is.zip ds).foldl (fun l x => l.set x.1 (some x.2)) l) else none
  | _ => none
theorem gok_n {K : PySem.W.Frag} {i : Nat} {vs : List Nat} (hv : vs = [i]) : GOk K vs (gName i) (cN i) := by
  subst hv
  intro p n H d x l l1 s Q L r e hq
  cases e
  refine hq _ ?_ (L.set i r)
  simp only [L2.wipe, List.set_set]
def gNames : List Nat → TGs
  | [] => gNil
  | i :: is => gCons (gName i) (gNames is)
theorem wipe_set {s : St} {vs : List Nat} {i : Nat} {o : Option V} (h : i ∈ vs) : L2.wipe (s.set i o) vs = L2.wipe s vs := by
  induction vs with
  | nil => cases h
  | cons v vs ih =>
    simp only [L2.wipe]
    by_cases e : i ∈ vs
    · rw [ih e]
    · have : i = v := by
        rcases List.mem_cons.mp h with h | h
        · exact h
        · exact absurd h e
      subst this
      clear ih h
      have key : ∀ ws : List Nat, i ∉ ws → L2.wipe (s.set i o) ws = (L2.wipe s ws).set i o := by
        intro ws
        induction ws with
        | nil => intro _; rfl
        | cons w ws ih =>
          intro hw
          simp only [L2.wipe]
          rw [ih fun z => hw (List.mem_cons_of_mem _ z), List.set_comm _ _ (fun z => hw (by rw [← z]; exact List.mem_cons_self ..))]
      rw [key vs e, List.set_set]
theorem wipe_wipe {s : St} (vs : List Nat) : L2.wipe (L2.wipe s vs) vs = L2.wipe s vs := by
  have key : ∀ ws : List Nat, (∀ i ∈ ws, i ∈ vs) → L2.wipe (L2.wipe s ws) vs = L2.wipe s vs := by
    intro ws
    induction ws with
    | nil => intro _; rfl
    | cons w ws ih =>
      intro h
      simp only [L2.wipe]
      rw [wipe_set (h w (List.mem_cons_self ..)), ih fun i hi => h i (List.mem_cons_of_mem _ hi)]
  exact key vs fun _ h => h
theorem gnames_ok {K : PySem.W.Frag} {p : Nat → Addr} {n : Nat} {H : Hp} : ∀ (is : List Nat) (ds : List D) (xs : List V) (l : Ls) (s : St) (Q : St → Hp → Prop), Sl K p n H l s → Reps K p n H ds xs → ds.length = is.length →
    (∀ s2, (∀ vs, (∀ i ∈ is, i ∈ vs) → L2.wipe s2 vs = L2.wipe s vs) → Sl K p n H ((is.zip ds).foldl (fun l x => l.set x.1 (some x.2)) l) s2 → Q s2 H) → gNames is xs s H Q
  | [], ds, xs, l, s, Q, L, r, e, hq => by
    cases ds with
    | nil => cases r; exact ⟨rfl, hq s (fun _ _ => rfl) L⟩
    | cons a b => simp at e
  | i :: is, ds, xs, l, s, Q, L, r, e, hq => by
    cases ds with
    | nil => simp at e
    | cons d ds =>
      cases r with
      | cons r0 rs =>
        refine ⟨_, _, rfl, gnames_ok is ds _ (l.set i (some d)) _ Q (L.set i r0) rs (by simpa using e) fun s2 h2 L2' => hq s2 (fun vs hv => ?_) L2'⟩
        rw [h2 vs fun j hj => hv j (List.mem_cons_of_mem _ hj), wipe_set (hv i (List.mem_cons_self ..))]
theorem gok_t {K : PySem.W.Frag} {is vs : List Nat} (hv : ∀ i ∈ is, i ∈ vs) : GOk K vs (gTup K is.length (gNames is)) (cT is) := by
  intro p n H d x l l1 s Q L r e hq
  unfold cT at e
  split at e
  · split at e
    · rename_i hl
      cases e
      cases r with
      | tup t r => exact ⟨_, _, rfl, SqT.of t, by rw [← r.len]; exact hl, gnames_ok is _ _ l _ Q L r hl fun s2 h2 L2' => hq s2 (by rw [h2 vs hv, wipe_wipe]) L2'⟩
    · cases e
  · split at e
    · rename_i hl
      cases e
      cases r with
      | wt t r => exact ⟨_, _, rfl, t.sq, by rw [← r.len]; exact hl, gnames_ok is _ _ l _ Q L r hl fun s2 h2 L2' => hq s2 (by rw [h2 vs hv, wipe_wipe]) L2'⟩
    · cases e
  · cases e
def mYes : MB := fun _ S => .ok true S
def cStep (j : J) (gl : CG) (tt : MB) (te : M) (l : Ls) (n : Nat) (a : Nat × Hs) : Sum (Nat × Hs) (R D) := match itGo j a.1 a.2 with
  | none => .inr .bad
  | some none => .inr (.ok (.ref n) a.2)
  | some (some d) => match gl d l with
    | none => .inr .bad
    | some l1 => match tt l1 a.2 with
      | .ok false S2 => .inl (a.1 + 1, S2)
      | .ok true S2 => (match te l1 S2 with
        | .ok y S3 => (match S3[n]? with
          | some (.lst acc) => if acc.length < sizeLine then .inl (a.1 + 1, S3.set n (.lst (acc ++ [y]))) else .inr .bad
          | _ => .inr .bad)
        | _ => .inr .bad)
      | _ => .inr .bad
noncomputable def cLoop (j : J) (gl : CG) (tt : MB) (te : M) (l : Ls) (n k : Nat) (S : Hs) : R D := runI (cStep j gl tt te l n) (k, S)
noncomputable def mLc (it : MI) (gl : CG) (tt : MB) (te : M) (vs : List Nat) : M := fun l S => (it l S).bind fun j S1 => cLoop j gl tt te (wipeL l vs) S1.length 0 (S1 ++ [.lst []])
theorem cLoop_eq (j : J) (gl : CG) (tt : MB) (te : M) (l : Ls) (n k : Nat) (S : Hs) : cLoop j gl tt te l n k S = match cStep j gl tt te l n (k, S) with
    | .inl a => cLoop j gl tt te l n a.1 a.2
    | .inr r => r := by
  unfold cLoop
  rw [runI_eq]
  cases cStep j gl tt te l n (k, S) <;> rfl
abbrev E00 : St → XK := fun _ => L2.E0
section
variable {X : Cx} {E : St → XK} {elt tg iter : Expr} {ifs : List Expr} {scope : Scope} {own : List (Str × Nat)} {pos : Pos} {it : MI} {g : TG} {gl : CG} {tm : MB} {te : M} {tt : TT}
structure CT (X : Cx) (ifs : List Expr) (tm : MB) : Prop where pts : PTs X ifs (TB X.K E00 tm)
theorem ct_nil : CT X [] mYes := ⟨⟨fun pins s σ H Q I ⟨p, l, S, R, L, h⟩ => pts_nil.run pins s σ H Q I (Post.ok (Q := QB Q) h Ext.refl R)⟩⟩
theorem ct_one {c : Expr} (h : BM X E00 c tm) : CT X [c] tm := ⟨pts_one h.pt⟩
theorem lc_reading {K : PySem.W.Frag} {vs : List Nat} (hgk : GOk K vs g gl) {s : St} {H : Hp} {Q : VK} {p : Nat → Addr} {l : Ls} {S : Hs} {j : J} {I : It} (R : Real K p S H) (L : Sl K p S.length H l s) (hI : JRel K p S.length H j I)
    (h : Post K E S.length p H (cLoop j gl tm te (wipeL l vs) S.length 0 (S ++ [.lst []])) (QD K Q)) : ∀ D0, H D0 = none → ∃ W : Nat → Nat → Hp → Prop, (∃ m, W 0 m (upd H D0 (.lst []))) ∧ ∀ i m H, W i m H →
      (I.stop i H ∧ Q (.ref D0) H) ∨ (I.go i H ∧ ∃ Nx : Hp → Prop, (∀ H', Nx H' → ∃ m', m' < m ∧ W (i + 1) m' H') ∧ ∀ x H', I.yld i H x H' → g x (L2.wipe s vs) H' fun s2 H2 => L2.wipe s2 vs = L2.wipe s vs ∧
        TB K E00 tm s2 H2 fun b H3 => if b = true then T K E00 te s2 H3 fun y H4 => ∃ acc, H4 D0 = some (.lst acc) ∧ acc.length < sizeLine ∧ Nx (upd H4 D0 (.lst (acc ++ [y]))) else Nx H3) := by
  intro D0 hD
  obtain ⟨m0, hm, _⟩ := runI_ex (Post.ne h)
  rw [show cLoop j gl tm te (wipeL l vs) S.length 0 (S ++ [.lst []]) = _ from hm.symm] at h
  have x0 := ext_new (S := S) (pi := p) (u := .lst []) hD
  have R0 := R.new (u := .lst []) (o := .lst []) hD ⟨[], upd_same, .nil⟩
  have e0 : (S ++ [O.lst []]).length = S.length + 1 := by simp
  refine ⟨fun k m H => ∃ q S1, S.length < S1.length ∧ q S.length = D0 ∧ Real K q S1 H ∧ Sl K q S1.length H (wipeL l vs) (L2.wipe s vs) ∧ JRel K q S1.length H j I ∧ Post K E S1.length q H (iter (cStep j gl tm te (wipeL l vs) S.length) m (k, S1)) (QD K Q),
    ⟨m0, piN p S.length D0, S ++ [.lst []], by omega, piN_same, R0, by rw [e0]; exact (L.wipe vs).ext x0, by rw [e0]; exact hI.ext x0, Post.ext h (by rw [e0]; exact x0)⟩, ?_⟩
  rintro k m H1 ⟨q, S1, hn, hq, R1, L1, hI1, h1⟩
  cases m with
  | zero => exact h1.elim
  | succ m =>
    simp only [iter, cStep] at h1
    cases e1 : itGo j k S1 with
    | none => rw [e1] at h1; exact h1.elim
    | some o =>
      cases o with
      | none =>
        rw [e1] at h1
        refine .inl ⟨it_stop R1 hI1 e1, ?_⟩
        have := Post.ok (Q := QD K Q) h1 Ext.refl R1 (.ref (q S.length)) (.ref hn)
        rwa [hq] at this
      | some d =>
        obtain ⟨g1, g2⟩ := it_go R1 hI1 e1
        rw [e1] at h1
        simp only [] at h1
        refine .inr ⟨g1, fun H => ∃ q S1, S.length < S1.length ∧ q S.length = D0 ∧ Real K q S1 H ∧ Sl K q S1.length H (wipeL l vs) (L2.wipe s vs) ∧ JRel K q S1.length H j I ∧ Post K E S1.length q H (iter (cStep j gl tm te (wipeL l vs) S.length) m (k + 1, S1)) (QD K Q),
          fun H' w => ⟨m, Nat.lt_succ_self m, w⟩, fun x H' y => ?_⟩
        obtain ⟨x2, R2, r2⟩ := g2 x H' y
        have h2 := Post.ext h1 x2
        cases e2 : gl d (wipeL l vs) with
        | none => rw [e2] at h2; exact h2.elim
        | some l1 =>
          rw [e2] at h2
          simp only [] at h2
          refine hgk q S1.length H' d x _ l1 s _ (L1.ext x2) r2 e2 fun s2 w2 L2' => ⟨w2, ?_⟩
          refine ⟨q, l1, S1, R2, L2', ?_⟩
          cases e3 : tm l1 S1 with
          | bad => rw [e3] at h2; exact h2.elim
          | exc _ _ _ _ => rw [e3] at h2; exact h2.elim
          | ok b S2 =>
            rw [e3] at h2
            intro q3 H3 x3 R3
            have h3 := Post.ext h2 x3
            cases b with
            | false => exact ⟨q3, S2, Nat.lt_of_lt_of_le hn x3.le, (x3.ag _ hn).trans hq, R3, (L1.ext x2).ext x3, (hI1.ext x2).ext x3, h3⟩
            | true =>
              show T K E00 te s2 H3 _
              refine ⟨q3, l1, S2, R3, L2'.ext x3, ?_⟩
              simp only [] at h3
              cases e4 : te l1 S2 with
              | bad => rw [e4] at h3; exact h3.elim
              | exc _ _ _ _ => rw [e4] at h3; exact h3.elim
              | ok y S3 =>
                rw [e4] at h3
                simp only [] at h3
                intro q4 H4 x4 R4 v r4
                have h4 := Post.ext h3 x4
                have hn4 : S.length < S3.length := Nat.lt_of_lt_of_le hn (Nat.le_trans x3.le x4.le)
                have hq4 : q4 S.length = D0 := (x4.ag _ (Nat.lt_of_lt_of_le hn x3.le)).trans ((x3.ag _ hn).trans hq)
                cases e5 : S3[S.length]? with
                | none => rw [e5] at h4; exact h4.elim
                | some ob =>
                  cases ob with
                  | lst acc =>
                    rw [e5] at h4
                    simp only [] at h4
                    split at h4
                    · rename_i hl
                      obtain ⟨us, h5, r5⟩ := R4.lst e5
                      have xu : ∀ u, Ext S3.length S3.length q4 q4 H4 (upd H4 (q4 S.length) u) := fun u => ext_upd (R4.notup hn4)
                      rw [hq4] at h5
                      refine ⟨us, h5, by rw [← r5.len]; exact hl, q4, S3.set S.length (.lst (acc ++ [y])), by rw [List.length_set]; exact hn4, hq4, ?_, ?_, ?_, ?_⟩
                      · rw [← hq4]
                        exact R4.put hn4 ⟨_, upd_same, (r5.ext (xu _) _ _).append (.cons (r4.ext (xu _) _ _) .nil)⟩
                      · rw [← hq4, List.length_set]; exact (((L1.ext x2).ext x3).ext x4).ext (xu _)
                      · rw [← hq4, List.length_set]; exact (((hI1.ext x2).ext x3).ext x4).ext (xu _)
                      · rw [← hq4, List.length_set]; exact Post.ext h4 (xu _)
                    · exact h4.elim
                  | _ => rw [e5] at h4; exact h4.elim
theorem e_lc (hc : X.calm = true) (hN : X.N.Nodup) (hi : IM X E tg iter it) (ok : BlkOk X.N X.env.scope scope own) (hgk : GOk X.K (own.map (·.2)) g gl)
    (hg : ∀ (s : Shared) (H : Hp) (C : Addr) (cl : List (Str × Addr)) (fp : List Addr), PG (X.blk s H scope (compEnvC scope cl C X.env) fp) tg g)
    (ht : ∀ (s : Shared) (H : Hp) (C : Addr) (cl : List (Str × Addr)) (fp : List Addr), CT (X.blk s H scope (compEnvC scope cl C X.env) fp) ifs tm)
    (he : ∀ (s : Shared) (H : Hp) (C : Addr) (cl : List (Str × Addr)) (fp : List Addr), EM (X.blk s H scope (compEnvC scope cl C X.env) fp) E00 elt te) (hs : ∀ x, foldedSetIterable iter X.env x = pure x := by intro _; rfl) :
    EM X E (.ListComp elt [⟨tg, iter, ifs, 0⟩] scope pos) (mLc it gl tm te (own.map (·.2))) :=
  ⟨(pe_lc hc hN hi.pi ok hg (fun s H C cl fp => (ht s H C cl fp).pts) (fun s H C cl fp => (he s H C cl fp).pe) hs).weak fun s H Q ⟨p, l, S, R, L, h⟩ =>
    ⟨p, l, S, R, L, (Post.bind (r := it l S) h).mono fun j S1 p1 H1 _ x1 R1 q I hI => lc_reading hgk R1 (L.ext x1) hI q⟩⟩
theorem s_setLc {i : Nat} {y : Str} {py spos : Pos} (hc : X.calm = true) (hN : X.N.Nodup) (hsw : swapsWith (.ListComp elt [⟨tg, iter, ifs, 0⟩] scope pos) (some (.Name y py)) spos.line X.env = pure true) (hi : IM X E tg iter it) (ok : BlkOk X.N X.env.scope scope own) (hgk : GOk X.K (own.map (·.2)) g gl)
    (hg : ∀ (s : Shared) (H : Hp) (C : Addr) (cl : List (Str × Addr)) (fp : List Addr), PG (X.blk s H scope (compEnvC scope cl C X.env) fp) tg g)
    (ht : ∀ (s : Shared) (H : Hp) (C : Addr) (cl : List (Str × Addr)) (fp : List Addr), CT (X.blk s H scope (compEnvC scope cl C X.env) fp) ifs tm)
    (he : ∀ (s : Shared) (H : Hp) (C : Addr) (cl : List (Str × Addr)) (fp : List Addr), EM (X.blk s H scope (compEnvC scope cl C X.env) fp) E00 elt te) (hy : X.N[i]? = some y := by rfl) (hl : X.env.scope.names.lookup y = some .local := by rfl) (hs : ∀ x, foldedSetIterable iter X.env x = pure x := by intro _; rfl) :
    SM X E (.Assign [.Name y py] (.ListComp elt [⟨tg, iter, ifs, 0⟩] scope pos) spos) (mSet i (mLc it gl tm te (own.map (·.2)))) :=
  ⟨(ps_setLc hc hN hy hl hsw hi.pi ok hg (fun s H C cl fp => (ht s H C cl fp).pts) (fun s H C cl fp => (he s H C cl fp).pe) hs).weak fun s H D0 ⟨p, l, S, R, L, h⟩ => by
    have h' : Post X.K E S.length p H ((mLc it gl tm te (own.map (·.2)) l S).bind fun d S1 => .ok (.nx (l.set i (some d))) S1) (QF X.K D0) := h
    have h2 : Post X.K E S.length p H (mLc it gl tm te (own.map (·.2)) l S) (QD X.K fun v H' => D0.nx (s.set i (some v)) H') := h'.bind.mono fun d S1 p1 H1 _ x1 R1 q v r => Post.nx q R1 ((L.ext x1).set i r)
    exact ⟨p, l, S, R, L, (Post.bind (r := it l S) h2).mono fun j S1 p1 H1 _ x1 R1 q I hI => lc_reading hgk R1 (L.ext x1) hI q⟩⟩
end
end Ly
set_option Elab.async false
set_option linter.all false
set_option maxRecDepth 100000
namespace Ly
open PySem PySem.Spec L2
open PyProof.Rows hiding St
def tyName (x : D) (S : Hs) : Option String := match x with
  | .non => some "NoneType"
  | .bl _ => some "bool"
  | .int _ => some "int"
  | .str _ => some "str"
  | .tup _ => some "tuple"
  | .wt _ => some "tuple"
  | .wl _ => some "list"
  | .ref i => match S[i]? with
    | some (.lst _) => some "list"
    | some (.rol _) => some "list"
    | some (.dic _) => some "dict"
    | some (.dit _) => some "dict"
    | _ => none
  | .cst _ => none
def oIsi (c : String) (x : D) (S : Hs) : R D := match (tyName x S).bind fun t => kitB t c with
  | some b => .ok (.bl b) S
  | none => .bad
section
variable {K : PySem.W.Frag} {E : St → XK} {X : Cx} {p : Nat → Addr} {S : Hs} {H : Hp}
theorem tyName_V {x : D} {v : V} {t : String} (R : Real K p S H) (r : Rep K p S.length H x v) (h : tyName x S = some t) : TyX K H v (.type t) := by
  unfold tyName at h
  cases r with
  | non => cases h; exact .base .non
  | bl b => cases h; exact .base (.bl _)
  | int b => cases h; exact .base (.int _)
  | str b => cases h; exact .base (.str _)
  | tup t r => cases h; exact .base (.tup t)
  | wt t r => cases h; obtain ⟨o, its, n, h1, h2, _⟩ := t; exact .kTuple h1 h2
  | wl t r => cases h; obtain ⟨o, its, n, h1, h2, _⟩ := t; exact .kList h1 h2
  | ref hi =>
    simp only at h
    split at h
    · rename_i q; cases h; obtain ⟨vs, h1, r⟩ := R.lst q; exact .base (.lst h1)
    · rename_i q; cases h; obtain ⟨o, vs, h1, r⟩ := R.ob _ _ q; exact .base (.frz h1)
    · rename_i q; cases h; obtain ⟨ks, h1, _⟩ := R.ob _ _ q; exact .base (.dK h1)
    · rename_i q; cases h; obtain ⟨ks, h1, _⟩ := R.ob _ _ q; exact .base (.dT h1)
    · cases h
  | cst a => cases h
theorem c_isi {e : Expr} {f : M} {c : Str} {cn : String} {p0 p1 pos : Pos} (hm : X.mg "isinstance" = none) (hmc : X.mg c = none) (ha : EM X E e f) (hbt : bootBuiltins c = some (.type cn) := by decide +kernel) (hg : Gl X "isinstance" := by rfl) (hgc : Gl X c := by rfl)
    (hn : c ≠ "__name__" := by decide) (hd : (c == ("__debug__" : Str)) = false := by decide)
    (he : starEach [e, Expr.Name c p1] X.env = (false, eval e X.env) :: starEach [Expr.Name c p1] X.env := by rfl) (he2 : starEach [Expr.Name c p1] X.env = (false, eval (Expr.Name c p1) X.env) :: starEach [] X.env := by rfl)
    (hpl : (backTo pos (starEach [Expr.Name c p1] X.env)).any (·.1) = false := by rfl) : EM X E (.Call (.Name "isinstance" p0) [e, .Name c p1] [] pos) (mUn (oIsi cn) f) :=
  ⟨(pe_callB call_isi hg hm (by decide +kernel) (pa_cons ha.pe (pa_cons (pe_bltn hgc hmc hbt (v := .ty cn) rfl hn hd) pa_nil he2) he) (by decide) (by decide) he hpl).weak fun s H Q ⟨p, l, S, R, L, h⟩ => T.of R L h fun p1 S1 H1 d v R1 x1 L1 r1 h1 => by
    unfold oIsi at h1
    split at h1
    · rename_i b e
      rw [Option.bind_eq_some_iff] at e
      obtain ⟨t, e1, e2⟩ := e
      exact ⟨_, _, _, _, b, rfl, .ty cn, tyName_V R1 r1 e1, kit_ty e2, h1.val R1 (.bl _)⟩
    · exact h1.elim⟩
end
abbrev MP := Ls → Hs → R (List (D × D))
def dpNil : MP := fun _ S => .ok [] S
def dpCons (f g : M) (h : MP) : MP := fun l S => (f l S).bind fun x S1 => (g l S1).bind fun y S2 => (h l S2).bind fun r S3 => .ok ((x, y) :: r) S3
def keysP : List (D × D) → Option (List (Key × D))
  | [] => some []
  | (x, y) :: r => match x.key, keysP r with
    | some k, some l => some ((k, y) :: l)
    | _, _ => none
def mergeD (kvs : List (Key × D)) (more : List (Key × D)) : List (Key × D) := more.foldl (fun acc kv => setK acc kv.1 kv.2) kvs
def mDisp (h : MP) : M := fun l S => (h l (S ++ [.dic []])).bind fun ps S1 => match keysP ps, S1[S.length]? with
  | some kvs, some (.dic []) => if kvs.length ≤ 15 then .ok (.ref S.length) (S1.set S.length (.dic (mergeD [] kvs))) else .bad
  | _, _ => .bad
structure DP (X : Cx) (E : St → XK) (pos : Pos) (keys : List (Option Expr)) (values : List Expr) (trs : List (TE × TE)) (f : MP) : Prop where
  pps : PPs X pos keys values trs
  rd : ∀ (s : St) (H : Hp) (p : Nat → Addr) (l : Ls) (S : Hs) (Q : List (V × V) → Hp → Prop), Real X.K p S H → Sl X.K p S.length H l s →
    Post X.K E S.length p H (f l S) (fun ps S1 p1 H1 => ∀ ks vs, Reps X.K p1 S1.length H1 (ps.map (·.1)) ks → Reps X.K p1 S1.length H1 (ps.map (·.2)) vs → Q (ks.zip vs) H1) → tPairs trs s H Q
section
variable {X : Cx} {E : St → XK} {pos : Pos} {keys : List (Option Expr)} {values : List Expr} {trs : List (TE × TE)} {f g : M} {h : MP} {k v : Expr}
theorem dp_nil : DP X E pos [] [] [] dpNil := ⟨pps_nil, fun s H p l S Q R L h => Post.ok h Ext.refl R [] [] .nil .nil⟩
theorem dp_cons (hk : EM X E k f) (hv : EM X E v g) (hr : DP X E pos keys values trs h) : DP X E pos (some k :: keys) (v :: values) ((T X.K E f, T X.K E g) :: trs) (dpCons f g h) :=
  ⟨pps_cons hk.pe hv.pe hr.pps, fun s H p l S Q R L q => T.of R L q fun p1 S1 H1 d1 v1 R1 x1 L1 r1 q1 => T.of R1 L1 q1 fun p2 S2 H2 d2 v2 R2 x2 L2 r2 q2 => hr.rd s H2 p2 l S2 _ R2 L2 (q2.bind.mono fun ps S3 p3 H3 _ x3 R3 q3 ks vs rk rv => by
    have := Post.ok q3 Ext.refl R3 (v1 :: ks) (v2 :: vs) (.cons ((r1.ext x2 _ _).ext x3 _ _) rk) (.cons (r2.ext x3 _ _) rv)
    exact this)⟩
theorem keysP_V {K : PySem.W.Frag} {p : Nat → Addr} {n : Nat} {H : Hp} {ps : List (D × D)} {kvs : List (Key × D)} {ks vs : List V} (h : keysP ps = some kvs) (rk : Reps K p n H (ps.map (·.1)) ks) (rv : Reps K p n H (ps.map (·.2)) vs) :
    ∃ ls : List (Key × V), ks.zip vs = ls.map (fun kv => (kV kv.1, kv.2)) ∧ ls.map (·.1) = kvs.map (·.1) ∧ Reps K p n H (kvs.map (·.2)) (ls.map (·.2)) := by
  induction ps generalizing kvs ks vs with
  | nil =>
    cases h; cases rk; cases rv
    exact ⟨[], rfl, rfl, .nil⟩
  | cons a ps ih =>
    obtain ⟨x, y⟩ := a
    simp only [List.map_cons] at rk rv
    cases rk with
    | cons r0 rs =>
    cases rv with
    | @cons _ _ v0 us s0 ss =>
    simp only [keysP] at h
    split at h
    · rename_i k l e1 e2
      cases h
      obtain ⟨ls, h1, h2, h3⟩ := ih e2 rs ss
      exact ⟨(k, v0) :: ls, by simp only [List.zip_cons_cons, List.map_cons, h1, key_V r0 e1], by simp only [List.map_cons, h2], .cons s0 h3⟩
    · cases h
theorem merge_V {K : PySem.W.Frag} {p : Nat → Addr} {n : Nat} {H : Hp} : ∀ (more : List (Key × D)) (ms : List (Key × V)) (kvs : List (Key × D)) (ks : List (Key × V)), ms.map (·.1) = more.map (·.1) → Reps K p n H (more.map (·.2)) (ms.map (·.2)) →
    ks.map (·.1) = kvs.map (·.1) → Reps K p n H (kvs.map (·.2)) (ks.map (·.2)) → (mergeK ks ms).map (·.1) = (mergeD kvs more).map (·.1) ∧ Reps K p n H ((mergeD kvs more).map (·.2)) ((mergeK ks ms).map (·.2))
  | [], ms, kvs, ks, e, _, e2, r2 => by
    cases ms with
    | nil => exact ⟨e2, r2⟩
    | cons a b => cases e
  | a :: more, ms, kvs, ks, e, r, e2, r2 => by
    cases ms with
    | nil => cases e
    | cons b ms =>
      simp only [List.map_cons, List.cons.injEq] at e
      cases r with
      | cons r0 rs =>
        have s := setK_V e2 r2 a.1 r0
        have := merge_V more ms (setK kvs a.1 a.2) (putK ks a.1 b.2) e.2 rs s.1 s.2
        show (mergeK (putK ks b.1 b.2) ms).map _ = _ ∧ Reps K p n H _ ((mergeK (putK ks b.1 b.2) ms).map _)
        rw [e.1]
        exact this
theorem e_disp (hd : DP X E pos keys values trs h) (hall : keys.all (·.isSome) = true := by rfl) (hl : keys.length = values.length := by rfl) (h0 : keys ≠ [] := by simp) (h15 : keys.length ≤ 15 := by decide) : EM X E (.Dict keys values pos) (mDisp h) :=
  ⟨(pe_disp hd.pps hall hl h0 h15).weak fun s H Q ⟨p, l, S, R, L, q⟩ => by
    intro a ha
    have x0 := ext_new (S := S) (pi := p) (u := .dK []) ha
    have R0 := R.new (u := .dK []) (o := .dic []) ha ⟨[], upd_same, rfl, .nil⟩
    have e0 : (S ++ [O.dic []]).length = S.length + 1 := by simp
    refine hd.rd s _ (piN p S.length a) l (S ++ [.dic []]) _ R0 (by rw [e0]; exact L.ext x0) ?_
    have q' := Post.ext q (show Ext S.length (S ++ [O.dic []]).length _ _ _ _ by rw [e0]; exact x0)
    refine Post.mono (Q' := fun (ps : List (D × D)) S1 p1 H1 => ∀ ks vs, Reps X.K p1 S1.length H1 (ps.map (·.1)) ks → Reps X.K p1 S1.length H1 (ps.map (·.2)) vs → _) (Post.bind (r := h l (S ++ [.dic []])) q') fun ps S1 p1 H1 _ x1 R1 q1 ks vs rk rv => ?_
    have hn : S.length < S1.length := Nat.lt_of_lt_of_le (by rw [e0]; exact Nat.lt_succ_self _) x1.le
    have hp : p1 S.length = a := (x1.ag _ (by rw [e0]; exact Nat.lt_succ_self _)).trans piN_same
    split at q1
    · rename_i kvs e1 e2
      split at q1
      · rename_i hlen
        obtain ⟨ls, h1, h2, h3⟩ := keysP_V e1 rk rv
        obtain ⟨zs, z1, z2, z3⟩ := R1.ob _ _ e2
        have : zs = [] := by cases zs with | nil => rfl | cons _ _ => cases z2
        subst this
        rw [hp] at z1
        have hll : ls.length = kvs.length := by simpa using congrArg List.length h2
        refine ⟨z1, ls, h1, by rw [hll]; exact hlen, ?_⟩
        have xu : Ext S1.length S1.length p1 p1 H1 (upd H1 (p1 S.length) (.dK (mergeK [] ls))) := ext_upd (R1.notup hn)
        have m := merge_V (K := X.K) (p := p1) (n := S1.length) (H := upd H1 (p1 S.length) (.dK (mergeK [] ls))) kvs ls [] [] h2 (h3.ext xu _ _) rfl .nil
        have := Post.put q1 R1 hn ⟨_, upd_same, m.1, m.2⟩ (.ref hn)
        rw [hp] at this
        exact this
      · exact q1.elim
    · exact q1.elim⟩
def mGet2 (f g h : M) : M := fun l S => (f l S).bind fun x S1 => if hasTy "dict" x S1 = true then (g l S1).bind fun y S2 => (h l S2).bind fun z S3 => match dGet x y S3 with
  | some (some d) => .ok d S3
  | some none => .ok z S3
  | none => .bad else .bad
def isDic (x : D) (S : Hs) : Bool := match x with
  | .ref i => match S[i]? with
    | some (.dic _) => true
    | some (.dit _) => true
    | _ => false
  | _ => false
def mAugI (op : D → D → Hs → R D) (f g h : M) : MS := fun l S => (f l S).bind fun x S1 => (g l S1).bind fun y S2 => match dGet x y S2 with
  | some (some z) => (h l S2).bind fun w S3 => (op z w S3).bind fun d S4 => if isDic x S4 = true then (oSet x y d S4).bind fun _ S5 => .ok (.nx l) S5 else .bad
  | _ => .bad
theorem s_augI {o i value : Expr} {tpos : Pos} {hh : M} {opr : Operator} {rd : V → V → Hp → VK → Prop} {op : D → D → Hs → R D} (hu : X.A.units + 1 < cLine) (ho : EM X E o f) (hi : EM X E i g) (hv : EM X E value hh) (hop : InOp X opr rd) (hk : OpOk X.K E rd op)
    (ha : ∀ ov iv new, augStore i ov iv new = (do holding [new, ov, iv] (setItem ov iv new); release [new, ov, iv] []; pure .next) := by intro _ _ _; rfl) : SM X E (.AugAssign (.Subscript o i tpos) opr value pos) (mAugI op f g hh) :=
  ⟨(ps_daug hu ho.pe hi.pe hv.pe hop ha).weak fun s H D0 ⟨p, l, S, R, L, h⟩ => T.of R L h fun p1 S1 H1 d v R1 x1 L1 r1 h1 => T.of R1 L1 h1 fun p2 S2 H2 d2 v2 R2 x2 L2 r2 h2 => by
    split at h2
    · rename_i z e
      obtain ⟨a, w, e1, gg, m⟩ := dGet_V R2 (r1.ext x2 _ _) r2 e
      obtain ⟨w0, rfl, rw0⟩ := m
      refine ⟨a, w0, e1, gg, T.of R2 L2 h2 fun p3 S3 H3 d3 v3 R3 x3 L3 r3 h3 => hk p3 S3 H3 _ _ _ _ _ R3 (rw0.ext x3 _ _) r3 (h3.bind.mono fun d4 S4 p4 H4 _ x4 R4 q4 v4 r4 => ?_)⟩
      split at q4
      · rename_i hd
        have rx := ((r1.ext x2 _ _).ext x3 _ _).ext x4 _ _
        have ry := (r2.ext x3 _ _).ext x4 _ _
        have key := ok_set (Q := fun H => D0.nx s H) R4 rx ry r4 q4.bind fun S5 H5 x5 R5 q5 => Post.nx q5 R5 (((L2.ext x3).ext x4).ext x5)
        rcases key with ⟨b, xs, kk, jj, eb, ek, hb, _⟩ | ⟨b, H', eb, put, q⟩
        · exfalso
          subst e1
          cases eb
          unfold isDic at hd
          cases rx with
          | ref hlt =>
            simp only at hd
            split at hd
            · rename_i q
              obtain ⟨ks, k1, _⟩ := R4.ob _ _ q
              rw [hb] at k1; cases k1
            · rename_i q
              obtain ⟨ks, k1, _⟩ := R4.ob _ _ q
              rw [hb] at k1; cases k1
            · cases hd
          | _ => cases hd
        · subst e1
          cases eb
          exact ⟨H', put, q⟩
      · exact q4.elim
    · exact h2.elim⟩
def oAddI : D → D → Hs → R D := fun x y S => match x, y with | .int i, .int j => .ok (.int (i + j)) S | _, _ => .bad
theorem ok_rAdd {K : PySem.W.Frag} {E : St → XK} : OpOk K E rAdd oAddI := by
  intro p S H x y v u Q R rx ry h
  unfold oAddI at h
  split at h
  · cases rx; cases ry; exact ⟨_, _, rfl, rfl, h.val R (.int _)⟩
  · exact h.elim
theorem s_addI {o i value : Expr} {tpos : Pos} {hh : M} (hu : X.A.units + 1 < cLine) (ho : EM X E o f) (hi : EM X E i g) (hv : EM X E value hh) (ha : ∀ ov iv new, augStore i ov iv new = (do holding [new, ov, iv] (setItem ov iv new); release [new, ov, iv] []; pure .next) := by intro _ _ _; rfl) :
    SM X E (.AugAssign (.Subscript o i tpos) .Add value pos) (mAugI oAddI f g hh) := s_augI hu ho hi hv in_add ok_rAdd ha
end
end Ly
set_option Elab.async false
set_option linter.all false
set_option maxRecDepth 100000
namespace Ly
open PySem PySem.Spec L2
open PyProof.Rows hiding St
def GV (K : PySem.W.Frag) (mg : Str → Option Value) (x : Str) (d : D) : Prop := ∃ u v, mg x = some u ∧ RelV v u ∧ ∀ p n H, Rep K p n H d v
structure DefAt (K : PySem.W.Frag) (mg : Str → Option Value) (x : Str) (st : Stmt) (ps : List Str) (f : Addr) (fd : FuncData) : Prop where
  F : Fun K x x st f fd
  g : mg x = some (.ref f)
  b : Binds K fd ps []
section
variable {X : Cx} {E : St → XK}
theorem e_g {x : Str} {d : D} {pos : Pos} (g : GV X.K X.mg x d) (hg : Gl X x := by rfl) (hd : (x == ("__debug__" : Str)) = false := by decide) : EM X E (.Name x pos) (mC d) := by
  obtain ⟨u, v, h1, h2, h3⟩ := g
  exact e_of_c (pe_glob hg h1 h2 hd) h3
variable {k : Nat}
theorem or_inAll (hr : Room k X.A) : OpR X (compareOp .In) (rInAll X.K) :=
  OpR.or op_in_sign (OpR.or op_in_str (OpR.or op_in_seq (OpR.or (op_inD (by have := hr.un; omega)) (OpR.or (op_inDT (by have := hr.un; omega)) (or_din (hu_of hr))))))
theorem or_notinAll (hr : Room k X.A) : OpR X (compareOp .NotIn) (rNotInAll X.K) :=
  OpR.or op_notIn_sign (OpR.or op_notin_str (OpR.or op_notIn_seq (OpR.or (op_notInD (by have := hr.un; omega)) (OpR.or (op_notInDT (by have := hr.un; omega)) (or_dnotin (hu_of hr))))))
end
theorem or_eqA {X : Cx} {k : Nat} (hr : Room k X.A) : OpR X (compareOp .Eq) (orR rEq (rEqD X.K)) := OpR.or op_eq (op_eqD hr.units)
theorem or_neA {X : Cx} {k : Nat} (hr : Room k X.A) : OpR X (compareOp .NotEq) (orR rNe (rNeD X.K)) := OpR.or op_ne (op_neD hr.units)
theorem or_isnotA {X : Cx} : OpR X (compareOp .IsNot) (orR rNotNA rNotB) := OpR.or op_notN op_notBl
theorem gv_int {K : PySem.W.Frag} {mg : Str → Option Value} {x : Str} {u : Value} {i : Int} (h : mg x = some u) (e : absV u = some (.int i)) : GV K mg x (.int i) := by
  refine ⟨u, .int i, h, ?_, fun _ _ _ => .int _⟩
  cases u <;> first | (simp only [absV] at e; cases e; exact ⟨_, rfl⟩) | cases e
theorem reps_ints {K : PySem.W.Frag} {p : Nat → Addr} {n : Nat} {H : Hp} : ∀ xs : List Int, Reps K p n H (xs.map D.int) (xs.map V.int)
  | [] => .nil
  | x :: xs => .cons (.int x) (reps_ints xs)
def LawTrue (m : MD) : Prop := ∀ (ns : List Int) (x : D) (S : Hs), ns.length ≤ 63 → (∀ z ∈ ns, Builtin.Int.intBits z ≤ 1048576) → S.length ≤ 1 → Wf S → x.low S.length → seqD x S = some (ns.map D.int) → (∀ o ∈ S, o = .rol (ns.map D.int)) → ∃ S', m [x] S = .ok (.bl true) S'
theorem law_end {K : PySem.W.Frag} {m : MD} (hm : LawTrue m) {H : Hp} {a : Addr} {ns : List Int} (hl : ns.length ≤ 63) (hb : ∀ z ∈ ns, Builtin.Int.intBits z ≤ 1048576) (hO : Only H) (hS : SqL K H a (ns.map V.int)) : spM K 1 m [.ref a] H (fun v _ => v = .bl true) fun _ _ _ => False := by
  have fin : ∀ {p : Nat → Addr} {S : Hs} {S' : Hs} {H : Hp} {r : R D}, r = .ok (.bl true) S' → Post K (fun _ _ _ _ => False) S.length p H r (QD K fun v _ => v = .bl true) := fun {p S S' H r} e => by
    subst e
    intro p' H' x R v r
    cases r; rfl
  have h0 : (∃ o, H a = some (.frz o (.lst (ns.map V.int)))) ∨ Wl K a (ns.map V.int) := by
    rcases hS with hS | hS
    · rcases hS with hS | ⟨o, hS⟩
      · rcases hO a with q | ⟨o, xs, q⟩
        · rw [q] at hS; cases hS
        · rw [q] at hS; cases hS
      · exact .inl ⟨o, hS⟩
    · exact .inr hS
  rcases h0 with ⟨o, h0⟩ | h0
  · have R0 : Real K (fun _ => a) [.rol (ns.map D.int)] H := by
      refine ⟨fun i o' e => ?_, fun i j hi hj _ => by simp at hi hj; omega⟩
      cases i with
      | zero => simp at e; subst e; exact ⟨o, _, h0, reps_ints ns⟩
      | succ i => simp at e
    obtain ⟨S', e⟩ := hm ns (.ref 0) [.rol (ns.map D.int)] hl hb (by simp) R0.wf (by simp [D.low]) rfl (by simp)
    exact ⟨fun _ => a, [.rol (ns.map D.int)], [.ref 0], R0, .cons (.ref (by simp)) .nil, rfl, fin e⟩
  · have R0 : Real K (fun _ => a) [] H := ⟨fun i o' e => by simp at e, fun i j hi hj _ => by simp at hi⟩
    have r0 : Rep K (fun _ => a) 0 H (.wl (ns.map D.int)) (.ref a) := .wl h0 (reps_ints ns)
    obtain ⟨S', e⟩ := hm ns (.wl (ns.map D.int)) [] hl hb (by simp) R0.wf (r0.low) rfl (by simp)
    exact ⟨fun _ => a, [], [.wl (ns.map D.int)], R0, .cons r0 .nil, rfl, fin e⟩
theorem law_noexc {P : Program} {w : World} {l : List Env} {H : Hp} {s : Shared} {e : Value} {s' : Shared} (h : L2.CX P w l H s (fun _ _ _ => False) e s') : False := by
  obtain ⟨_, _, _, _, _, _, _, _, _, _, _, _, z⟩ := h
  exact z
end Ly
set_option Elab.async false
set_option linter.all false
set_option maxRecDepth 100000
namespace Ly
open PySem PySem.Spec L2
open PyProof.Rows hiding St
def mChn (op op' : D → D → Hs → R D) (f g h : M) : M := fun l S => (f l S).bind fun x S1 => (g l S1).bind fun y S2 => (op x y S2).bind fun d S3 => match d with
  | .bl true => (h l S3).bind fun z S4 => op' y z S4
  | .bl false => .ok (.bl false) S3
  | _ => .bad
section
variable {X : Cx} {E : St → XK} {a b c : Expr} {f g h : M} {pos : Pos} {r r' : R2} {op op' : D → D → Hs → R D} {o o' : CmpOp}
theorem e_chain (ho : OpR X (compareOp o) r) (ho' : OpR X (compareOp o') r') (hk : OpOk X.K E r op) (hk' : OpOk X.K E r' op') (ha : EM X E a f) (hb : EM X E b g) (hc : EM X E c h)
    (hm : lastMarks [o, o'] [b, c] = false := by with_unfolding_all rfl) : EM X E (.Compare a [o, o'] [b, c] pos) (mChn op op' f g h) :=
  ⟨(pe_chain ho ho' ha.pe hb.pe hc.pe hm).weak fun s H Q ⟨p, l, S, R, L, h⟩ => T.of R L h fun p1 S1 H1 d v R1 x1 L1 r1 h1 => T.of R1 L1 h1 fun p2 S2 H2 d2 v2 R2 x2 L2 r2 h2 =>
    hk p2 S2 H2 _ _ _ _ _ R2 (r1.ext x2 _ _) r2 (h2.bind.mono fun d3 S3 p3 H3 _ x3 R3 q w rw' => by
      cases rw' with
      | bl k =>
        cases k with
        | false => exact ⟨false, rfl, by rw [if_neg (by decide)]; exact q.val R3 (.bl _)⟩
        | true => exact ⟨true, rfl, by
            rw [if_pos rfl]
            exact T.of R3 (L2.ext x3) q fun p4 S4 H4 d4 v4 R4 x4 L4 r4 h4 => hk' p4 S4 H4 _ _ _ _ Q R4 ((r2.ext x3 _ _).ext x4 _ _) r4 h4⟩
      | _ => exact q.elim)⟩
end
section
variable {X : Cx} {E : St → XK} {e v1 v2 : Expr} {es rest : List Expr} {f f1 f2 : M} {fs : List M} {pos : Pos}
inductive JM (X : Cx) (E : St → XK) : List Expr → List M → Prop
  | nil : JM X E [] []
  | cons {e : Expr} {f : M} {es : List Expr} {fs : List M} (h : EM X E e f) (r : JM X E es fs) : JM X E (e :: es) (f :: fs)
end
def KV (K : PySem.W.Frag) (u : Value) (d : D) : Prop := ∃ v, RelV v u ∧ ∀ p n H, Rep K p n H d v
def KD (K : PySem.W.Frag) (w : World) (mg : Str → Option Value) (x : Str) (tbl : List (Str × D)) : Prop :=
  ∃ a es n, mg x = some (.ref a) ∧ KDict K w a es n ∧ ∀ z, match tbl.lookup z with
    | some d => ∃ u, PySem.W.nsIn K a z = some (some u) ∧ KV K u d
    | none => PySem.W.nsIn K a z = some none
inductive KVs (K : PySem.W.Frag) : List Value → List (Str × D) → Prop
  | nil : KVs K [] []
  | cons {u : Value} {x : Str} {d : D} {us : List Value} {r : List (Str × D)} (h : KV K u d) (t : KVs K us r) : KVs K (u :: us) ((x, d) :: r)
theorem kd_find {K : PySem.W.Frag} {P : Params} (z : Str) : ∀ {es : List DictEntry} {tbl : List (Str × D)}, es.map He.keyOf = He.keysIn P (tbl.map (·.1)) → KVs K (es.map (·.val)) tbl →
    (es.any (·.refKey)) = false ∧ match tbl.lookup z with
      | some d => ∃ e, es.find? (·.key.isStr z) = some e ∧ KV K e.val d
      | none => es.find? (·.key.isStr z) = none
  | [], [], _, _ => ⟨rfl, rfl⟩
  | [], _ :: _, h, _ => by cases h
  | _ :: _, [], h, _ => by cases h
  | e :: es, (x, d) :: tbl, h, k => by
    cases k with
    | cons hv ks =>
      have h1 : He.keyOf e :: es.map He.keyOf = some (x, PyData.keyHash P x) :: He.keysIn P (tbl.map (·.1)) := h
      injection h1 with h2 h3
      obtain ⟨q1, q2⟩ := kd_find (P := P) z h3 ks
      unfold He.keyOf at h2
      split at h2
      · rename_i y t hy
        have h4 := Option.some.inj h2
        obtain ⟨rfl, h6⟩ := Prod.mk.inj h4
        refine ⟨by rw [List.any_cons, q1, show e.refKey = false by simp [DictEntry.refKey, hy]]; rfl, ?_⟩
        · by_cases hz : z = y
          · subst hz
            have e1 : (e.key.isStr z) = true := by rw [hy]; simp [Value.isStr]
            simp only [List.lookup, beq_self_eq_true, List.find?_cons, e1]
            exact ⟨e, rfl, hv⟩
          · have e1 : (e.key.isStr z) = false := by rw [hy]; simp [Value.isStr]; exact fun hh => hz hh.symm
            have e2 : (z == y) = false := by simpa using hz
            simp only [List.lookup, e2, List.find?_cons, e1]
            exact q2
      · cases h2
theorem kd_mk {K : PySem.W.Frag} {w : World} {mg : Str → Option Value} {x : Str} {a : Addr} {es : Array DictEntry} {n : Nat} {tbl : List (Str × D)} (g : mg x = some (.ref a)) (l : K.lookup a = some ⟨.type "dict", none, .dict es n, #[]⟩) (low : (a == sysModules) = false)
    (t : es.toList.map He.keyOf = He.keysIn w.params (tbl.map (·.1))) (vs : KVs K (es.toList.map (·.val)) tbl) : KD K w mg x tbl := by
  refine ⟨a, es, n, g, ⟨l, He.keysLit_of t, low⟩, fun z => ?_⟩
  obtain ⟨q1, q2⟩ := kd_find (P := w.params) z t vs
  cases e : tbl.lookup z with
  | some d =>
    rw [e] at q2
    obtain ⟨en, h1, h2⟩ := q2
    refine ⟨en.val, ?_, h2⟩
    unfold PySem.W.nsIn
    rw [l]
    simp only [h1]
  | none =>
    rw [e] at q2
    show PySem.W.nsIn K a z = some none
    unfold PySem.W.nsIn
    rw [l]
    simp only [show es.toList.find? (·.key.isStr z) = none from q2, q1]
    rfl
def flatC : D → Option V
  | .int i => some (.int i)
  | .str x => some (.str x)
  | _ => none
def mIxK (tbl : List (Str × D)) (f : M) : M := fun l S => (f l S).bind fun x S1 => match x with
  | .str z => match tbl.lookup z with
    | some d => .ok d S1
    | none => .bad
  | _ => .bad
def mInK (tbl : List (Str × D)) (f : M) : M := fun l S => (f l S).bind fun x S1 => match x with
  | .str z => .ok (.bl (tbl.lookup z).isSome) S1
  | _ => .bad
def mNotInK (tbl : List (Str × D)) (f : M) : M := fun l S => (f l S).bind fun x S1 => match x with
  | .str z => .ok (.bl (!(tbl.lookup z).isSome)) S1
  | _ => .bad
def mInKB (tbl : List (Str × D)) (f : M) : MB := fun l S => (f l S).bind fun x S1 => match x with
  | .str z => .ok (tbl.lookup z).isSome S1
  | _ => .bad
def mNotInKB (tbl : List (Str × D)) (f : M) : MB := fun l S => (f l S).bind fun x S1 => match x with
  | .str z => .ok (!(tbl.lookup z).isSome) S1
  | _ => .bad
section
variable {X : Cx} {E : St → XK} {a : Expr} {f : M} {pos p2 : Pos} {x : Str} {tbl : List (Str × D)}
theorem e_ixK (g : KD X.K X.w X.mg x tbl) (ha : EM X E a f) (hg : Gl X x := by rfl) (hd : (x == ("__debug__" : Str)) = false := by decide) (hs : PlainIx a := by intro _ _; rfl) : EM X E (.Subscript (.Name x p2) a pos) (mIxK tbl f) := by
  obtain ⟨d, es, n, hm, k, h⟩ := g
  exact ⟨(pe_ix (ix_kdict) (pe_glob hg hm (v := .ref d) rfl hd) ha.pe hs).weak fun s H Q ⟨p, l, S, R, L, h0⟩ => T.of R L h0 fun p1 S1 H1 d1 v R1 x1 L1 r1 h1 => by
    cases r1 with
    | str z =>
      dsimp only at h1
      have hz := h z
      cases e : tbl.lookup z with
      | none => rw [e] at h1; exact h1.elim
      | some dv =>
        rw [e] at h1 hz
        obtain ⟨u, hu, v, ru, rp⟩ := hz
        exact ⟨d, z, v, rfl, rfl, ⟨es, n, u, k.at_, k.lit, hu, ru⟩, h1.val R1 (rp _ _ _)⟩
    | _ => exact h1.elim⟩
def mGetK2 (tbl : List (Str × D)) (f g : M) : M := fun l S => (f l S).bind fun x S1 => match x with
  | .str z => (g l S1).bind fun y S2 => (match tbl.lookup z with
    | some d => .ok d S2
    | none => .ok y S2)
  | _ => .bad
end
end Ly
set_option Elab.async false
set_option linter.all false
set_option maxRecDepth 100000
namespace Ly
open PySem PySem.Spec L2
open PyProof.Rows hiding St
def putD (f : Str) (d : D) : List (Str × D) → List (Str × D)
  | [] => [(f, d)]
  | (g, x) :: r => if g = f then (g, d) :: r else (g, x) :: putD f d r
section
variable {K : PySem.W.Frag} {p : Nat → Addr} {n : Nat} {H : Hp}
end
def mFld (cs : List Addr) (f : Str) (o : M) : M := fun l S => (o l S).bind fun x S1 => match x with
  | .ref i => match S1[i]? with
    | some (.ins C fs) => if C ∈ cs then (match fs.lookup f with
      | some d => .ok d S1
      | none => .bad) else .bad
    | _ => .bad
  | _ => .bad
def mFldSet (cs : List Addr) (f : Str) (e o : M) : MS := fun l S => (e l S).bind fun d S1 => (o l S1).bind fun x S2 => match x with
  | .ref i => match S2[i]? with
    | some (.ins C fs) => if C ∈ cs ∧ fs.length < 1000 then .ok (.nx l) (S2.set i (.ins C (putD f d fs))) else .bad
    | _ => .bad
  | _ => .bad
def FOk (K : PySem.W.Frag) (cs : List Addr) (f : Str) : Prop := ∀ C ∈ cs, Cls K C ∧ NoAttr K C f
section
variable {X : Cx} {E : St → XK} {e o : Expr} {eo ee : M} {cs : List Addr} {f : Str} {pos pos' : Pos}
end
def mMake (C : Addr) (md : MD) (g : ML) : M := fun l S => (g l S).bind fun ds S1 => ((md (.ref S1.length :: ds) (S1 ++ [.ins C []])).at l).bind fun d S2 => match d with
  | .non => .ok (.ref S1.length) S2
  | _ => .bad
section
variable {X : Cx} {E0 : XK} {CX : CXT} {e o : Expr} {es : List Expr} {eo : M} {g : ML} {m x : Str} {k np : Nat} {f C : Addr} {fd : FuncData} {ps : List Str} {md : MD} {pos apos p0 : Pos}
end
def mFldAug (cs : List Addr) (f : Str) (op : D → D → Hs → R D) (o e : M) : MS := fun l S => (o l S).bind fun x S1 => match x with
  | .ref i => match S1[i]? with
    | some (.ins C fs) => if C ∈ cs then (match fs.lookup f with
      | some d0 => (e l S1).bind fun d S2 => (op d0 d S2).bind fun z S3 => match S3[i]? with
        | some (.ins C' fs') => if C' = C ∧ fs'.length < 1000 then .ok (.nx l) (S3.set i (.ins C (putD f z fs'))) else .bad
        | _ => .bad
      | none => .bad) else .bad
    | _ => .bad
  | _ => .bad
section
variable {X : Cx} {E : St → XK} {e o : Expr} {eo ee : M} {cs : List Addr} {f : Str} {pos tpos : Pos} {r : R2} {op : D → D → Hs → R D} {ao : Operator}
end
def mMeth (tbl : List (Addr × MD)) (m : Str) (o : M) (g : ML) : M := fun l S => (o l S).bind fun x S1 => match x with
  | .ref i => match S1[i]? with
    | some (.ins C fs) => (match tbl.lookup C with
      | some md => if (fs.lookup m).isNone then (g l S1).bind fun ds S2 => (md (.ref i :: ds) S2).at l else .bad
      | none => .bad)
    | _ => .bad
  | _ => .bad
def MOk (P : Program) (w : World) (K : PySem.W.Frag) (mg : Str → Option Value) (base : Heap) (CX : CXT) (k : Nat) (m : Str) (C : Addr) (md : MD) : Prop := ∃ (np : Nat) (f : Addr) (fd : FuncData) (ps : List Str), Cls K C ∧ Meth K C m f ∧ FnOk P w K mg base CX k f fd ps (spM K np md) ∧ Binds K fd ps [] ∧ ∀ ds S, ds.length ≠ np → md ds S = .bad
section
variable {P : Program} {w : World} {K : PySem.W.Frag} {mg : Str → Option Value} {base : Heap} {CX : CXT} {k : Nat} {m : Str}
inductive MOks (P : Program) (w : World) (K : PySem.W.Frag) (mg : Str → Option Value) (base : Heap) (CX : CXT) (k : Nat) (m : Str) : List (Addr × MD) → Prop
  | one {C : Addr} {md : MD} (h : MOk P w K mg base CX k m C md) : MOks P w K mg base CX k m [(C, md)]
  | cons {C : Addr} {md : MD} {r : List (Addr × MD)} (h : MOk P w K mg base CX k m C md) (t : MOks P w K mg base CX k m r) : MOks P w K mg base CX k m ((C, md) :: r)
theorem MOks.get {tbl : List (Addr × MD)} (h : MOks P w K mg base CX k m tbl) {C : Addr} {md : MD} (e : tbl.lookup C = some md) : MOk P w K mg base CX k m C md := by
  induction h with
  | one h =>
    simp only [List.lookup] at e
    split at e
    · cases e; rename_i q; rw [show C = _ from by simpa using q]; exact h
    · cases e
  | cons h t ih =>
    simp only [List.lookup] at e
    split at e
    · cases e; rename_i q; rw [show C = _ from by simpa using q]; exact h
    · exact ih e
theorem MOks.some {tbl : List (Addr × MD)} (h : MOks P w K mg base CX k m tbl) : ∃ C md, MOk P w K mg base CX k m C md := by
  cases h with
  | one h => exact ⟨_, _, h⟩
  | cons h _ => exact ⟨_, _, h⟩
structure MetAt (K : PySem.W.Frag) (m qual : Str) (st : Stmt) (ps : List Str) (f : Addr) (fd : FuncData) : Prop where
  F : Fun K m qual st f fd
  b : Binds K fd ps []
end
section
variable {X : Cx} {E0 : XK} {CX : CXT} {e o : Expr} {es : List Expr} {eo : M} {g : ML} {m : Str} {k : Nat} {tbl : List (Addr × MD)} {pos apos : Pos} {pl : Sem Bool}
end
end Ly
set_option Elab.async false
set_option linter.all false
set_option maxRecDepth 100000
namespace Ly
open PySem PySem.Spec L2
open PyProof.Rows hiding St
def dcStep (j : J) (gl : CG) (tt : MB) (tk tv : M) (l : Ls) (n : Nat) (a : Nat × Hs) : Sum (Nat × Hs) (R D) := match itGo j a.1 a.2 with
  | none => .inr .bad
  | some none => .inr (.ok (.ref n) a.2)
  | some (some d) => match gl d l with
    | none => .inr .bad
    | some l1 => match tt l1 a.2 with
      | .ok false S2 => .inl (a.1 + 1, S2)
      | .ok true S2 => (match tk l1 S2 with
        | .ok y S3 => (match tv l1 S3 with
          | .ok z S4 => (match S4[n]?, y.key with
            | some (.dic acc), some k => if acc.length < sizeLine then .inl (a.1 + 1, S4.set n (.dic (setK acc k z))) else .inr .bad
            | _, _ => .inr .bad)
          | _ => .inr .bad)
        | _ => .inr .bad)
      | _ => .inr .bad
noncomputable def dcLoop (j : J) (gl : CG) (tt : MB) (tk tv : M) (l : Ls) (n k : Nat) (S : Hs) : R D := runI (dcStep j gl tt tk tv l n) (k, S)
noncomputable def mDc (it : MI) (gl : CG) (tt : MB) (tk tv : M) (vs : List Nat) : M := fun l S => (it l S).bind fun j S1 => dcLoop j gl tt tk tv (wipeL l vs) S1.length 0 (S1 ++ [.dic []])
theorem dcLoop_eq (j : J) (gl : CG) (tt : MB) (tk tv : M) (l : Ls) (n k : Nat) (S : Hs) : dcLoop j gl tt tk tv l n k S = match dcStep j gl tt tk tv l n (k, S) with
    | .inl a => dcLoop j gl tt tk tv l n a.1 a.2
    | .inr r => r := by
  unfold dcLoop
  rw [runI_eq]
  cases dcStep j gl tt tk tv l n (k, S) <;> rfl
section
variable {X : Cx} {E : St → XK} {kx vx tg iter : Expr} {ifs : List Expr} {scope : Scope} {own : List (Str × Nat)} {pos : Pos} {it : MI} {g : TG} {gl : CG} {tm : MB} {tk tv : M} {tt : TT}
theorem dc_reading {K : PySem.W.Frag} {vs : List Nat} (hgk : GOk K vs g gl) {s : St} {H : Hp} {Q : VK} {p : Nat → Addr} {l : Ls} {S : Hs} {j : J} {I : It} (R : Real K p S H) (L : Sl K p S.length H l s) (hI : JRel K p S.length H j I)
    (h : Post K E S.length p H (dcLoop j gl tm tk tv (wipeL l vs) S.length 0 (S ++ [.dic []])) (QD K Q)) : ∀ D0, H D0 = none → ∃ W : Nat → Nat → Hp → Prop, (∃ m, W 0 m (upd H D0 (.dK []))) ∧ ∀ i m H, W i m H →
      (I.stop i H ∧ Q (.ref D0) H) ∨ (I.go i H ∧ ∃ Nx : Hp → Prop, (∀ H', Nx H' → ∃ m', m' < m ∧ W (i + 1) m' H') ∧ ∀ x H', I.yld i H x H' → g x (L2.wipe s vs) H' fun s2 H2 => L2.wipe s2 vs = L2.wipe s vs ∧
        TB K E00 tm s2 H2 fun b H3 => if b = true then T K E00 tk s2 H3 fun y H4 => T K E00 tv s2 H4 fun z H5 => ∃ kvs k, y = kV k ∧ H5 D0 = some (.dK kvs) ∧ kvs.length < sizeLine ∧ Nx (upd H5 D0 (.dK (putK kvs k z))) else Nx H3) := by
  intro D0 hD
  obtain ⟨m0, hm, _⟩ := runI_ex (Post.ne h)
  rw [show dcLoop j gl tm tk tv (wipeL l vs) S.length 0 (S ++ [.dic []]) = _ from hm.symm] at h
  have x0 := ext_new (S := S) (pi := p) (u := .dK []) hD
  have R0 := R.new (u := .dK []) (o := .dic []) hD ⟨[], upd_same, rfl, .nil⟩
  have e0 : (S ++ [O.dic []]).length = S.length + 1 := by simp
  refine ⟨fun k m H => ∃ q S1, S.length < S1.length ∧ q S.length = D0 ∧ Real K q S1 H ∧ Sl K q S1.length H (wipeL l vs) (L2.wipe s vs) ∧ JRel K q S1.length H j I ∧ Post K E S1.length q H (iter (dcStep j gl tm tk tv (wipeL l vs) S.length) m (k, S1)) (QD K Q),
    ⟨m0, piN p S.length D0, S ++ [.dic []], by omega, piN_same, R0, by rw [e0]; exact (L.wipe vs).ext x0, by rw [e0]; exact hI.ext x0, Post.ext h (by rw [e0]; exact x0)⟩, ?_⟩
  rintro k m H1 ⟨q, S1, hn, hq, R1, L1, hI1, h1⟩
  cases m with
  | zero => exact h1.elim
  | succ m =>
    simp only [iter, dcStep] at h1
    cases e1 : itGo j k S1 with
    | none => rw [e1] at h1; exact h1.elim
    | some o =>
      cases o with
      | none =>
        rw [e1] at h1
        refine .inl ⟨it_stop R1 hI1 e1, ?_⟩
        have := Post.ok (Q := QD K Q) h1 Ext.refl R1 (.ref (q S.length)) (.ref hn)
        rwa [hq] at this
      | some d =>
        obtain ⟨g1, g2⟩ := it_go R1 hI1 e1
        rw [e1] at h1
        simp only [] at h1
        refine .inr ⟨g1, fun H => ∃ q S1, S.length < S1.length ∧ q S.length = D0 ∧ Real K q S1 H ∧ Sl K q S1.length H (wipeL l vs) (L2.wipe s vs) ∧ JRel K q S1.length H j I ∧ Post K E S1.length q H (iter (dcStep j gl tm tk tv (wipeL l vs) S.length) m (k + 1, S1)) (QD K Q),
          fun H' w => ⟨m, Nat.lt_succ_self m, w⟩, fun x H' y => ?_⟩
        obtain ⟨x2, R2, r2⟩ := g2 x H' y
        have h2 := Post.ext h1 x2
        cases e2 : gl d (wipeL l vs) with
        | none => rw [e2] at h2; exact h2.elim
        | some l1 =>
          rw [e2] at h2
          simp only [] at h2
          refine hgk q S1.length H' d x _ l1 s _ (L1.ext x2) r2 e2 fun s2 w2 L2' => ⟨w2, ?_⟩
          refine ⟨q, l1, S1, R2, L2', ?_⟩
          cases e3 : tm l1 S1 with
          | bad => rw [e3] at h2; exact h2.elim
          | exc _ _ _ _ => rw [e3] at h2; exact h2.elim
          | ok b S2 =>
            rw [e3] at h2
            intro q3 H3 x3 R3
            have h3 := Post.ext h2 x3
            cases b with
            | false => exact ⟨q3, S2, Nat.lt_of_lt_of_le hn x3.le, (x3.ag _ hn).trans hq, R3, (L1.ext x2).ext x3, (hI1.ext x2).ext x3, h3⟩
            | true =>
              show T K E00 tk s2 H3 _
              refine ⟨q3, l1, S2, R3, L2'.ext x3, ?_⟩
              simp only [] at h3
              cases e4 : tk l1 S2 with
              | bad => rw [e4] at h3; exact h3.elim
              | exc _ _ _ _ => rw [e4] at h3; exact h3.elim
              | ok y S3 =>
                rw [e4] at h3
                simp only [] at h3
                intro q4 H4 x4 R4 v r4
                have h4 := Post.ext h3 x4
                show T K E00 tv s2 H4 _
                refine ⟨q4, l1, S3, R4, (L2'.ext x3).ext x4, ?_⟩
                cases e4' : tv l1 S3 with
                | bad => rw [e4'] at h4; exact h4.elim
                | exc _ _ _ _ => rw [e4'] at h4; exact h4.elim
                | ok z S4 =>
                  rw [e4'] at h4
                  simp only [] at h4
                  intro q5 H5 x5 R5 v5 r5
                  have h5 := Post.ext h4 x5
                  have hn4 : S.length < S3.length := Nat.lt_of_lt_of_le hn (Nat.le_trans x3.le x4.le)
                  have hn5 : S.length < S4.length := Nat.lt_of_lt_of_le hn4 x5.le
                  have hq4 : q4 S.length = D0 := (x4.ag _ (Nat.lt_of_lt_of_le hn x3.le)).trans ((x3.ag _ hn).trans hq)
                  have hq5 : q5 S.length = D0 := (x5.ag _ hn4).trans hq4
                  split at h5
                  · rename_i acc k0 e5 ek
                    split at h5
                    · rename_i hl
                      obtain ⟨us, hu1, hu2, hu3⟩ := R5.ob _ _ e5
                      have xu : ∀ u, Ext S4.length S4.length q5 q5 H5 (upd H5 (q5 S.length) u) := fun u => ext_upd (R5.notup hn5)
                      have hlen : us.length = acc.length := by
                        have := congrArg List.length hu2
                        simpa using this
                      rw [hq5] at hu1
                      obtain ⟨g1, g2⟩ := setK_V hu2 hu3 k0 r5
                      refine ⟨us, k0, key_V r4 ek, hu1, by rw [hlen]; exact hl, q5, S4.set S.length (.dic (setK acc k0 z)), by rw [List.length_set]; exact hn5, hq5, ?_, ?_, ?_, ?_⟩
                      · rw [← hq5]
                        exact R5.put hn5 ⟨_, upd_same, g1, g2.ext (xu _) _ _⟩
                      · rw [← hq5, List.length_set]; exact ((((L1.ext x2).ext x3).ext x4).ext x5).ext (xu _)
                      · rw [← hq5, List.length_set]; exact ((((hI1.ext x2).ext x3).ext x4).ext x5).ext (xu _)
                      · rw [← hq5, List.length_set]; exact Post.ext h5 (xu _)
                    · exact h5.elim
                  · exact h5.elim
theorem e_dc (hc : X.calm = true) (hN : X.N.Nodup) (hi : IM X E tg iter it) (ok : BlkOk X.N X.env.scope scope own) (hgk : GOk X.K (own.map (·.2)) g gl)
    (hg : ∀ (s : Shared) (H : Hp) (C : Addr) (cl : List (Str × Addr)) (fp : List Addr), PG (X.blk s H scope (compEnvC scope cl C X.env) fp) tg g)
    (ht : ∀ (s : Shared) (H : Hp) (C : Addr) (cl : List (Str × Addr)) (fp : List Addr), CT (X.blk s H scope (compEnvC scope cl C X.env) fp) ifs tm)
    (hk : ∀ (s : Shared) (H : Hp) (C : Addr) (cl : List (Str × Addr)) (fp : List Addr), EM (X.blk s H scope (compEnvC scope cl C X.env) fp) E00 kx tk)
    (he : ∀ (s : Shared) (H : Hp) (C : Addr) (cl : List (Str × Addr)) (fp : List Addr), EM (X.blk s H scope (compEnvC scope cl C X.env) fp) E00 vx tv) (hs : ∀ x, foldedSetIterable iter X.env x = pure x := by intro _; rfl) :
    EM X E (.DictComp kx vx [⟨tg, iter, ifs, 0⟩] scope pos) (mDc it gl tm tk tv (own.map (·.2))) :=
  ⟨(pe_dc hc hN hi.pi ok hg (fun s H C cl fp => (ht s H C cl fp).pts) (fun s H C cl fp => (hk s H C cl fp).pe) (fun s H C cl fp => (he s H C cl fp).pe) hs).weak fun s H Q ⟨p, l, S, R, L, h⟩ =>
    ⟨p, l, S, R, L, (Post.bind (r := it l S) h).mono fun j S1 p1 H1 _ x1 R1 q I hI => dc_reading hgk R1 (L.ext x1) hI q⟩⟩
theorem ps_setDc {i : Nat} {y : Str} {py : Pos} {spos : Pos} {wi : TI} {tk' tv' : TE} (hc : X.calm = true) (hN : X.N.Nodup) (hy : X.N[i]? = some y) (hyl : X.env.scope.names.lookup y = some .local)
    (hsw : swapsWith (.DictComp kx vx [⟨tg, iter, ifs, 0⟩] scope pos) (some (.Name y py)) spos.line X.env = pure true) (hi : PI X tg iter wi) (ok : BlkOk X.N X.env.scope scope own)
    (hg : ∀ (s : Shared) (H : Hp) (C : Addr) (cl : List (Str × Addr)) (fp : List Addr), PG (X.blk s H scope (compEnvC scope cl C X.env) fp) tg g) (ht : ∀ (s : Shared) (H : Hp) (C : Addr) (cl : List (Str × Addr)) (fp : List Addr), PTs (X.blk s H scope (compEnvC scope cl C X.env) fp) ifs tt)
    (hk : ∀ (s : Shared) (H : Hp) (C : Addr) (cl : List (Str × Addr)) (fp : List Addr), PE (X.blk s H scope (compEnvC scope cl C X.env) fp) kx tk')
    (he : ∀ (s : Shared) (H : Hp) (C : Addr) (cl : List (Str × Addr)) (fp : List Addr), PE (X.blk s H scope (compEnvC scope cl C X.env) fp) vx tv') (hs : ∀ x, foldedSetIterable iter X.env x = pure x := by intro _; rfl) :
    PS X (.Assign [.Name y py] (.DictComp kx vx [⟨tg, iter, ifs, 0⟩] scope pos) spos) (tAsg (tDc wi g tt tk' tv' (own.map (·.2))) (gName i)) := by
  refine ⟨fun pins s σ H D I h => ?_⟩
  rw [exec_Assign_Name_used _ _ _ _ hsw]
  refine wpAny_bind (wpAny_standAt (wpAny_bind ?_))
  show wpAny _ X.A (do let _ ← comprehension (.DictComp kx vx [⟨tg, iter, ifs, 0⟩] scope pos) scope X.env (firstIterPos [⟨tg, iter, ifs, 0⟩] pos) newDict false (eval iter X.env) (some (assign (.Name y py) X.env))) _ _ s
  have h : tDc wi g tt tk' tv' (own.map (·.2)) σ H (fun x H1 => gName i x σ H1 D.nx) := h
  refine wpAny_bind (thn (dc_core (Qf := fun _ s' => SP X pins D .next s') hc hN I hi ok hg ht hk he hs h fun L C s' m H' I' q hn f => ?_) fun _ s' hq => wpAny_pure (wpAny_pure hq))
  show wpAny _ _ (assign (.Name y py) X.env (.ref L)) _ _ _
  refine wpAny_assign_Name (store_ok2 (v := V.ref L) I' hN hy (.inl hyl) rfl (fun s2 I2 ⟨a, sb, ha⟩ => ?_) (.inr hyl))
  obtain ⟨f0, f1, f2, f3, f4, f5⟩ := f
  have haC : C ≠ a := by
    rcases ha with z | z
    · rw [z]; exact f1
    · exact fun e => f4 y a z e.symm
  refine ⟨m, hn.sameBut sb haC, fun h3 sb3 => ?_⟩
  exact ⟨_, H', I2.turned (t' := s2.toks) (fun b o hb e => (sb3.2 b hb).trans e) f0 f1 f3 f4 f5, q⟩
theorem swD_true {kx vx : Expr} {gs : List Comprehension} {scope : Scope} {pos py : Pos} {y : Str} {l : Nat} {env : Env} (hk : env.scope.kind = .function) (hy : env.scope.names.lookup y = some .local) (hl : (py.line == pos.line) = true)
    (ha : (scope.names.any fun (n, k) => n == y && (k == .local || k == .cell)) = false) : swapsWith (.DictComp kx vx gs scope pos) (some (.Name y py)) l env = pure true := by
  have ky : env.kindOf y = some .local := hy
  have hb : env.blockKind = .function := by unfold Env.blockKind; rw [hk]; rfl
  unfold swapsWith
  simp only [hb, ky, ha, Expr.pos, hl]
  rfl
theorem s_setDc {i : Nat} {y : Str} {py spos : Pos} (hc : X.calm = true) (hN : X.N.Nodup) (hsw : swapsWith (.DictComp kx vx [⟨tg, iter, ifs, 0⟩] scope pos) (some (.Name y py)) spos.line X.env = pure true) (hi : IM X E tg iter it) (ok : BlkOk X.N X.env.scope scope own) (hgk : GOk X.K (own.map (·.2)) g gl)
    (hg : ∀ (s : Shared) (H : Hp) (C : Addr) (cl : List (Str × Addr)) (fp : List Addr), PG (X.blk s H scope (compEnvC scope cl C X.env) fp) tg g)
    (ht : ∀ (s : Shared) (H : Hp) (C : Addr) (cl : List (Str × Addr)) (fp : List Addr), CT (X.blk s H scope (compEnvC scope cl C X.env) fp) ifs tm)
    (hk : ∀ (s : Shared) (H : Hp) (C : Addr) (cl : List (Str × Addr)) (fp : List Addr), EM (X.blk s H scope (compEnvC scope cl C X.env) fp) E00 kx tk)
    (he : ∀ (s : Shared) (H : Hp) (C : Addr) (cl : List (Str × Addr)) (fp : List Addr), EM (X.blk s H scope (compEnvC scope cl C X.env) fp) E00 vx tv) (hy : X.N[i]? = some y := by rfl) (hl : X.env.scope.names.lookup y = some .local := by rfl) (hs : ∀ x, foldedSetIterable iter X.env x = pure x := by intro _; rfl) :
    SM X E (.Assign [.Name y py] (.DictComp kx vx [⟨tg, iter, ifs, 0⟩] scope pos) spos) (mSet i (mDc it gl tm tk tv (own.map (·.2)))) :=
  ⟨(ps_setDc hc hN hy hl hsw hi.pi ok hg (fun s H C cl fp => (ht s H C cl fp).pts) (fun s H C cl fp => (hk s H C cl fp).pe) (fun s H C cl fp => (he s H C cl fp).pe) hs).weak fun s H D0 ⟨p, l, S, R, L, h⟩ => by
    have h' : Post X.K E S.length p H ((mDc it gl tm tk tv (own.map (·.2)) l S).bind fun d S1 => .ok (.nx (l.set i (some d))) S1) (QF X.K D0) := h
    have h2 : Post X.K E S.length p H (mDc it gl tm tk tv (own.map (·.2)) l S) (QD X.K fun v H' => D0.nx (s.set i (some v)) H') := h'.bind.mono fun d S1 p1 H1 _ x1 R1 q v r => Post.nx q R1 ((L.ext x1).set i r)
    exact ⟨p, l, S, R, L, (Post.bind (r := it l S) h2).mono fun j S1 p1 H1 _ x1 R1 q I hI => dc_reading hgk R1 (L.ext x1) hI q⟩⟩
end
def oSetd (x y z : D) (S : Hs) : R D := match x with
  | .ref i => match S[i]?, y.key with
    | some (.dic kvs), some k => if kvs.length < sizeLine then (match getK kvs k with
      | some d => .ok d S
      | none => .ok z (S.set i (.dic (setK kvs k z)))) else .bad
    | _, _ => .bad
  | _ => .bad
def mSetd (f g h : M) : M := fun l S => (f l S).bind fun x S1 => if hasTy "dict" x S1 = true then (g l S1).bind fun y S2 => (h l S2).bind fun z S3 => oSetd x y z S3 else .bad
def mGet1 (f g : M) : M := fun l S => (f l S).bind fun x S1 => if hasTy "dict" x S1 = true then (g l S1).bind fun y S2 => match dGet x y S2 with
  | some (some d) => .ok d S2
  | some none => .ok .non S2
  | none => .bad else .bad
def dropD (kvs : List (Key × D)) (k : Key) : List (Key × D) := kvs.filter fun kv => decide (kv.1 ≠ k)
def oPop2 (x y z : D) (S : Hs) : R D := match x with
  | .ref i => match S[i]?, y.key with
    | some (.dic kvs), some k => (match getK kvs k with
      | some d => .ok d (S.set i (.dic (dropD kvs k)))
      | none => .ok z S)
    | _, _ => .bad
  | _ => .bad
def mPop2 (f g h : M) : M := fun l S => (f l S).bind fun x S1 => if hasTy "dict" x S1 = true then (g l S1).bind fun y S2 => (h l S2).bind fun z S3 => oPop2 x y z S3 else .bad
def oDel (x y : D) (S : Hs) : R Unit := match x with
  | .ref i => match S[i]?, y.key with
    | some (.dic kvs), some k => (match getK kvs k with
      | some _ => .ok () (S.set i (.dic (dropD kvs k)))
      | none => .bad)
    | _, _ => .bad
  | _ => .bad
def mDel (f g : M) : MS := fun l S => (f l S).bind fun x S1 => (g l S1).bind fun y S2 => (oDel x y S2).bind fun _ S3 => .ok (.nx l) S3
section
variable {K : PySem.W.Frag} {p : Nat → Addr} {n : Nat} {H : Hp}
end
section
variable {X : Cx} {E : St → XK} {f g hh : M} {o e e2 : Expr} {apos cpos : Pos}
end
def rgD (a b : Int) : List D := (List.range (b - a).toNat).map fun i => D.int (a + (i : Nat))
theorem rg_reps {K : PySem.W.Frag} {p : Nat → Addr} {n : Nat} {H : Hp} (a b : Int) : Reps K p n H (rgD a b) (rgV a b) := by
  unfold rgD rgV
  generalize List.range (b - a).toNat = xs
  induction xs with
  | nil => exact .nil
  | cons x xs ih => exact .cons (.int _) ih
def oLRg (a b : Int) (S : Hs) : R D := if -(2 ^ 62) ≤ a ∧ a < 2 ^ 62 ∧ -(2 ^ 62) ≤ b ∧ b < 2 ^ 62 ∧ (b - a).toNat ≤ 2 ^ 24 then .ok (.ref S.length) (S ++ [.lst (rgD a b)]) else .bad
def oTRg (a b : Int) (S : Hs) : R D := if -(2 ^ 62) ≤ a ∧ a < 2 ^ 62 ∧ -(2 ^ 62) ≤ b ∧ b < 2 ^ 62 ∧ (b - a).toNat ≤ 2 ^ 24 then .ok (.tup (rgD a b)) S else .bad
def rg1 (op : Int → Int → Hs → R D) : List D → Hs → R D := fun ds S => match ds with
  | [.int b] => op 0 b S
  | [.int a, .int b] => op a b S
  | _ => .bad
def mRg1 (op : Int → Int → Hs → R D) (f : M) : M := fun l S => (f l S).bind fun x S1 => rg1 op [x] S1
def mRg2 (op : Int → Int → Hs → R D) (f g : M) : M := fun l S => (f l S).bind fun x S1 => (g l S1).bind fun y S2 => rg1 op [x, y] S2
section
variable {X : Cx} {E : St → XK} {f g : M} {a b : Expr} {p p2 pos pos2 : Pos}
theorem post_lrg {K : PySem.W.Frag} {p : Nat → Addr} {S : Hs} {H : Hp} {i j : Int} {Q : VK} (R : Real K p S H) (h : Post K E S.length p H (oLRg i j S) (QD K Q)) : RgOk i j ∧ ∀ q, H q = none → Q (.ref q) (upd H q (.lst (rgV i j))) := by
  unfold oLRg at h
  split at h
  · rename_i hr
    exact ⟨hr, fun q hq => h.new R hq ⟨_, upd_same, rg_reps i j⟩⟩
  · exact h.elim
theorem post_trg {K : PySem.W.Frag} {p : Nat → Addr} {S : Hs} {H : Hp} {i j : Int} {Q : VK} (R : Real K p S H) (h : Post K E S.length p H (oTRg i j S) (QD K Q)) : RgOk i j ∧ ∀ q, H q = none → Q (.ref q) (upd H q (.tup (rgV i j))) := by
  unfold oTRg at h
  split at h
  · rename_i hr
    exact ⟨hr, fun q hq => h.valT R (rg_reps i j) hq⟩
  · exact h.elim
theorem c_listRg1 (hc : X.calm = true) (hm : X.mg "list" = none) (hm2 : X.mg "range" = none) (ha : EM X E a f) (hg : Gl X "list" := by rfl) (hg2 : Gl X "range" := by rfl) (na : starEach [a] X.env = (false, eval a X.env) :: starEach [] X.env := by rfl)
    (na2 : starEach [(.Call (.Name "range" p2) [a] [] pos2 : Expr)] X.env = (false, eval (.Call (.Name "range" p2) [a] [] pos2) X.env) :: starEach [] X.env := by rfl) :
    EM X E (.Call (.Name "list" p) [.Call (.Name "range" p2) [a] [] pos2] [] pos) (mRg1 oLRg f) :=
  ⟨(pe_listRg hc hg hm (prg_1 hg2 hm2 ha.pe na) na2).weak fun s H Q ⟨p, l, S, R, L, h⟩ => T.of (k := fun x S1 => rg1 oLRg [x] S1) R L h fun p1 S1 H1 d v R1 x1 L1 r1 h1 => by
    unfold rg1 at h1
    split at h1
    · rename_i e; cases e; cases r1; exact ⟨_, rfl, post_lrg R1 h1⟩
    · rename_i e; cases e
    · exact h1.elim⟩
theorem c_tupleRg1 (hc : X.calm = true) (hm : X.mg "tuple" = none) (hm2 : X.mg "range" = none) (ha : EM X E a f) (hg : Gl X "tuple" := by rfl) (hg2 : Gl X "range" := by rfl) (na : starEach [a] X.env = (false, eval a X.env) :: starEach [] X.env := by rfl)
    (na2 : starEach [(.Call (.Name "range" p2) [a] [] pos2 : Expr)] X.env = (false, eval (.Call (.Name "range" p2) [a] [] pos2) X.env) :: starEach [] X.env := by rfl) :
    EM X E (.Call (.Name "tuple" p) [.Call (.Name "range" p2) [a] [] pos2] [] pos) (mRg1 oTRg f) :=
  ⟨(pe_tupRg hc hg hm (prg_1 hg2 hm2 ha.pe na) na2).weak fun s H Q ⟨p, l, S, R, L, h⟩ => T.of (k := fun x S1 => rg1 oTRg [x] S1) R L h fun p1 S1 H1 d v R1 x1 L1 r1 h1 => by
    unfold rg1 at h1
    split at h1
    · rename_i e; cases e; cases r1; exact ⟨_, rfl, post_trg R1 h1⟩
    · rename_i e; cases e
    · exact h1.elim⟩
end
def sortI (ns : List Int) : List Int := ns.mergeSort (fun a b => decide (a ≤ b))
theorem sortI_perm (ns : List Int) : (sortI ns).Perm ns := List.mergeSort_perm _ _
theorem sortI_pw (ns : List Int) : (sortI ns).Pairwise (· ≤ ·) := by
  have := List.pairwise_mergeSort (le := fun a b : Int => decide (a ≤ b)) (fun a b c h1 h2 => by simp at *; omega) (fun a b => by simp; omega) ns
  exact this.imp fun h => by simpa using h
theorem sortI_uniq {ns xs : List Int} (h : xs.Perm ns) (p : xs.Pairwise (· ≤ ·)) : xs = sortI ns :=
  List.Perm.eq_of_pairwise (fun a b _ _ h1 h2 => Int.le_antisymm h1 h2) p (sortI_pw ns) (h.trans (sortI_perm ns).symm)
def intKeys : List (Key × D) → Option (List Int)
  | [] => some []
  | (.inl i, _) :: r => (intKeys r).map (i :: ·)
  | _ => none
def bSorted : List D → Hs → R D
  | [x], S => match (seqD x S).bind intsD with
    | some ns => .ok (.ref S.length) (S ++ [.lst ((sortI ns).map D.int)])
    | none => match x with
      | .ref i => match S[i]? with
        | some (.dic kvs) => (match intKeys kvs with
          | some ns => if ns.length < 64 then .ok (.ref S.length) (S ++ [.lst ((sortI ns).map D.int)]) else .bad
          | none => .bad)
        | _ => .bad
      | _ => .bad
  | _, _ => .bad
section
variable {X : Cx} {E : St → XK} {e : Expr} {f : ML} {p pos : Pos}
abbrev rSortedA (K : PySem.W.Frag) : List V → Hp → VK → Prop := orC (rSortedI K) (fun xs H Q => ∃ (a : Addr) (kvs : List (Key × V)) (ks : List Int), xs = [.ref a] ∧ Rd H a (.dK kvs) ∧ kvs.map (·.1) = ks.map Sum.inl ∧ ks.length < 64 ∧
    ∀ (ys : List Int) (p : Addr), ys.Perm ks → ys.Pairwise (· ≤ ·) → H p = none → Q (.ref p) (upd H p (.lst (ys.map V.int))))
theorem intKeys_map {kvs : List (Key × D)} {ns : List Int} (h : intKeys kvs = some ns) : kvs.map (·.1) = ns.map Sum.inl := by
  induction kvs generalizing ns with
  | nil => cases h; rfl
  | cons a r ih =>
    obtain ⟨k, d⟩ := a
    cases k with
    | inl i =>
      simp only [intKeys, Option.map_eq_some_iff] at h
      obtain ⟨ms, h1, rfl⟩ := h
      simp [ih h1]
    | inr x => cases h
theorem ints_reps {K : PySem.W.Frag} {p : Nat → Addr} {n : Nat} {H : Hp} (ns : List Int) : Reps K p n H (ns.map D.int) (ns.map V.int) := by
  induction ns with
  | nil => exact .nil
  | cons x xs ih => exact .cons (.int _) ih
theorem ok_sorted {K : PySem.W.Frag} : CallOk K E (rSortedA K) bSorted := by
  intro p S H ds vs Q R r h
  unfold bSorted at h
  split at h
  · cases r with
    | cons r0 rs =>
    cases rs
    split at h
    · rename_i ns e
      rw [Option.bind_eq_some_iff] at e
      obtain ⟨xs, e1, e2⟩ := e
      obtain ⟨a, vs, rfl, hs, rv⟩ := seq_V R r0 e1
      refine .inl ⟨a, ns, rfl, by rw [← ints_V rv e2]; exact hs, fun ys q h1 h2 hq => ?_⟩
      rw [sortI_uniq h1 h2]
      exact h.new R hq ⟨_, upd_same, ints_reps _⟩
    · split at h
      · rename_i i
        cases r0 with
        | ref hi =>
        split at h
        · rename_i kvs q
          split at h
          · rename_i ns e
            split at h
            · rename_i hl
              obtain ⟨ks, h1, h2, h3⟩ := R.ob _ _ q
              refine .inr ⟨_, ks, ns, rfl, .inl h1, by rw [h2, intKeys_map e], hl, fun ys q h1 h2 hq => ?_⟩
              rw [sortI_uniq h1 h2]
              exact h.new R hq ⟨_, upd_same, ints_reps _⟩
            · exact h.elim
          · exact h.elim
        · exact h.elim
      · exact h.elim
  · exact h.elim
theorem c_sorted (hc : X.calm = true) (hm : X.mg "sorted" = none) (ha : LM X E [e] f) (hg : Gl X "sorted" := by rfl) (he : starEach [e] X.env = (false, eval e X.env) :: starEach [] X.env := by rfl) : EM X E (.Call (.Name "sorted" p) [e] [] pos) (mCall bSorted f) :=
  e_callB (CallR.or cr_sortedI (call_sortedDI hc)) ok_sorted hg hm (by decide +kernel) ha (by decide) (by decide) he
end
end Ly
set_option Elab.async false
set_option linter.all false
set_option maxRecDepth 100000
namespace Ly
open PySem PySem.Spec L2
open PyProof.Rows hiding St
def HOk (P : Program) (w : World) (K : PySem.W.Frag) (mg : Str → Option Value) (base : Heap) (CX : CXT) (k : Nat) (f : Addr) (md : MD) : Prop := ∃ (np : Nat) (fd : FuncData) (ps : List Str), FnOk P w K mg base CX k f fd ps (spM K np md) ∧ PySem.W.keepIn K (.ref f) = true ∧ Binds K fd ps [] ∧ ∀ ds S, ds.length ≠ np → md ds S = .bad
section
variable {P : Program} {w : World} {K : PySem.W.Frag} {mg : Str → Option Value} {base : Heap} {CX : CXT} {k : Nat}
inductive HOks (P : Program) (w : World) (K : PySem.W.Frag) (mg : Str → Option Value) (base : Heap) (CX : CXT) (k : Nat) : List (Addr × MD) → Prop
  | nil : HOks P w K mg base CX k []
  | cons {f : Addr} {md : MD} {r : List (Addr × MD)} (h : HOk P w K mg base CX k f md) (t : HOks P w K mg base CX k r) : HOks P w K mg base CX k ((f, md) :: r)
theorem HOks.get {tbl : List (Addr × MD)} (h : HOks P w K mg base CX k tbl) {f : Addr} {md : MD} (e : tbl.lookup f = some md) : HOk P w K mg base CX k f md := by
  induction h with
  | nil => cases e
  | cons h t ih =>
    simp only [List.lookup] at e
    split at e
    · cases e; rename_i q; rw [show f = _ from by simpa using q]; exact h
    · exact ih e
theorem hok {f c : Addr} {fd : FuncData} {ps : List Str} {np j : Nat} {md : MD} (e : c = f) (F : FnOk P w K mg base CX j f fd ps (spM K np md)) (hj : j ≤ k) (hk : PySem.W.keepIn K (.ref f) = true) (hb : Binds K fd ps []) (hl : ∀ ds S, ds.length ≠ np → md ds S = .bad) : HOk P w K mg base CX k c md := by
  subst e
  exact ⟨np, fd, ps, F.mono hj, hk, hb, hl⟩
end
section
variable {X : Cx} {E0 : XK} {CX : CXT} {e : Expr} {es : List Expr} {g : ML} {x : Str} {i k : Nat} {tbl : List (Addr × MD)} {p pos : Pos}
end
end Ly
set_option Elab.async false
set_option linter.all false
set_option maxRecDepth 100000
namespace Ly
open PySem PySem.Spec L2
open PyProof.Rows hiding St
section
variable {X : Cx} {E : St → XK} {e : Expr} {f : M}
end
end Ly
set_option Elab.async false
set_option linter.all false
set_option maxRecDepth 100000
namespace Ly
open PySem PySem.Spec L2
open PyProof.Rows hiding St
structure FnR (P : Program) (w : World) (K : PySem.W.Frag) (mg : Str → Option Value) (base : Heap) (CX : CXT) (Rm : Around → Prop) (f : Addr) (fd : FuncData) (ps : List Str) (sp : Sp) : Prop where
  len : ∀ vs H Q E, sp vs H Q E → vs.length = ps.length
  run : ∀ (A : Around) (outer : List Env) (s : Shared) (H : Hp) (args : Args) (us : List Value) (vs : List V) (Q : VK) (E : XK), Rm A → Env0 P w K mg base A outer s H → BindsTo s fd args (ps.zip us) → Vals vs us → sp vs H Q E →
    codeAny (model P w) A (.call (.ref f) args) (CR CX outer P w H s Q E) s
structure Rn (j n : Nat) (A : Around) : Prop where
  hd : A.handled = none
  dp : A.depth + 3 * j + n + 5 < recursionLimit
  un : A.units + 16 * j + 5 * n + 200 < cLine
theorem Rn.room {j n : Nat} {A : Around} (r : Rn j n A) : Room j A := ⟨r.hd, by have := r.dp; omega, by have := r.un; omega⟩
theorem Rn.of {j n k : Nat} {A : Around} (r : Room k A) (h : 3 * j + n ≤ 3 * k) : Rn j n A := ⟨r.hd, by have := r.dp; omega, by have := r.un; omega⟩
theorem Rn.deeper {j n : Nat} {A : Around} (r : Rn j (n + 1) A) (env : Env) : Rn j n (A.deeper env) :=
  ⟨r.hd, by have := r.dp; show A.depth + 1 + 3 * j + n + 5 < _; omega, by have := r.un; show A.units + 3 + 16 * j + 5 * n + 200 < _; omega⟩
section
variable {P : Program} {w : World} {K : PySem.W.Frag} {mg : Str → Option Value} {base : Heap} {CX : CXT} {f : Addr} {fd : FuncData} {ps : List Str} {sp : Sp}
theorem FnR.ok {j n k : Nat} (F : FnR P w K mg base CX (Rn j n) f fd ps sp) (h : 3 * j + n ≤ 3 * k) : FnOk P w K mg base CX k f fd ps sp :=
  ⟨F.len, fun A outer s H args us vs Q E hr => F.run A outer s H args us vs Q E (.of hr h)⟩
end
section
variable {X : Cx} {CX : CXT} {Rm : Around → Prop} {f C : Addr} {fd : FuncData} {ps : List Str} {sp : Sp} {E0 : XK} {E : St → XK} {x m : Str} {p pos apos : Pos} {e o : Expr} {es : List Expr} {t : TA} {ta : TE}
theorem run_R {pins : List (Addr × Obj)} {σ : St} {H : Hp} {s : Shared} {Q : VK} {us : List Value} {vs : List V} {E0 : XK} (F : FnR X.prog X.w X.K X.mg X.base CX Rm f fd ps sp) (hr : Rm X.A) (hb : Binds X.K fd ps []) (hx : PassesAt CX X σ E0)
    (I : Inv X pins σ H s) (r : Vals vs us) (h : sp vs H Q E0) : wpAny (model X.prog X.w) X.A (call (.ref f) us) (EP X pins σ Q) X.xe s := by
  have hl : us.length = ps.length := r.length.symm.trans (F.len _ _ _ _ h)
  have hB := hb s us I.kIn (by rw [List.append_nil]; exact hl)
  rw [List.append_nil] at hB
  refine wpAny_call (codeAny_mono (F.run X.A X.stack s H ⟨us, []⟩ us vs Q E0 hr I.env0 hB r h) fun z s' hq => ?_)
  match z, hq with
  | .error e, hq => exact hx pins H s e s' I hq
  | .ok (.ret u), hq => exact I.after hq
theorem pe_callR (F : FnR X.prog X.w X.K X.mg X.base CX Rm f fd ps sp) (hr : Rm X.A) (hg : Gl X x) (hm : X.mg x = some (.ref f)) (hk : PySem.W.keepIn X.K (.ref f) = true) (hb : Binds X.K fd ps []) (hx : ∀ σ, PassesAt CX X σ (E σ))
    (ha : PA X (e :: es) t) (hdb : (x == ("__debug__" : Str)) = false := by decide) (he : starEach (e :: es) X.env = (false, eval e X.env) :: starEach es X.env := by rfl) (hpl : (backTo pos (starEach es X.env)).any (·.1) = false := by rfl) :
    PE X (.Call (.Name x p) (e :: es) [] pos) (tCallSD sp [] E t) :=
  ⟨fun pins s σ H Q I h => wpAny_Call_Name_kw (ld_glob I hg hm (PySem.W.callWith_K (h₀ := X.base) I.ok.mod.kin hk (thn (ha.run pos pins s σ H _ I h) fun us s1 ⟨vs, H1, I1, r, q⟩ => ⟨I1.kIn, run_R F hr hb (hx σ) I1 r (by simp only [List.append_nil] at q; exact q)⟩) he hpl) hdb)⟩
theorem e_fnR {np : Nat} {md : MD} {g : ML} (F : FnR X.prog X.w X.K X.mg X.base CX Rm f fd ps (spM X.K np md)) (hp : ∀ ds S, ds.length ≠ np → md ds S = .bad) (hr : Rm X.A) (hg : Gl X x) (hm : X.mg x = some (.ref f)) (hk : PySem.W.keepIn X.K (.ref f) = true) (hb : Binds X.K fd ps [])
    (hx : ∀ σ, PassesAt CX X σ (E σ)) (ha : LM X E (e :: es) g) (hdb : (x == ("__debug__" : Str)) = false := by decide) (he : starEach (e :: es) X.env = (false, eval e X.env) :: starEach es X.env := by rfl)
    (hpl : (backTo pos (starEach es X.env)).any (·.1) = false := by rfl) : EM X E (.Call (.Name x p) (e :: es) [] pos) (mFn md g) :=
  ⟨(pe_callR F hr hg hm hk hb hx ha.pa hdb he hpl).weak fun s H Q ⟨q, l, S, R, L, h⟩ => TL.of R L h fun p1 S1 H1 d v R1 x1 L1 r1 h1 => by
    refine ⟨p1, S1, d, R1, by rw [List.append_nil]; exact r1, ?_, fn_post L1 h1⟩
    apply Classical.byContradiction
    intro hne
    rw [hp d S1 hne] at h1
    exact h1⟩
variable {eo : M} {g : ML} {C1 : Addr} {md1 : MD} {pl : Sem Bool}
end
section
variable {P : Program} {w : World} {K : PySem.W.Frag} {mg : Str → Option Value} {base : Heap} {Rm : Around → Prop}
theorem fn_defR {x qual : Str} {st : Stmt} {f : Addr} {fd : FuncData} {N ps : List Str} {np nl : Nat} {m : MS} (F : Fun K x qual st f fd) (S : FnScope N ps (defScope st)) (hp : ps.length = np) (hn : N.length = np + nl)
    (hR : ∀ A, Rm A → A.handled = none ∧ A.depth < recursionLimit)
    (hb : ∀ (cdv : Value) (A : Around) (outer : List Env) (s : Shared) (H : Hp) (E : XK), Rm A →
      SMs (cxOf (L2.CX P w) P w K mg base N qual (defScope st) f cdv A outer s H E) (fun _ => E) (defBody st) m) : FnR P w K mg base (L2.CX P w) Rm f fd ps (spM K np (mDef np nl m)) := by
  obtain ⟨oc, od, kV, doc, pm, an, cdv, ct, osl, rfl, lk, hcd⟩ := F.ex
  refine ⟨fun vs H Q E h => (spM_len h).trans hp.symm, fun A outer s H args us vs Q E hr e0 hbt r hsp => ?_⟩
  have hl : vs.length = ps.length := (spM_len hsp).trans hp.symm
  have KX : K.In s.heap := e0.mod.kin.keeps fun b o e => (e0.bs b o e).1
  have lim : s.heap.NoLimit := e0.mod.nolimit.keeps fun b o e => (e0.bs b o e).1
  have hkind : ∀ y ∈ ps.zip us, (defScope st).names.lookup y.1 = some .local ∨ ((defScope st).names.lookup y.1 = some .cell ∧ ((cellsFrom (s.heap.objs.size + 1) (defScope st).names []).lookup y.1).isSome = true) := by
    rintro ⟨n, v⟩ hy
    exact (S.par n (List.of_mem_zip hy).1).imp id fun q => ⟨q, PySem.W.cellsFrom_some _ _ _ (.inl q)⟩
  refine codeAny_call_function (hR A hr).2 (KX _ _ lk) rfl S.co S.gen rfl (PySem.W.codeRec_of KX hcd) (hbt _ _ _ _ (wpAny_newFunctionEnv_cells S.kind hkind ?_))
  rintro env rfl s1 y
  refine ⟨lim.keeps y.toInCall.keep, codeAny_func ?_⟩
  have I : L2.Inv (cxOf (L2.CX P w) P w K mg base N qual (defScope st) f cdv A outer s H E) [] (L2.start N vs) H s1 := inv_start S (hR A hr).1 e0 hl r y
  refine wpAny_mono ((hb cdv A outer s H E hr).ps.run [] s1 (L2.start N vs) H { nx := fun _ H' => Q .non H', rt := Q } I ?_) ?_ fun e s' hs => hs
  · obtain ⟨p, S0, ds, R, r, hl, h⟩ := hsp
    have e : L2.start N vs = vs.map some ++ List.replicate nl none := by
      unfold L2.start
      rw [hn, ← r.len, hl, Nat.add_sub_cancel_left]
    refine ⟨p, ds.map some ++ List.replicate nl none, S0, R, by rw [e]; exact r.sl nl, ?_⟩
    unfold mDef at h
    rw [if_pos hl] at h
    revert h
    generalize m _ S0 = res
    intro h
    cases res with
    | ok a S1 =>
      intro p1 H1 x1 R1
      cases a with
      | nx l1 => exact fun s1 L1 => Post.ok (Q := QD K Q) h x1 R1 _ .non
      | rt d => exact fun v r => Post.ok (Q := QD K Q) h x1 R1 v r
      | bk l1 => exact h.elim
      | ct l1 => exact h.elim
    | exc c fs l S1 => exact fun p1 H1 u d s1 x1 R1 rc rf L1 => h p1 H1 u d [] x1 R1 rc rf .nil
    | bad => exact h
  · intro fl s' hs
    match fl, hs with
    | .ret u, ⟨v, σ', H', J, rv, q⟩ => exact ⟨v, H', J.os, J.bare, J.base, J.hok, rv, q⟩
    | .next, ⟨σ', H', J, q⟩ => exact ⟨.non, H', J.os, J.bare, J.base, J.hok, rfl, q⟩
    | .brk, ⟨_, _, _, q⟩ => exact q.elim
    | .cont, ⟨_, _, _, q⟩ => exact q.elim
end
section
variable {P : Program} {w : World} {K : PySem.W.Frag} {mg : Str → Option Value} {base : Heap} {Rm : Around → Prop} {CX : CXT} {m : Str}
end
end Ly
set_option Elab.async false
set_option linter.all false
set_option maxRecDepth 100000
namespace Ly
open PySem PySem.Spec L2
open PyProof.Rows hiding St
theorem mulok_r {i j : Int} (h : j.natAbs < 2 ^ 64) : IntMulOk i j := .of_right (intBits_le_64 (by omega) (by omega))
theorem mulok_l {i j : Int} (h : i.natAbs < 2 ^ 64) : IntMulOk i j := .of_left (intBits_le_64 (by omega) (by omega))
theorem kRA : ¬ (("row" : Str) = "at") := by decide +kernel
theorem kRS : ¬ (("row" : Str) = "seed") := by decide +kernel
theorem kAS : ¬ (("at" : Str) = "seed") := by decide +kernel
theorem kSA : ¬ (("seed" : Str) = "at") := by decide +kernel
theorem get_put {S : Hs} {i : Nat} {o u : O} (h : S[i]? = some o) : (S.set i u)[i]? = some u := List.getElem?_set_self (Real.lt h)
def drawsK (r a s : D) : List (Key × D) := [(.inr "row", r), (.inr "at", a), (.inr "seed", s)]
@[simp] theorem drawsK_row (r a s : D) : getK (drawsK r a s) (.inr "row") = some r := by simp [getK, drawsK]
@[simp] theorem drawsK_at (r a s : D) : getK (drawsK r a s) (.inr "at") = some a := by simp [getK, drawsK, kRA]
@[simp] theorem drawsK_seed (r a s : D) : getK (drawsK r a s) (.inr "seed") = some s := by simp [getK, drawsK, kRS, kAS]
@[simp] theorem drawsK_len (r a s : D) : (drawsK r a s).length = 3 := rfl
@[simp] theorem drawsK_set (r a s b : D) : setK (drawsK r a s) (.inr "at") b = drawsK r b s := by simp [setK, drawsK, kRA, kSA]
def drawsO (j : Nat) (a sd : Int) : O := .dic (drawsK (.ref j) (.int a) (.int sd))
structure Drw (S : Hs) (i j : Nat) (row : List Int) (a sd : Int) : Prop where
  d : S[i]? = some (drawsO j a sd)
  r : S[j]? = some (.lst (row.map D.int))
  ne : i ≠ j
  nn : 0 ≤ a
theorem atI_nat {α : Type} {xs : List α} {i : Int} (h0 : 0 ≤ i) (h1 : i < (xs.length : Int)) : L2.atI xs i = xs[i.toNat]? := by
  unfold L2.atI L2.ixN
  rw [if_pos h0, if_pos h1]; rfl
theorem get_end {S : Hs} {o : O} : (S ++ [o])[S.length]? = some o := by simp
theorem lenD_seq {x : D} {S : Hs} {ds : List D} (h : seqD x S = some ds) : lenD x S = some ds.length := by
  unfold seqD at h
  split at h
  · unfold lenD
    split at h <;> first | (rename_i q; cases h; simp [q]) | cases h
  · cases h; rfl
  · cases h
theorem seqD_more {x : D} {S g : Hs} {ds : List D} (h : seqD x S = some ds) : seqD x (S ++ g) = some ds := by
  unfold seqD at h ⊢
  split at h
  · rename_i i
    split at h
    · rename_i q; rw [List.getElem?_append_left (Real.lt q), q]; exact h
    · rename_i q; rw [List.getElem?_append_left (Real.lt q), q]; exact h
    · cases h
  · exact h
  · cases h
theorem oIx_seq {x : D} {S : Hs} {ds : List D} {i : Int} {d : D} (h : seqD x S = some ds) (h0 : 0 ≤ i) (h1 : i < (ds.length : Int)) (hd : ds[i.toNat]? = some d) : oIx x (.int i) S = .ok d S := by
  have ha : L2.atI ds i = some d := by rw [atI_nat h0 h1]; exact hd
  unfold seqD at h
  split at h
  · split at h <;> first | (rename_i q; cases h; simp [oIx, q, ha]) | cases h
  · cases h; simp [oIx, ha]
  · cases h
theorem line_big {n : Nat} (h : n ≤ 1000000) : n < sizeLine := Nat.lt_of_le_of_lt h (by decide)
theorem pow18 (S : Hs) : oPow (.int 10) (.int 18) S = .ok (.int 1000000000000000000) S := by
  have e : (10 : Int) ^ (18 : Int).toNat = 1000000000000000000 := by decide +kernel
  have h : 0 ≤ (18 : Int) ∧ (18 : Int) ≤ 1000000 ∧ (10 : Int).natAbs < 2 ^ 64 := by decide +kernel
  simp only [oPow]
  rw [if_pos h, e]
theorem rng1 {n : Int} (S : Hs) (h0 : -1000000000 ≤ n) (h1 : n ≤ 1000000000) : oRng1 [.int n] S = .ok (.rng 0 n.toNat) S := by
  have h : -(2 ^ 62) ≤ n ∧ n < 2 ^ 62 := ⟨Int.le_trans (by decide +kernel) h0, Int.lt_of_le_of_lt h1 (by decide +kernel)⟩
  simp only [oRng1]
  rw [if_pos h]
end Ly
set_option Elab.async false
set_option linter.all false
set_option maxRecDepth 100000
namespace Ly
open PySem PySem.Spec L2
open PyProof.Rows hiding St
def tx (cs : List Nat) : Str := ⟨⟨cs⟩⟩
@[simp] theorem tx_len (cs : List Nat) : (tx cs).length = cs.length := rfl
@[simp] theorem tx_list (cs : List Nat) : (tx cs).cps.toList = cs := rfl
theorem tx_inj {a b : List Nat} (h : tx a = tx b) : a = b := congrArg (fun z => z.cps.toList) h
@[simp] theorem tx_eq {a b : List Nat} : (tx a = tx b) = (a = b) := propext ⟨tx_inj, fun h => by rw [h]⟩
mutual
def D.plain : D → Bool
  | .non => true
  | .bl _ => true
  | .int _ => true
  | .str x => PyData.strOk x
  | .tup ds => D.plains ds
  | .wt ds => D.plains ds
  | _ => false
def D.plains : List D → Bool
  | [] => true
  | d :: ds => D.plain d && D.plains ds
end
mutual
def D.toP : D → PyData
  | .non => .none
  | .bl b => .bool b
  | .int i => .int i
  | .str x => .str x
  | .tup ds => .tuple (D.toPs ds)
  | .wt ds => .tuple (D.toPs ds)
  | _ => .none
def D.toPs : List D → List PyData
  | [] => []
  | d :: ds => D.toP d :: D.toPs ds
end
mutual
theorem D.pd_plain (S : Hs) : ∀ (d : D) (k : Nat), d.plain = true → 2 * d.toP.depth < k → D.pd S k d = some d.toP
  | d, 0, _, h => absurd h (Nat.not_lt_zero _)
  | .non, k + 1, _, _ => by rw [D.pd, D.toP]
  | .bl _, k + 1, _, _ => by rw [D.pd, D.toP]
  | .int _, k + 1, _, _ => by rw [D.pd, D.toP]
  | .str _, k + 1, _, _ => by rw [D.pd, D.toP]
  | .tup ds, k + 1, h, hk => by
    rw [D.pd, D.toP, D.pds_plain S ds k (by simpa [D.plain] using h) (by simp [D.toP, PyData.depth] at hk; omega)]; rfl
  | .wt ds, k + 1, h, hk => by
    rw [D.pd, D.toP, D.pds_plain S ds k (by simpa [D.plain] using h) (by simp [D.toP, PyData.depth] at hk; omega)]; rfl
  | .wl _, _ + 1, h, _ => by simp [D.plain] at h
  | .ref _, _ + 1, h, _ => by simp [D.plain] at h
  | .cst _, _ + 1, h, _ => by simp [D.plain] at h
theorem D.pds_plain (S : Hs) : ∀ (ds : List D) (k : Nat), D.plains ds = true → 2 * PyData.depthAll (D.toPs ds) + 1 < k → D.pds S k ds = some (D.toPs ds)
  | [], k, _, _ => by cases k <;> simp [D.pds, D.toPs]
  | d :: ds, 0, _, h => absurd h (Nat.not_lt_zero _)
  | d :: ds, k + 1, h, hk => by
    simp only [D.plains, Bool.and_eq_true] at h
    simp only [D.toPs, PyData.depthAll] at hk
    rw [D.pds, D.pd_plain S d k h.1 (by omega), D.pds_plain S ds (k + 1) h.2 (by omega), D.toPs]
end
mutual
theorem D.lay_plain : ∀ (d : D), d.plain = true → d.toP.canLay0 = true
  | .non, _ => by simp [D.toP, PyData.canLay0]
  | .bl _, _ => by simp [D.toP, PyData.canLay0]
  | .int _, _ => by simp [D.toP, PyData.canLay0]
  | .str x, h => by simpa [D.toP, PyData.canLay0, D.plain] using h
  | .tup ds, h => by
    rw [D.toP, PyData.canLay0]; exact D.lays_plain ds (by simpa [D.plain] using h)
  | .wt ds, h => by
    rw [D.toP, PyData.canLay0]; exact D.lays_plain ds (by simpa [D.plain] using h)
  | .wl _, h => by simp [D.plain] at h
  | .ref _, h => by simp [D.plain] at h
  | .cst _, h => by simp [D.plain] at h
theorem D.lays_plain : ∀ (ds : List D), D.plains ds = true → PyData.canLayAll0 (D.toPs ds) = true
  | [], _ => by simp [D.toPs, PyData.canLayAll0]
  | d :: ds, h => by
    simp only [D.plains, Bool.and_eq_true] at h
    simp [D.toPs, PyData.canLayAll0, D.lay_plain d h.1, D.lays_plain ds h.2]
end
theorem plains_mem : ∀ (xs : List D), D.plains xs = true ↔ ∀ x ∈ xs, D.plain x = true
  | [] => by simp [D.plains]
  | x :: xs => by simp [D.plains, plains_mem xs]
theorem depthAll_mem {n : Nat} : ∀ (xs : List D), (∀ x ∈ xs, x.toP.depth ≤ n) → PyData.depthAll (D.toPs xs) ≤ n
  | [], _ => by simp [D.toPs, PyData.depthAll]
  | x :: xs, h => by
    simp only [D.toPs, PyData.depthAll]
    have h1 := h x (List.mem_cons_self ..)
    have h2 := depthAll_mem xs (fun y m => h y (List.mem_cons_of_mem _ m))
    omega
theorem pd_lst {S : Hs} {i : Nat} {xs : List D} (h : S[i]? = some (.lst xs)) (hp : D.plains xs = true) (hd : PyData.depthAll (D.toPs xs) ≤ 30) : D.pd S 70 (.ref i) = some (.list (D.toPs xs)) ∧ SeqAt.shaped (.list (D.toPs xs)) = true := by
  refine ⟨?_, ?_⟩
  · rw [D.pd, h]
    simp only []
    rw [D.pds_plain S xs 69 hp (by omega)]; rfl
  · show (_ && _) = true
    rw [Bool.and_eq_true]
    refine ⟨by rw [PyData.canLay0]; exact D.lays_plain xs hp, decide_eq_true ?_⟩
    rw [PyData.depth]
    omega
theorem pd_tup {S : Hs} {xs : List D} (hp : D.plains xs = true) (hd : PyData.depthAll (D.toPs xs) ≤ 30) : D.pd S 70 (.tup xs) = some (.tuple (D.toPs xs)) ∧ SeqAt.shaped (.tuple (D.toPs xs)) = true := by
  refine ⟨?_, ?_⟩
  · rw [D.pd, D.pds_plain S xs 69 hp (by omega)]; rfl
  · show (_ && _) = true
    rw [Bool.and_eq_true]
    refine ⟨by rw [PyData.canLay0]; exact D.lays_plain xs hp, decide_eq_true ?_⟩
    rw [PyData.depth]
    omega
end Ly
set_option Elab.async false
set_option linter.all false
set_option maxRecDepth 100000
namespace Ly
open PySem PySem.Spec L2
open PyProof.Rows hiding St
theorem nr {α : Type} {a b : α} (h : a = b) : a = b := h.trans (Eq.refl _)
section
variable {f g h : M} {fl : ML} {fm : MO} {c c2 : MB} {b b2 : MS} {gg : MG} {gs : MGs} {l : Ls} {S : Hs} {i n : Nat} {d : D} {ds : List D} {md : MD} {op2 : D → D → Hs → R D} {op1 : D → Hs → R D} {opn : List D → Hs → R D} {opm : D → List D → Hs → R D} {T : String} {it : MI} {mp : MP} {lo hi : MO}
end
theorem set_same {S : Hs} {i : Nat} {o : O} (h : S[i]? = some o) : S.set i o = S := by
  obtain ⟨hlt, rfl⟩ := List.getElem?_eq_some_iff.mp h
  exact List.set_getElem_self hlt
def DrwA (S : Hs) (i j : Nat) (row : List Int) (sd : Int) : Prop := ∃ a, Drw S i j row a sd
def Upd (i j : Nat) (sd : Int) (S S' : Hs) : Prop := ∃ a g, 0 ≤ a ∧ S' = S.set i (drawsO j a sd) ++ g
section
variable {i j : Nat} {row : List Int} {sd : Int} {S S1 S2 g : Hs}
theorem Upd.refl (h : DrwA S i j row sd) : Upd i j sd S S := by
  obtain ⟨a, h⟩ := h
  exact ⟨a, [], h.nn, by rw [set_same h.d]; simp⟩
theorem Upd.trans (h : DrwA S i j row sd) (u : Upd i j sd S S1) (v : Upd i j sd S1 S2) : Upd i j sd S S2 := by
  obtain ⟨_, h⟩ := h
  obtain ⟨a, g, ha, rfl⟩ := u
  obtain ⟨b, g', hb, rfl⟩ := v
  have hi : i < S.length := Real.lt h.d
  refine ⟨b, g ++ g', hb, ?_⟩
  rw [List.set_append_left _ _ (by simpa using hi), List.set_set, List.append_assoc]
theorem Upd.app (u : Upd i j sd S S1) : Upd i j sd S (S1 ++ g) := by
  obtain ⟨a, g', ha, rfl⟩ := u
  exact ⟨a, g' ++ g, ha, by rw [List.append_assoc]⟩
theorem Upd.new (h : DrwA S i j row sd) : Upd i j sd S (S ++ g) := (Upd.refl h).app
theorem Upd.get (u : Upd i j sd S S1) {k : Nat} {o : O} (h : S[k]? = some o) (hk : k ≠ i) : S1[k]? = some o := by
  obtain ⟨a, g', ha, rfl⟩ := u
  have hl : k < S.length := Real.lt h
  rw [List.getElem?_append_left (by simpa using hl), List.getElem?_set_ne (Ne.symm hk), h]
theorem Upd.drw (h : DrwA S i j row sd) (u : Upd i j sd S S1) : DrwA S1 i j row sd := by
  obtain ⟨_, h⟩ := h
  have hr := u.get h.r (Ne.symm h.ne)
  obtain ⟨a, g', ha, rfl⟩ := u
  have hi : i < S.length := Real.lt h.d
  exact ⟨a, by rw [List.getElem?_append_left (by simpa using hi)]; exact get_put h.d, hr, h.ne, ha⟩
theorem Upd.le (u : Upd i j sd S S1) : S.length ≤ S1.length := by
  obtain ⟨a, g', ha, rfl⟩ := u
  simp
theorem line_le {n : Nat} (h : n ≤ 1000000) : n ≤ sizeLine := Nat.le_trans h (by decide)
end
theorem oAdd_int {a b : Int} {S : Hs} : oAdd (.int a) (.int b) S = .ok (.int (a + b)) S := nr rfl
theorem oSub_int {a b : Int} {S : Hs} : oSub (.int a) (.int b) S = .ok (.int (a - b)) S := nr rfl
theorem oLt_int {a b : Int} {S : Hs} : oLt (.int a) (.int b) S = .ok (.bl (decide (a < b))) S := nr rfl
theorem oTru_bl {b : Bool} {S : Hs} : oTru (.bl b) S = .ok b S := nr rfl
theorem oEq_int {a b : Int} {S : Hs} : oEq (.int a) (.int b) S = .ok (.bl (decide (a = b))) S := nr rfl
theorem oNe_int {a b : Int} {S : Hs} : oNe (.int a) (.int b) S = .ok (.bl (!decide (a = b))) S := nr rfl
theorem oEq_str {a b : Str} {S : Hs} : oEq (.str a) (.str b) S = .ok (.bl (decide (a = b))) S := nr rfl
end Ly
set_option Elab.async false
set_option linter.all false
set_option maxRecDepth 100000
namespace Ly
open PySem PySem.Spec L2
open PyProof.Rows hiding St
abbrev XP := V → Option (List (Str × D)) → Ls → Hs → Prop
def WpD {α : Type} (X : XP) (r : R α) (Q : α → Hs → Prop) : Prop := match r with
  | .ok a S => Q a S
  | .exc c fs l S => X c fs l S
  | .bad => False
structure Wp {α : Type} (X : XP) (r : R α) (Q : α → Hs → Prop) : Prop where
  un : WpD X r Q
def NoX : XP := fun _ _ _ _ => False
theorem Wp.mono {α : Type} {X X' : XP} {r : R α} {P Q : α → Hs → Prop} (h : Wp X r P) (hx : ∀ c fs l S, X c fs l S → X' c fs l S) (k : ∀ v S, P v S → Q v S) : Wp X' r Q := by
  cases r with
  | ok a S => exact ⟨k a S h.un⟩
  | exc c fs l S => exact ⟨hx c fs l S h.un⟩
  | bad => exact h.un.elim
theorem Wp.call {α : Type} {X : XP} {r : R α} {P Q : α → Hs → Prop} (h : Wp NoX r P) (k : ∀ v S, P v S → Q v S) : Wp X r Q := h.mono (fun _ _ _ _ h => h.elim) k
theorem Wp.ex {α : Type} {r : R α} {P : α → Hs → Prop} (h : Wp NoX r P) : ∃ v S, r = .ok v S ∧ P v S := by
  cases r with
  | ok a S => exact ⟨a, S, rfl, h.un⟩
  | exc c fs l S => exact h.un.elim
  | bad => exact h.un.elim
theorem Wp.of {α : Type} {X : XP} {r : R α} {P : α → Hs → Prop} {v : α} {S : Hs} (e : r = .ok v S) (h : P v S) : Wp X r P := by rw [e]; exact ⟨h⟩
def atX (X : XP) (l : Ls) : XP := fun c fs _ S => X c fs l S
section
variable {α β : Type} {X : XP}
theorem v_ok {a : α} {S : Hs} {Q : α → Hs → Prop} : Wp X (.ok a S) Q = Q a S := propext ⟨fun h => h.un, fun h => ⟨h⟩⟩
theorem v_bad {Q : α → Hs → Prop} : Wp X (.bad) Q = False := propext ⟨fun h => h.un, fun h => h.elim⟩
theorem v_exc {c : V} {fs : Option (List (Str × D))} {l : Ls} {S : Hs} {Q : α → Hs → Prop} : Wp X (.exc c fs l S) Q = X c fs l S := propext ⟨fun h => h.un, fun h => ⟨h⟩⟩
def bdK (X : XP) (k : α → Hs → R β) (Q : β → Hs → Prop) : α → Hs → Prop := fun a S => Wp X (k a S) Q
theorem v_bind {r : R α} {k : α → Hs → R β} {Q : β → Hs → Prop} : Wp X (r.bind k) Q = Wp X r (bdK X k Q) := by cases r <;> simp only [R.bind, v_ok, v_bad, v_exc] <;> rfl
theorem k_bd {k : α → Hs → R β} {Q : β → Hs → Prop} {a : α} {S : Hs} : bdK X k Q a S = Wp X (k a S) Q := nr rfl
theorem v_at {r : R α} {l : Ls} {Q : α → Hs → Prop} : Wp X (r.at l) Q = Wp (atX X l) r Q := by cases r <;> simp only [R.at, v_ok, v_bad, v_exc] <;> rfl
end
section
variable {X : XP} {f g h : M} {fl : ML} {c c2 : MB} {b b2 : MS} {gg : MG} {gs : MGs} {l : Ls} {S : Hs} {i n : Nat} {d x y : D} {ds : List D} {md : MD} {op2 : D → D → Hs → R D} {op1 : D → Hs → R D} {opn : List D → Hs → R D} {opm : D → List D → Hs → R D} {T : String} {it : MI} {lo hi : MO} {t : Bool}
section
variable {Q : D → Hs → Prop}
def biK (X : XP) (op : D → D → Hs → R D) (g : M) (l : Ls) (Q : D → Hs → Prop) : D → Hs → Prop := fun x S => Wp X (g l S) fun y S2 => Wp X (op x y S2) Q
def biK2 (X : XP) (op : D → D → Hs → R D) (x : D) (Q : D → Hs → Prop) : D → Hs → Prop := fun y S => Wp X (op x y S) Q
theorem v_bin : Wp X (mBin op2 f g l S) Q = Wp X (f l S) (biK X op2 g l Q) := by
  unfold mBin; rw [v_bind]; congr 1; funext x S1; unfold bdK biK; simp only [v_bind]; first | rfl | (congr 1; funext _ _; exact v_ok)
theorem k_bi : biK X op2 g l Q x S = Wp X (g l S) (biK2 X op2 x Q) := nr rfl
theorem k_bi2 : biK2 X op2 x Q y S = Wp X (op2 x y S) Q := nr rfl
theorem v_var : Wp X (mVar i l S) Q = match l[i]? with | some (some d) => Q d S | _ => False := by
  unfold mVar; cases l[i]? with
  | none => exact v_bad
  | some o =>
    cases o with
    | none => exact v_bad
    | some d => exact v_ok
theorem v_c : Wp X (mC d l S) Q = Q d S := v_ok
def unK (X : XP) (op : D → Hs → R D) (Q : D → Hs → Prop) : D → Hs → Prop := fun x S => Wp X (op x S) Q
theorem v_un : Wp X (mUn op1 f l S) Q = Wp X (f l S) (unK X op1 Q) := by unfold mUn; rw [v_bind]; first | rfl | (congr 1; funext _ _; exact v_ok)
theorem k_un : unK X op1 Q x S = Wp X (op1 x S) Q := nr rfl
def ifeK (X : XP) (f g : M) (l : Ls) (Q : D → Hs → Prop) : Bool → Hs → Prop := fun t S => if t = true then Wp X (f l S) Q else Wp X (g l S) Q
theorem v_if : Wp X (mIf c f g l S) Q = Wp X (c l S) (ifeK X f g l Q) := by
  unfold mIf; rw [v_bind]; congr 1; funext t S1; unfold bdK ifeK; cases t <;> first | rfl | exact v_bad | exact v_ok
theorem k_ife : ifeK X f g l Q t S = if t = true then Wp X (f l S) Q else Wp X (g l S) Q := nr rfl
def andK (X : XP) (g : M) (l : Ls) (Q : D → Hs → Prop) : D → Hs → Prop := fun x S => Wp X (oTru x S) fun t S1 => if t = true then Wp X (g l S1) Q else Q x S1
def andK2 (X : XP) (x : D) (g : M) (l : Ls) (Q : D → Hs → Prop) : Bool → Hs → Prop := fun t S1 => if t = true then Wp X (g l S1) Q else Q x S1
theorem v_and : Wp X (mAnd f g l S) Q = Wp X (f l S) (andK X g l Q) := by
  unfold mAnd; rw [v_bind]; congr 1; funext x S1; unfold bdK andK; simp only [v_bind]; congr 1; funext t S2; unfold bdK; cases t <;> first | rfl | exact v_bad | exact v_ok
theorem k_and : andK X g l Q x S = Wp X (oTru x S) (andK2 X x g l Q) := nr rfl
theorem k_and2 : andK2 X x g l Q t S = if t = true then Wp X (g l S) Q else Q x S := nr rfl
def orK (X : XP) (g : M) (l : Ls) (Q : D → Hs → Prop) : D → Hs → Prop := fun x S => Wp X (oTru x S) fun t S1 => if t = true then Q x S1 else Wp X (g l S1) Q
def orK2 (X : XP) (x : D) (g : M) (l : Ls) (Q : D → Hs → Prop) : Bool → Hs → Prop := fun t S1 => if t = true then Q x S1 else Wp X (g l S1) Q
theorem v_or : Wp X (mOr f g l S) Q = Wp X (f l S) (orK X g l Q) := by
  unfold mOr; rw [v_bind]; congr 1; funext x S1; unfold bdK orK; simp only [v_bind]; congr 1; funext t S2; unfold bdK; cases t <;> first | rfl | exact v_bad | exact v_ok
theorem k_or : orK X g l Q x S = Wp X (oTru x S) (orK2 X x g l Q) := nr rfl
theorem k_or2 : orK2 X x g l Q t S = if t = true then Q x S else Wp X (g l S) Q := nr rfl
def tupK (Q : D → Hs → Prop) : List D → Hs → Prop := fun ds S => ds.length ≤ sizeLine ∧ Q (.tup ds) S
theorem v_tup : Wp X (mTup fl l S) Q = Wp X (fl l S) (tupK Q) := by
  unfold mTup; rw [v_bind]; congr 1; funext ds S1; unfold bdK tupK; by_cases h : ds.length ≤ sizeLine
  · simp [h, v_ok]
  · simp [h, v_bad]
theorem k_tup : tupK Q ds S = (ds.length ≤ sizeLine ∧ Q (.tup ds) S) := nr rfl
def lstK (Q : D → Hs → Prop) : List D → Hs → Prop := fun ds S => ds.length ≤ sizeLine ∧ Q (.ref S.length) (S ++ [.lst ds])
theorem v_lst : Wp X (mLst fl l S) Q = Wp X (fl l S) (lstK Q) := by
  unfold mLst; rw [v_bind]; congr 1; funext ds S1; unfold bdK lstK; by_cases h : ds.length ≤ sizeLine
  · simp [h, v_ok]
  · simp [h, v_bad]
theorem k_lst : lstK Q ds S = (ds.length ≤ sizeLine ∧ Q (.ref S.length) (S ++ [.lst ds])) := nr rfl
def caK (X : XP) (op : List D → Hs → R D) (Q : D → Hs → Prop) : List D → Hs → Prop := fun ds S => Wp X (op ds S) Q
theorem v_call : Wp X (mCall opn fl l S) Q = Wp X (fl l S) (caK X opn Q) := by unfold mCall; rw [v_bind]; first | rfl | (congr 1; funext _ _; exact v_ok)
theorem k_ca : caK X opn Q ds S = Wp X (opn ds S) Q := nr rfl
def fnK (X : XP) (md : MD) (l : Ls) (Q : D → Hs → Prop) : List D → Hs → Prop := fun ds S => Wp (atX X l) (md ds S) Q
theorem v_fn : Wp X (mFn md fl l S) Q = Wp X (fl l S) (fnK X md l Q) := by
  unfold mFn; rw [v_bind]; congr 1; funext ds S1; unfold bdK fnK; rw [v_at]
theorem k_fn : fnK X md l Q ds S = Wp (atX X l) (md ds S) Q := nr rfl
def bmK (X : XP) (T : String) (op : D → List D → Hs → R D) (fl : ML) (l : Ls) (Q : D → Hs → Prop) : D → Hs → Prop := fun x S => hasTy T x S = true ∧ Wp X (fl l S) fun ds S1 => Wp X (op x ds S1) Q
def bmK2 (X : XP) (op : D → List D → Hs → R D) (x : D) (Q : D → Hs → Prop) : List D → Hs → Prop := fun ds S1 => Wp X (op x ds S1) Q
theorem v_bm : Wp X (mBM T opm f fl l S) Q = Wp X (f l S) (bmK X T opm fl l Q) := by
  unfold mBM; rw [v_bind]; congr 1; funext x S1; unfold bdK bmK
  by_cases h : hasTy T x S1 = true
  · simp only [h, true_and, if_true, v_bind]; rfl
  · simp [h, v_bad]
theorem k_bm : bmK X T opm fl l Q x S = (hasTy T x S = true ∧ Wp X (fl l S) (bmK2 X opm x Q)) := nr rfl
theorem k_bm2 : bmK2 X opm x Q ds S = Wp X (opm x ds S) Q := nr rfl
def slK (X : XP) (lo hi : MO) (l : Ls) (Q : D → Hs → Prop) : D → Hs → Prop := fun x S => Wp X (lo l S) fun a S1 => Wp X (hi l S1) fun b S2 => Wp X (oSl x a b S2) Q
def slK2 (X : XP) (x : D) (hi : MO) (l : Ls) (Q : D → Hs → Prop) : Option Int → Hs → Prop := fun a S1 => Wp X (hi l S1) fun b S2 => Wp X (oSl x a b S2) Q
def slK3 (X : XP) (x : D) (a : Option Int) (Q : D → Hs → Prop) : Option Int → Hs → Prop := fun b S2 => Wp X (oSl x a b S2) Q
theorem v_sl : Wp X (mSl f lo hi l S) Q = Wp X (f l S) (slK X lo hi l Q) := by
  unfold mSl; rw [v_bind]; congr 1; funext x S1; unfold bdK slK; rw [v_bind]; congr 1; funext a S2; unfold bdK; rw [v_bind]; first | rfl | (congr 1; funext _ _; exact v_ok)
theorem k_sl : slK X lo hi l Q x S = Wp X (lo l S) (slK2 X x hi l Q) := nr rfl
variable {oa ob : Option Int}
theorem k_sl2 : slK2 X x hi l Q oa S = Wp X (hi l S) (slK3 X x oa Q) := nr rfl
theorem k_sl3 : slK3 X x oa Q ob S = Wp X (oSl x oa ob S) Q := nr rfl
variable {tbl : List (Str × D)}
def ixkK (tbl : List (Str × D)) (Q : D → Hs → Prop) : D → Hs → Prop := fun x S => match x with
  | .str z => match tbl.lookup z with
    | some d => Q d S
    | none => False
  | _ => False
theorem v_ixK : Wp X (mIxK tbl f l S) Q = Wp X (f l S) (ixkK tbl Q) := by
  unfold mIxK; rw [v_bind]; congr 1; funext x S1; unfold bdK ixkK
  cases x <;> try (first | rfl | exact v_bad | exact v_ok)
  rename_i z
  simp only []
  cases tbl.lookup z <;> first | rfl | exact v_bad | exact v_ok
theorem k_ixk {z : Str} : ixkK tbl Q (.str z) S = match tbl.lookup z with | some d => Q d S | none => False := nr rfl
def inkK (tbl : List (Str × D)) (Q : D → Hs → Prop) : D → Hs → Prop := fun x S => match x with
  | .str z => Q (.bl (tbl.lookup z).isSome) S
  | _ => False
theorem v_inK : Wp X (mInK tbl f l S) Q = Wp X (f l S) (inkK tbl Q) := by
  unfold mInK; rw [v_bind]; congr 1; funext x S1; unfold bdK inkK; cases x <;> first | rfl | exact v_bad | exact v_ok
theorem k_ink {z : Str} : inkK tbl Q (.str z) S = Q (.bl (tbl.lookup z).isSome) S := nr rfl
def ninkK (tbl : List (Str × D)) (Q : D → Hs → Prop) : D → Hs → Prop := fun x S => match x with
  | .str z => Q (.bl (!(tbl.lookup z).isSome)) S
  | _ => False
theorem v_notinK : Wp X (mNotInK tbl f l S) Q = Wp X (f l S) (ninkK tbl Q) := by
  unfold mNotInK; rw [v_bind]; congr 1; funext x S1; unfold bdK ninkK; cases x <;> first | rfl | exact v_bad | exact v_ok
theorem k_nink {z : Str} : ninkK tbl Q (.str z) S = Q (.bl (!(tbl.lookup z).isSome)) S := nr rfl
def gk2K (X : XP) (tbl : List (Str × D)) (g : M) (l : Ls) (Q : D → Hs → Prop) : D → Hs → Prop := fun x S => match x with
  | .str z => Wp X (g l S) fun y S2 => (match tbl.lookup z with | some d => Q d S2 | none => Q y S2)
  | _ => False
theorem v_getK2 : Wp X (mGetK2 tbl f g l S) Q = Wp X (f l S) (gk2K X tbl g l Q) := by
  unfold mGetK2; rw [v_bind]; congr 1; funext x S1; unfold bdK gk2K; cases x <;> try (first | rfl | exact v_bad | exact v_ok)
  rename_i z
  simp only [v_bind]; congr 1; funext y S2; unfold bdK; cases tbl.lookup z <;> first | rfl | exact v_bad | exact v_ok
def gkK (tbl : List (Str × D)) (z : Str) (Q : D → Hs → Prop) : D → Hs → Prop := fun y S2 => match tbl.lookup z with | some d => Q d S2 | none => Q y S2
theorem k_gk2 {z : Str} : gk2K X tbl g l Q (.str z) S = Wp X (g l S) (gkK tbl z Q) := nr rfl
theorem k_gk {z : Str} : gkK tbl z Q y S = match tbl.lookup z with | some d => Q d S | none => Q y S := nr rfl
def g2K (X : XP) (g h : M) (l : Ls) (Q : D → Hs → Prop) : D → Hs → Prop := fun x S => hasTy "dict" x S = true ∧ Wp X (g l S) fun y S2 => Wp X (h l S2) fun z S3 => match dGet x y S3 with
  | some (some d) => Q d S3
  | some none => Q z S3
  | none => False
def g2K2 (X : XP) (x : D) (h : M) (l : Ls) (Q : D → Hs → Prop) : D → Hs → Prop := fun y S2 => Wp X (h l S2) fun z S3 => match dGet x y S3 with
  | some (some d) => Q d S3
  | some none => Q z S3
  | none => False
def g2K3 (x y : D) (Q : D → Hs → Prop) : D → Hs → Prop := fun z S3 => match dGet x y S3 with
  | some (some d) => Q d S3
  | some none => Q z S3
  | none => False
theorem v_get2 : Wp X (mGet2 f g h l S) Q = Wp X (f l S) (g2K X g h l Q) := by
  unfold mGet2; rw [v_bind]; congr 1; funext x S1; unfold bdK g2K
  by_cases hh : hasTy "dict" x S1 = true
  · simp only [hh, true_and, if_true, v_bind]; congr 1; funext y S2; unfold bdK; rw [v_bind]; congr 1; funext z S3; unfold bdK; simp only []
    cases dGet x y S3 with
    | none => first | rfl | exact v_bad | exact v_ok
    | some o => cases o <;> first | rfl | exact v_bad | exact v_ok
  · simp [hh, v_bad]
theorem k_g2 : g2K X g h l Q x S = (hasTy "dict" x S = true ∧ Wp X (g l S) (g2K2 X x h l Q)) := nr rfl
theorem k_g22 : g2K2 X x h l Q y S = Wp X (h l S) (g2K3 x y Q) := nr rfl
theorem k_g23 {z : D} : g2K3 x y Q z S = match dGet x y S with | some (some d) => Q d S | some none => Q z S | none => False := nr rfl
end
section
variable {Q : List D → Hs → Prop}
theorem v_nil : Wp X (lNil l S) Q = Q [] S := v_ok
def coK (X : XP) (fl : ML) (l : Ls) (Q : List D → Hs → Prop) : D → Hs → Prop := fun x S => Wp X (fl l S) fun xs S2 => Q (x :: xs) S2
def coK2 (x : D) (Q : List D → Hs → Prop) : List D → Hs → Prop := fun xs S2 => Q (x :: xs) S2
theorem v_cons : Wp X (lCons f fl l S) Q = Wp X (f l S) (coK X fl l Q) := by
  unfold lCons; rw [v_bind]; congr 1; funext x S1; unfold bdK coK; rw [v_bind]; first | rfl | (congr 1; funext _ _; exact v_ok)
theorem k_co : coK X fl l Q x S = Wp X (fl l S) (coK2 x Q) := nr rfl
theorem k_co2 : coK2 x Q ds S = Q (x :: ds) S := nr rfl
end
section
variable {Q : Option Int → Hs → Prop}
theorem v_no : Wp X (oNo l S) Q = Q none S := v_ok
def soK (Q : Option Int → Hs → Prop) : D → Hs → Prop := fun d S => match d with
  | .int i => Q (some i) S
  | _ => False
theorem v_some : Wp X (oSome f l S) Q = Wp X (f l S) (soK Q) := by
  unfold oSome; rw [v_bind]; congr 1; funext d S1; unfold bdK soK; cases d <;> first | rfl | exact v_bad | exact v_ok
theorem k_so {j : Int} : soK Q (.int j) S = Q (some j) S := nr rfl
end
section
variable {Q : Bool → Hs → Prop}
def cmK (Q : Bool → Hs → Prop) : D → Hs → Prop := fun d S => match d with
  | .bl b => Q b S
  | _ => False
theorem k_cm {b : Bool} : cmK Q (.bl b) S = Q b S := nr rfl
theorem v_cmp : Wp X (mCmp op2 f g l S) Q = Wp X (f l S) (biK X op2 g l (cmK Q)) := by
  unfold mCmp; rw [v_bind]; congr 1; funext x S1; unfold bdK biK; rw [v_bind]; congr 1; funext y S2; unfold bdK; rw [v_bind]; congr 1; funext d S3; unfold bdK cmK; cases d <;> first | rfl | exact v_bad | exact v_ok
def trK (X : XP) (Q : Bool → Hs → Prop) : D → Hs → Prop := fun d S => Wp X (oTru d S) Q
theorem v_tru : Wp X (mTru f l S) Q = Wp X (f l S) (trK X Q) := by unfold mTru; rw [v_bind]; first | rfl | (congr 1; funext _ _; exact v_ok)
theorem k_tr : trK X Q d S = Wp X (oTru d S) Q := nr rfl
def noK (Q : Bool → Hs → Prop) : Bool → Hs → Prop := fun b S => Q (!b) S
theorem v_notB : Wp X (mNotB c l S) Q = Wp X (c l S) (noK Q) := by unfold mNotB; rw [v_bind]; first | rfl | (congr 1; funext _ _; exact v_ok)
theorem k_no : noK Q t S = Q (!t) S := nr rfl
def anK (X : XP) (c2 : MB) (l : Ls) (Q : Bool → Hs → Prop) : Bool → Hs → Prop := fun b S => if b = true then Wp X (c2 l S) Q else Q false S
theorem v_andB : Wp X (mAndB c c2 l S) Q = Wp X (c l S) (anK X c2 l Q) := by
  unfold mAndB; rw [v_bind]; congr 1; funext b S1; unfold bdK anK; cases b <;> first | rfl | exact v_bad | exact v_ok
theorem k_an : anK X c2 l Q t S = if t = true then Wp X (c2 l S) Q else Q false S := nr rfl
def orbK (X : XP) (c2 : MB) (l : Ls) (Q : Bool → Hs → Prop) : Bool → Hs → Prop := fun b S => if b = true then Q true S else Wp X (c2 l S) Q
theorem v_orB : Wp X (mOrB c c2 l S) Q = Wp X (c l S) (orbK X c2 l Q) := by
  unfold mOrB; rw [v_bind]; congr 1; funext b S1; unfold bdK orbK; cases b <;> first | rfl | exact v_bad | exact v_ok
theorem k_orb : orbK X c2 l Q t S = if t = true then Q true S else Wp X (c2 l S) Q := nr rfl
theorem v_yes : Wp X (mYes l S) Q = Q true S := v_ok
variable {tbl : List (Str × D)}
def inkBK (tbl : List (Str × D)) (Q : Bool → Hs → Prop) : D → Hs → Prop := fun x S => match x with
  | .str z => Q (tbl.lookup z).isSome S
  | _ => False
theorem v_inKB : Wp X (mInKB tbl f l S) Q = Wp X (f l S) (inkBK tbl Q) := by
  unfold mInKB; rw [v_bind]; congr 1; funext x S1; unfold bdK inkBK; cases x <;> first | rfl | exact v_bad | exact v_ok
theorem k_inkB {z : Str} : inkBK tbl Q (.str z) S = Q (tbl.lookup z).isSome S := nr rfl
def ninkBK (tbl : List (Str × D)) (Q : Bool → Hs → Prop) : D → Hs → Prop := fun x S => match x with
  | .str z => Q (!(tbl.lookup z).isSome) S
  | _ => False
theorem v_notinKB : Wp X (mNotInKB tbl f l S) Q = Wp X (f l S) (ninkBK tbl Q) := by
  unfold mNotInKB; rw [v_bind]; congr 1; funext x S1; unfold bdK ninkBK; cases x <;> first | rfl | exact v_bad | exact v_ok
theorem k_ninkB {z : Str} : ninkBK tbl Q (.str z) S = Q (!(tbl.lookup z).isSome) S := nr rfl
end
section
variable {Q : F → Hs → Prop} {l1 : Ls}
def stK (i : Nat) (l : Ls) (Q : F → Hs → Prop) : D → Hs → Prop := fun d S => Q (.nx (l.set i (some d))) S
theorem v_set : Wp X (mSet i f l S) Q = Wp X (f l S) (stK i l Q) := by unfold mSet; rw [v_bind]; first | rfl | (congr 1; funext _ _; exact v_ok)
theorem k_st : stK i l Q d S = Q (.nx (l.set i (some d))) S := nr rfl
def exK (l : Ls) (Q : F → Hs → Prop) : D → Hs → Prop := fun _ S => Q (.nx l) S
theorem v_expr : Wp X (mExpr f l S) Q = Wp X (f l S) (exK l Q) := by unfold mExpr; rw [v_bind]; first | rfl | (congr 1; funext _ _; exact v_ok)
theorem k_ex : exK l Q d S = Q (.nx l) S := nr rfl
def reK (Q : F → Hs → Prop) : D → Hs → Prop := fun d S => Q (.rt d) S
theorem v_ret : Wp X (mRet f l S) Q = Wp X (f l S) (reK Q) := by unfold mRet; rw [v_bind]; first | rfl | (congr 1; funext _ _; exact v_ok)
theorem k_re : reK Q d S = Q (.rt d) S := nr rfl
theorem v_retN : Wp X (mRetN l S) Q = Q (.rt .non) S := v_ok
theorem v_pass : Wp X (mPass l S) Q = Q (.nx l) S := v_ok
theorem v_brk : Wp X (mBrk l S) Q = Q (.bk l) S := v_ok
theorem v_cnt : Wp X (mCnt l S) Q = Q (.ct l) S := v_ok
def sqK (X : XP) (b2 : MS) (Q : F → Hs → Prop) : F → Hs → Prop := fun r S => match r with
  | .nx l1 => Wp X (b2 l1 S) Q
  | r => Q r S
theorem v_seq : Wp X (mSeq b b2 l S) Q = Wp X (b l S) (sqK X b2 Q) := by
  unfold mSeq; rw [v_bind]; congr 1; funext r S1; unfold bdK sqK; cases r <;> first | rfl | exact v_bad | exact v_ok
theorem k_sq_nx : sqK X b2 Q (.nx l1) S = Wp X (b2 l1 S) Q := nr rfl
theorem k_sq_rt : sqK X b2 Q (.rt d) S = Q (.rt d) S := nr rfl
theorem k_sq_bk : sqK X b2 Q (.bk l1) S = Q (.bk l1) S := nr rfl
theorem k_sq_ct : sqK X b2 Q (.ct l1) S = Q (.ct l1) S := nr rfl
def ifsK (X : XP) (b b2 : MS) (l : Ls) (Q : F → Hs → Prop) : Bool → Hs → Prop := fun t S => if t = true then Wp X (b l S) Q else Wp X (b2 l S) Q
theorem v_ifS : Wp X (mIfS c b b2 l S) Q = Wp X (c l S) (ifsK X b b2 l Q) := by
  unfold mIfS; rw [v_bind]; congr 1; funext t S1; unfold bdK ifsK; cases t <;> first | rfl | exact v_bad | exact v_ok
theorem k_ifs : ifsK X b b2 l Q t S = if t = true then Wp X (b l S) Q else Wp X (b2 l S) Q := nr rfl
def asK (X : XP) (gg : MG) (l : Ls) (Q : F → Hs → Prop) : D → Hs → Prop := fun d S => Wp X (gg d l S) fun l1 S2 => Q (.nx l1) S2
def asK2 (Q : F → Hs → Prop) : Ls → Hs → Prop := fun l1 S2 => Q (.nx l1) S2
theorem v_asg : Wp X (mAsg f gg l S) Q = Wp X (f l S) (asK X gg l Q) := by
  unfold mAsg; rw [v_bind]; congr 1; funext d S1; unfold bdK asK; rw [v_bind]; first | rfl | (congr 1; funext _ _; exact v_ok)
theorem k_as : asK X gg l Q d S = Wp X (gg d l S) (asK2 Q) := nr rfl
theorem k_as2 : asK2 Q l1 S = Q (.nx l1) S := nr rfl
def auK (X : XP) (i : Nat) (l : Ls) (op : D → D → Hs → R D) (x : D) (Q : F → Hs → Prop) : D → Hs → Prop := fun y S => Wp X (op x y S) (stK i l Q)
theorem v_aug : Wp X (mAug i op2 f l S) Q = match l[i]? with | some (some x) => Wp X (f l S) (auK X i l op2 x Q) | _ => False := by
  unfold mAug; cases l[i]? with
  | none => first | rfl | exact v_bad | exact v_ok
  | some o =>
    cases o with
    | none => first | rfl | exact v_bad | exact v_ok
    | some x => simp only [v_bind]; congr 1; funext y S1; unfold bdK auK; simp only [v_bind]; first | rfl | (congr 1; funext _ _; exact v_ok)
theorem k_au : auK X i l op2 x Q y S = Wp X (op2 x y S) (stK i l Q) := nr rfl
def foK (X : XP) (gg : MG) (b : MS) (l : Ls) (Q : F → Hs → Prop) : J → Hs → Prop := fun j S => Wp X (fLoop j gg b 0 l S) Q
theorem v_for : Wp X (mFor it gg b l S) Q = Wp X (it l S) (foK X gg b l Q) := by unfold mFor; rw [v_bind]; first | rfl | (congr 1; funext _ _; exact v_ok)
theorem k_fo {j : J} : foK X gg b l Q j S = Wp X (fLoop j gg b 0 l S) Q := nr rfl
end
section
variable {Q : J → Hs → Prop}
def itK (X : XP) (Q : J → Hs → Prop) : D → Hs → Prop := fun d S => Wp X (oIt d S) Q
theorem v_it : Wp X (mIt f l S) Q = Wp X (f l S) (itK X Q) := by unfold mIt; rw [v_bind]; first | rfl | (congr 1; funext _ _; exact v_ok)
theorem k_it : itK X Q d S = Wp X (oIt d S) Q := nr rfl
variable {op : List D → Hs → R J}
def ijK (X : XP) (op : List D → Hs → R J) (Q : J → Hs → Prop) : List D → Hs → Prop := fun ds S => Wp X (op ds S) Q
theorem k_ij : ijK X op Q ds S = Wp X (op ds S) Q := nr rfl
theorem v_rng1 : Wp X (mRng1 fl l S) Q = Wp X (fl l S) (ijK X oRng1 Q) := by unfold mRng1; rw [v_bind]; first | rfl | (congr 1; funext _ _; exact v_ok)
theorem v_rng2 : Wp X (mRng2 fl l S) Q = Wp X (fl l S) (ijK X oRng2 Q) := by unfold mRng2; rw [v_bind]; first | rfl | (congr 1; funext _ _; exact v_ok)
theorem v_enum : Wp X (mEnum fl l S) Q = Wp X (fl l S) (ijK X oEnum Q) := by unfold mEnum; rw [v_bind]; first | rfl | (congr 1; funext _ _; exact v_ok)
theorem v_ez : Wp X (mEz fl l S) Q = Wp X (fl l S) (ijK X oEz Q) := by unfold mEz; rw [v_bind]; first | rfl | (congr 1; funext _ _; exact v_ok)
theorem v_zip : Wp X (mZip fl l S) Q = Wp X (fl l S) (ijK X oZip Q) := by unfold mZip; rw [v_bind]; first | rfl | (congr 1; funext _ _; exact v_ok)
end
section
variable {Q : Ls → Hs → Prop}
theorem v_gN : Wp X (gN i d l S) Q = Q (l.set i (some d)) S := v_ok
theorem v_gsN : Wp X (gsN [] l S) Q = Q l S := v_ok
def gcK (X : XP) (gs : MGs) (ds : List D) (Q : Ls → Hs → Prop) : Ls → Hs → Prop := fun l1 S => Wp X (gs ds l1 S) Q
theorem v_gsC : Wp X (gsC gg gs (d :: ds) l S) Q = Wp X (gg d l S) (gcK X gs ds Q) := by show Wp X (R.bind _ _) Q = _; rw [v_bind]; first | rfl | (congr 1; funext _ _; exact v_ok)
theorem k_gc : gcK X gs ds Q l S = Wp X (gs ds l S) Q := nr rfl
theorem v_gT : Wp X (gT n gs (.tup ds) l S) Q = (ds.length = n ∧ Wp X (gs ds l S) Q) := by
  unfold gT; by_cases h : ds.length = n
  · simp [h]
  · simp [h, v_bad]
theorem v_gTw : Wp X (gT n gs (.wt ds) l S) Q = (ds.length = n ∧ Wp X (gs ds l S) Q) := by
  unfold gT; by_cases h : ds.length = n
  · simp [h]
  · simp [h, v_bad]
def gsbK (X : XP) (g : M) (d : D) (l : Ls) (Q : Ls → Hs → Prop) : D → Hs → Prop := fun x S => Wp X (g l S) fun y S2 => Wp X (oSet x y d S2) fun _ S3 => Q l S3
def gsbK2 (X : XP) (x d : D) (l : Ls) (Q : Ls → Hs → Prop) : D → Hs → Prop := fun y S2 => Wp X (oSet x y d S2) fun _ S3 => Q l S3
def gsbK3 (l : Ls) (Q : Ls → Hs → Prop) : Unit → Hs → Prop := fun _ S3 => Q l S3
theorem v_gSb : Wp X (gSb f g d l S) Q = Wp X (f l S) (gsbK X g d l Q) := by
  unfold gSb; rw [v_bind]; congr 1; funext x S1; unfold bdK gsbK; rw [v_bind]; congr 1; funext y S2; unfold bdK; rw [v_bind]; first | rfl | (congr 1; funext _ _; exact v_ok)
theorem k_gsb : gsbK X g d l Q x S = Wp X (g l S) (gsbK2 X x d l Q) := nr rfl
theorem k_gsb2 : gsbK2 X x d l Q y S = Wp X (oSet x y d S) (gsbK3 l Q) := nr rfl
theorem k_gsb3 {u : Unit} : gsbK3 l Q u S = Q l S := nr rfl
end
end
section
variable {X : XP} {f g h : M} {l : Ls} {S : Hs} {op2 : D → D → Hs → R D} {x y z : D} {it : MI} {gl : CG} {tt : MB} {tk tv : M} {vs : List Nat}
section
variable {Q : F → Hs → Prop}
def agK (X : XP) (op : D → D → Hs → R D) (g h : M) (l : Ls) (Q : F → Hs → Prop) : D → Hs → Prop := fun x S1 => Wp X (g l S1) fun y S2 => match dGet x y S2 with
  | some (some z) => Wp X (h l S2) fun w S3 => Wp X (op z w S3) fun d S4 => isDic x S4 = true ∧ Wp X (oSet x y d S4) fun _ S5 => Q (.nx l) S5
  | _ => False
def agK2 (X : XP) (op : D → D → Hs → R D) (h : M) (x : D) (l : Ls) (Q : F → Hs → Prop) : D → Hs → Prop := fun y S2 => match dGet x y S2 with
  | some (some z) => Wp X (h l S2) fun w S3 => Wp X (op z w S3) fun d S4 => isDic x S4 = true ∧ Wp X (oSet x y d S4) fun _ S5 => Q (.nx l) S5
  | _ => False
def agK3 (X : XP) (op : D → D → Hs → R D) (x y z : D) (l : Ls) (Q : F → Hs → Prop) : D → Hs → Prop := fun w S3 => Wp X (op z w S3) fun d S4 => isDic x S4 = true ∧ Wp X (oSet x y d S4) fun _ S5 => Q (.nx l) S5
def agK4 (X : XP) (x y : D) (l : Ls) (Q : F → Hs → Prop) : D → Hs → Prop := fun d S4 => isDic x S4 = true ∧ Wp X (oSet x y d S4) fun _ S5 => Q (.nx l) S5
def agK5 (l : Ls) (Q : F → Hs → Prop) : Unit → Hs → Prop := fun _ S5 => Q (.nx l) S5
theorem v_augI : Wp X (mAugI op2 f g h l S) Q = Wp X (f l S) (agK X op2 g h l Q) := by
  unfold mAugI; rw [v_bind]; congr 1; funext x S1; unfold bdK agK; simp only [v_bind]; congr 1; funext y S2; unfold bdK; simp only []
  cases dGet x y S2 with
  | none => first | rfl | exact v_bad | exact v_ok
  | some o =>
    cases o with
    | none => first | rfl | exact v_bad | exact v_ok
    | some z =>
      simp only [v_bind]; congr 1; funext w S3; unfold bdK; simp only [v_bind]; congr 1; funext d S4; unfold bdK; simp only []
      by_cases hh : isDic x S4 = true
      · simp only [hh, if_true, true_and, v_bind]; first | rfl | (congr 1; funext _ _; exact v_ok)
      · simp [hh, v_bad]
theorem k_ag : agK X op2 g h l Q x S = Wp X (g l S) (agK2 X op2 h x l Q) := nr rfl
theorem k_ag2 : agK2 X op2 h x l Q y S = match dGet x y S with | some (some z) => Wp X (h l S) (agK3 X op2 x y z l Q) | _ => False := nr rfl
theorem k_ag3 {w : D} : agK3 X op2 x y z l Q w S = Wp X (op2 z w S) (agK4 X x y l Q) := nr rfl
theorem k_ag4 {w : D} : agK4 X x y l Q w S = (isDic x S = true ∧ Wp X (oSet x y w S) (agK5 l Q)) := nr rfl
theorem k_ag5 {u : Unit} : agK5 l Q u S = Q (.nx l) S := nr rfl
def dlK (X : XP) (g : M) (l : Ls) (Q : F → Hs → Prop) : D → Hs → Prop := fun x S1 => Wp X (g l S1) fun y S2 => Wp X (oDel x y S2) fun _ S3 => Q (.nx l) S3
def dlK2 (X : XP) (x : D) (l : Ls) (Q : F → Hs → Prop) : D → Hs → Prop := fun y S2 => Wp X (oDel x y S2) fun _ S3 => Q (.nx l) S3
theorem v_del : Wp X (mDel f g l S) Q = Wp X (f l S) (dlK X g l Q) := by
  unfold mDel; rw [v_bind]; congr 1; funext x S1; unfold bdK dlK; rw [v_bind]; congr 1; funext y S2; unfold bdK; rw [v_bind]; first | rfl | (congr 1; funext _ _; exact v_ok)
theorem k_dl : dlK X g l Q x S = Wp X (g l S) (dlK2 X x l Q) := nr rfl
theorem k_dl2 : dlK2 X x l Q y S = Wp X (oDel x y S) (agK5 l Q) := nr rfl
end
variable {Q : D → Hs → Prop}
def d3K (X : XP) (op : D → D → D → Hs → R D) (g h : M) (l : Ls) (Q : D → Hs → Prop) : D → Hs → Prop := fun x S1 => hasTy "dict" x S1 = true ∧ Wp X (g l S1) fun y S2 => Wp X (h l S2) fun z S3 => Wp X (op x y z S3) Q
def d3K2 (X : XP) (op : D → D → D → Hs → R D) (h : M) (x : D) (l : Ls) (Q : D → Hs → Prop) : D → Hs → Prop := fun y S2 => Wp X (h l S2) fun z S3 => Wp X (op x y z S3) Q
def d3K3 (X : XP) (op : D → D → D → Hs → R D) (x y : D) (Q : D → Hs → Prop) : D → Hs → Prop := fun z S3 => Wp X (op x y z S3) Q
theorem v_setd : Wp X (mSetd f g h l S) Q = Wp X (f l S) (d3K X oSetd g h l Q) := by
  unfold mSetd; rw [v_bind]; congr 1; funext x S1; unfold bdK d3K
  by_cases hh : hasTy "dict" x S1 = true
  · simp only [hh, true_and, if_true, v_bind]; congr 1; funext y S2; unfold bdK; rw [v_bind]; first | rfl | (congr 1; funext _ _; exact v_ok)
  · simp [hh, v_bad]
theorem v_pop2 : Wp X (mPop2 f g h l S) Q = Wp X (f l S) (d3K X oPop2 g h l Q) := by
  unfold mPop2; rw [v_bind]; congr 1; funext x S1; unfold bdK d3K
  by_cases hh : hasTy "dict" x S1 = true
  · simp only [hh, true_and, if_true, v_bind]; congr 1; funext y S2; unfold bdK; rw [v_bind]; first | rfl | (congr 1; funext _ _; exact v_ok)
  · simp [hh, v_bad]
variable {op3 : D → D → D → Hs → R D}
theorem k_d3 : d3K X op3 g h l Q x S = (hasTy "dict" x S = true ∧ Wp X (g l S) (d3K2 X op3 h x l Q)) := nr rfl
theorem k_d32 : d3K2 X op3 h x l Q y S = Wp X (h l S) (d3K3 X op3 x y Q) := nr rfl
theorem k_d33 : d3K3 X op3 x y Q z S = Wp X (op3 x y z S) Q := nr rfl
def g1K (X : XP) (g : M) (l : Ls) (Q : D → Hs → Prop) : D → Hs → Prop := fun x S => hasTy "dict" x S = true ∧ Wp X (g l S) fun y S2 => match dGet x y S2 with
  | some (some d) => Q d S2
  | some none => Q .non S2
  | none => False
def g1K2 (x : D) (Q : D → Hs → Prop) : D → Hs → Prop := fun y S2 => match dGet x y S2 with
  | some (some d) => Q d S2
  | some none => Q .non S2
  | none => False
theorem v_get1 : Wp X (mGet1 f g l S) Q = Wp X (f l S) (g1K X g l Q) := by
  unfold mGet1; rw [v_bind]; congr 1; funext x S1; unfold bdK g1K
  by_cases hh : hasTy "dict" x S1 = true
  · simp only [hh, true_and, if_true, v_bind]; congr 1; funext y S2; unfold bdK; simp only []
    cases dGet x y S2 with
    | none => first | rfl | exact v_bad | exact v_ok
    | some o => cases o <;> first | rfl | exact v_bad | exact v_ok
  · simp [hh, v_bad]
theorem k_g1 : g1K X g l Q x S = (hasTy "dict" x S = true ∧ Wp X (g l S) (g1K2 x Q)) := nr rfl
theorem k_g12 : g1K2 x Q y S = match dGet x y S with | some (some d) => Q d S | some none => Q .non S | none => False := nr rfl
variable {opr : Int → Int → Hs → R D}
def rgK (X : XP) (op : Int → Int → Hs → R D) (Q : D → Hs → Prop) : D → Hs → Prop := fun x S => Wp X (rg1 op [x] S) Q
theorem v_rg1 : Wp X (mRg1 opr f l S) Q = Wp X (f l S) (rgK X opr Q) := by unfold mRg1; rw [v_bind]; first | rfl | (congr 1; funext _ _; exact v_ok)
theorem k_rg {n : Int} : rgK X opr Q (.int n) S = Wp X (opr 0 n S) Q := nr rfl
def rg2K (X : XP) (op : Int → Int → Hs → R D) (g : M) (l : Ls) (Q : D → Hs → Prop) : D → Hs → Prop := fun x S => Wp X (g l S) fun y S2 => Wp X (rg1 op [x, y] S2) Q
def rg2K2 (X : XP) (op : Int → Int → Hs → R D) (x : D) (Q : D → Hs → Prop) : D → Hs → Prop := fun y S2 => Wp X (rg1 op [x, y] S2) Q
theorem v_rg2 : Wp X (mRg2 opr f g l S) Q = Wp X (f l S) (rg2K X opr g l Q) := by
  unfold mRg2; rw [v_bind]; congr 1; funext x S1; unfold bdK rg2K; rw [v_bind]; first | rfl | (congr 1; funext _ _; exact v_ok)
theorem k_rg2 : rg2K X opr g l Q x S = Wp X (g l S) (rg2K2 X opr x Q) := nr rfl
theorem k_rg22 {m n : Int} : rg2K2 X opr (.int m) Q (.int n) S = Wp X (opr m n S) Q := nr rfl
theorem v_dicK : Wp X (mDicK l S) Q = Q (.ref S.length) (S ++ [.dic []]) := v_ok
theorem v_dicT : Wp X (mDicT l S) Q = Q (.ref S.length) (S ++ [.dit []]) := v_ok
def dcK (X : XP) (gl : CG) (tt : MB) (tk tv : M) (l : Ls) (Q : D → Hs → Prop) : J → Hs → Prop := fun j S1 => Wp X (dcLoop j gl tt tk tv l S1.length 0 (S1 ++ [.dic []])) Q
theorem v_dc : Wp X (mDc it gl tt tk tv vs l S) Q = Wp X (it l S) (dcK X gl tt tk tv (wipeL l vs) Q) := by unfold mDc; rw [v_bind]; first | rfl | (congr 1; funext _ _; exact v_ok)
theorem k_dc {j : J} : dcK X gl tt tk tv l Q j S = Wp X (dcLoop j gl tt tk tv l S.length 0 (S ++ [.dic []])) Q := nr rfl
end
theorem ofString_inj {a b : String} : (Str.ofString a = Str.ofString b) = (a = b) := by
  rw [Str.ofString_eq_toList, Str.ofString_eq_toList, Str.mk.injEq]
  apply propext
  constructor
  · intro h
    have h := List.toArray_inj h
    have h2 : ∀ {xs ys : List Char}, xs.map Char.toNat = ys.map Char.toNat → xs = ys := by
      intro xs
      induction xs with
      | nil => intro ys e; cases ys with | nil => rfl | cons _ _ => cases e
      | cons x xs ih =>
        intro ys e
        cases ys with
        | nil => cases e
        | cons y ys =>
          simp only [List.map_cons, List.cons.injEq] at e
          rw [Char.toNat_inj.mp e.1, ih e.2]
    exact String.toList_inj.mp (h2 h)
  · rintro rfl; rfl
theorem beq_lit {a b : String} : (Str.ofString a == Str.ofString b) = (a == b) := by
  rw [Bool.eq_iff_iff]; simp [ofString_inj]
def enK (Q : D → Hs → Prop) : F → Hs → Prop := fun r S => match r with
  | .nx _ => Q .non S
  | .rt d => Q d S
  | _ => False
theorem k_en_rt {Q : D → Hs → Prop} {d : D} {S : Hs} : enK Q (.rt d) S = Q d S := nr rfl
theorem k_en_nx {Q : D → Hs → Prop} {l : Ls} {S : Hs} : enK Q (.nx l) S = Q .non S := nr rfl
theorem wp_def {np nl : Nat} {b : MS} {ds : List D} {S : Hs} {X : XP} {Q : D → Hs → Prop} (hl : ds.length = np) (h : Wp (fun c fs _ S => X c fs [] S) (b (ds.map some ++ List.replicate nl none) S) (enK Q)) : Wp X (mDef np nl b ds S) Q := by
  unfold mDef
  rw [if_pos hl]
  generalize b (ds.map some ++ List.replicate nl none) S = r at h
  cases r with
  | ok f S1 => cases f <;> exact ⟨h.un⟩
  | exc c fs l S1 => exact ⟨h.un⟩
  | bad => exact ⟨h.un⟩
theorem wp_def0 {np nl : Nat} {b : MS} {ds : List D} {S : Hs} {Q : D → Hs → Prop} (hl : ds.length = np) (h : Wp NoX (b (ds.map some ++ List.replicate nl none) S) (enK Q)) : Wp NoX (mDef np nl b ds S) Q := wp_def hl h
theorem atX_no {l : Ls} : atX NoX l = NoX := nr rfl
def tuK (I : Ls → Hs → Prop) (Q : F → Hs → Prop) : F → Hs → Prop := fun r S => match r with
  | .nx l => I l S
  | .ct l => I l S
  | .bk l => Q (.nx l) S
  | .rt d => Q (.rt d) S
section
variable {X : XP} {I : Ls → Hs → Prop} {Q : F → Hs → Prop} {l : Ls} {S : Hs} {d : D}
theorem k_tu_nx : tuK I Q (.nx l) S = I l S := nr rfl
theorem k_tu_ct : tuK I Q (.ct l) S = I l S := nr rfl
theorem k_tu_bk : tuK I Q (.bk l) S = Q (.nx l) S := nr rfl
theorem k_tu_rt : tuK I Q (.rt d) S = Q (.rt d) S := nr rfl
theorem wp_fLoop {j : J} {gg : MG} {b : MS} (N : Nat) (Inv : Nat → Ls → Hs → Prop) (hend : ∀ l S, Inv N l S → itGo j N S = some none)
    (hs : ∀ k l S, k < N → Inv k l S → ∃ d, itGo j k S = some (some d) ∧ Wp X (gg d l S) fun l1 S1 => Wp X (b l1 S1) (tuK (Inv (k + 1)) Q))
    (hd : ∀ l S, Inv N l S → Q (.nx l) S) : ∀ m k l S, k + m = N → Inv k l S → Wp X (fLoop j gg b k l S) Q
  | 0, k, l, S, e, h => by
    have hk : k = N := by omega
    subst hk
    rw [fLoop_eq, hend l S h]
    exact ⟨hd l S h⟩
  | m + 1, k, l, S, e, h => by
    obtain ⟨d, e1, h1⟩ := hs k l S (by omega) h
    rw [fLoop_eq, e1]
    simp only [v_bind]
    refine h1.mono (fun _ _ _ _ h => h) fun l1 S1 h2 => ?_
    unfold bdK
    rw [v_bind]
    refine h2.mono (fun _ _ _ _ h => h) fun r S2 h3 => ?_
    cases r with
    | nx l2 => exact wp_fLoop N Inv hend hs hd m (k + 1) l2 S2 (by omega) h3
    | ct l2 => exact wp_fLoop N Inv hend hs hd m (k + 1) l2 S2 (by omega) h3
    | bk l2 => exact ⟨h3⟩
    | rt d => exact ⟨h3⟩
theorem wp_rng {lo : Int} {n : Nat} {gg : MG} {b : MS} (Inv : Nat → Ls → Hs → Prop) (h0 : Inv 0 l S)
    (hs : ∀ k l S, k < n → Inv k l S → Wp X (gg (.int (lo + k)) l S) fun l1 S1 => Wp X (b l1 S1) (tuK (Inv (k + 1)) Q)) (hd : ∀ l S, Inv n l S → Q (.nx l) S) : Wp X (fLoop (.rng lo n) gg b 0 l S) Q :=
  wp_fLoop n Inv (fun l S h => by simp [itGo]) (fun k l S hk h => ⟨_, by simp [itGo, hk], hs k l S hk h⟩) hd n 0 l S (by omega) h0
theorem split_at {α : Type} {ds : List α} {k : Nat} {d : α} (h : ds[k]? = some d) : ds = ds.take k ++ d :: ds.drop (k + 1) := by
  obtain ⟨hk, rfl⟩ := List.getElem?_eq_some_iff.mp h
  simp
theorem take_at {α : Type} {ds : List α} {k : Nat} {d : α} (h : ds[k]? = some d) : ds.take (k + 1) = ds.take k ++ [d] := by
  rw [List.take_add_one, h]; rfl
theorem wp_tup {ds : List D} {gg : MG} {b : MS} (Inv : List D → Ls → Hs → Prop) (h0 : Inv [] l S)
    (hs : ∀ pre d post l S, ds = pre ++ d :: post → Inv pre l S → Wp X (gg d l S) fun l1 S1 => Wp X (b l1 S1) (tuK (Inv (pre ++ [d])) Q)) (hd : ∀ l S, Inv ds l S → Q (.nx l) S) : Wp X (fLoop (.tup ds) gg b 0 l S) Q := by
  refine wp_fLoop ds.length (fun k l S => Inv (ds.take k) l S) (fun l S h => by simp [itGo]) (fun k l S hk h => ?_) (fun l S h => hd l S (by simpa using h)) ds.length 0 l S (by omega) h0
  have e : ds[k]? = some ds[k] := List.getElem?_eq_getElem hk
  refine ⟨ds[k], by simp [itGo, e], ?_⟩
  have := hs _ _ _ l S (split_at e) h
  rwa [← take_at e] at this
theorem wp_lst {i : Nat} {ds : List D} {gg : MG} {b : MS} (Inv : List D → Ls → Hs → Prop) (hq : ∀ pre l S, Inv pre l S → seqAt S i = some ds) (h0 : Inv [] l S)
    (hs : ∀ pre d post l S, ds = pre ++ d :: post → Inv pre l S → Wp X (gg d l S) fun l1 S1 => Wp X (b l1 S1) (tuK (Inv (pre ++ [d])) Q)) (hd : ∀ l S, Inv ds l S → Q (.nx l) S) : Wp X (fLoop (.lst i) gg b 0 l S) Q := by
  refine wp_fLoop ds.length (fun k l S => Inv (ds.take k) l S) (fun l S h => by simp [itGo, hq _ _ _ h]) (fun k l S hk h => ?_) (fun l S h => hd l S (by simpa using h)) ds.length 0 l S (by omega) h0
  have e : ds[k]? = some ds[k] := List.getElem?_eq_getElem hk
  refine ⟨ds[k], by simp [itGo, hq _ _ _ h, e], ?_⟩
  have := hs _ _ _ l S (split_at e) h
  rwa [← take_at e] at this
theorem wp_while {c : MB} {b : MS} (Inv : Nat → Ls → Hs → Prop)
    (hs : ∀ m l S, Inv m l S → Wp X (c l S) fun t S1 => if t = true then Wp X (b l S1) (tuK (fun l2 S2 => ∃ m', m' < m ∧ Inv m' l2 S2) Q) else Q (.nx l) S1) : ∀ m l S, Inv m l S → Wp X (mWhile c b l S) Q := by
  intro m
  induction m using Nat.strongRecOn with
  | _ m ih =>
    intro l S h
    rw [mWhile_eq, v_bind]
    refine (hs m l S h).mono (fun _ _ _ _ h => h) fun t S1 h1 => ?_
    unfold bdK
    cases t with
    | false => exact ⟨h1⟩
    | true =>
      simp only [if_true] at h1 ⊢
      rw [v_bind]
      refine h1.mono (fun _ _ _ _ h => h) fun r S2 h2 => ?_
      unfold bdK
      cases r with
      | nx l2 => obtain ⟨m', hm, h3⟩ := h2; exact ih m' hm l2 S2 h3
      | ct l2 => obtain ⟨m', hm, h3⟩ := h2; exact ih m' hm l2 S2 h3
      | bk l2 => exact ⟨h2⟩
      | rt d => exact ⟨h2⟩
end
section
variable {X : XP} {Q : D → Hs → Prop} {l : Ls} {S : Hs} {j : J} {gl : CG} {tt : MB} {te : M} {it : MI} {vs : List Nat}
def lcK (X : XP) (gl : CG) (tt : MB) (te : M) (l : Ls) (Q : D → Hs → Prop) : J → Hs → Prop := fun j S1 => Wp X (cLoop j gl tt te l S1.length 0 (S1 ++ [.lst []])) Q
theorem v_lc : Wp X (mLc it gl tt te vs l S) Q = Wp X (it l S) (lcK X gl tt te (wipeL l vs) Q) := by unfold mLc; rw [v_bind]; rfl
theorem k_lc : lcK X gl tt te l Q j S = Wp X (cLoop j gl tt te l S.length 0 (S ++ [.lst []])) Q := nr rfl
def CTurn (gl : CG) (tt : MB) (te : M) (l : Ls) (n : Nat) (d : D) (S : Hs) (acc : List D) (I : List D → Hs → Prop) : Prop :=
  ∃ l1, gl d l = some l1 ∧ Wp NoX (tt l1 S) fun t S2 => if t = true then Wp NoX (te l1 S2) fun y S3 => S3[n]? = some (.lst acc) ∧ acc.length < sizeLine ∧ I (acc ++ [y]) (S3.set n (.lst (acc ++ [y]))) else I acc S2
theorem wp_cLoop {n : Nat} (N : Nat) (Inv : Nat → List D → Hs → Prop) (hend : ∀ acc S, Inv N acc S → itGo j N S = some none)
    (hs : ∀ k acc S, k < N → Inv k acc S → ∃ d, itGo j k S = some (some d) ∧ CTurn gl tt te l n d S acc (Inv (k + 1)))
    (hd : ∀ acc S, Inv N acc S → Q (.ref n) S) : ∀ m k acc S, k + m = N → Inv k acc S → Wp X (cLoop j gl tt te l n k S) Q
  | 0, k, acc, S, e, h => by
    have hk : k = N := by omega
    subst hk
    rw [cLoop_eq]
    simp only [cStep, hend acc S h]
    exact ⟨hd acc S h⟩
  | m + 1, k, acc, S, e, h => by
    obtain ⟨d, e1, l1, e2, h1⟩ := hs k acc S (by omega) h
    obtain ⟨t, S2, e3, h2⟩ := h1.ex
    rw [cLoop_eq]
    cases t with
    | false =>
      simp only [cStep, e1, e2, e3]
      exact wp_cLoop N Inv hend hs hd m (k + 1) acc S2 (by omega) h2
    | true =>
      obtain ⟨y, S3, e4, e5, e6, h3⟩ := Wp.ex h2
      simp only [cStep, e1, e2, e3, e4, e5, e6, if_true]
      exact wp_cLoop N Inv hend hs hd m (k + 1) _ _ (by omega) h3
theorem wp_lcRng {n : Nat} {lo : Int} {m : Nat} (Inv : Nat → List D → Hs → Prop) (h0 : Inv 0 [] S) (hs : ∀ k acc S, k < m → Inv k acc S → CTurn gl tt te l n (.int (lo + k)) S acc (Inv (k + 1)))
    (hd : ∀ acc S, Inv m acc S → Q (.ref n) S) : Wp X (cLoop (.rng lo m) gl tt te l n 0 S) Q :=
  wp_cLoop m Inv (fun acc S h => by simp [itGo]) (fun k acc S hk h => ⟨_, by simp [itGo, hk], hs k acc S hk h⟩) hd m 0 [] S (by omega) h0
def DTurn (gl : CG) (tt : MB) (tk tv : M) (l : Ls) (n : Nat) (d : D) (S : Hs) (acc : List (Key × D)) (I : List (Key × D) → Hs → Prop) : Prop :=
  ∃ l1, gl d l = some l1 ∧ Wp NoX (tt l1 S) fun t S2 => if t = true then Wp NoX (tk l1 S2) fun y S3 => Wp NoX (tv l1 S3) fun z S4 => S4[n]? = some (.dic acc) ∧ acc.length < sizeLine ∧ ∃ k, y.key = some k ∧ I (setK acc k z) (S4.set n (.dic (setK acc k z))) else I acc S2
theorem wp_dcLoop {n : Nat} {tk tv : M} (N : Nat) (Inv : Nat → List (Key × D) → Hs → Prop) (hend : ∀ acc S, Inv N acc S → itGo j N S = some none)
    (hs : ∀ k acc S, k < N → Inv k acc S → ∃ d, itGo j k S = some (some d) ∧ DTurn gl tt tk tv l n d S acc (Inv (k + 1)))
    (hd : ∀ acc S, Inv N acc S → Q (.ref n) S) : ∀ m k acc S, k + m = N → Inv k acc S → Wp X (dcLoop j gl tt tk tv l n k S) Q
  | 0, k, acc, S, e, h => by
    have hk : k = N := by omega
    subst hk
    rw [dcLoop_eq]
    simp only [dcStep, hend acc S h]
    exact ⟨hd acc S h⟩
  | m + 1, k, acc, S, e, h => by
    obtain ⟨d, e1, l1, e2, h1⟩ := hs k acc S (by omega) h
    obtain ⟨t, S2, e3, h2⟩ := h1.ex
    rw [dcLoop_eq]
    cases t with
    | false =>
      simp only [dcStep, e1, e2, e3]
      exact wp_dcLoop N Inv hend hs hd m (k + 1) acc S2 (by omega) h2
    | true =>
      obtain ⟨y, S3, e4, h3⟩ := Wp.ex h2
      obtain ⟨z, S4, e4', e5, e6, k0, ek, h4⟩ := Wp.ex h3
      simp only [dcStep, e1, e2, e3, e4, e4', e5, e6, ek, if_true]
      exact wp_dcLoop N Inv hend hs hd m (k + 1) _ _ (by omega) h4
end
def Kp (X : List Nat) (S S' : Hs) : Prop := S.length ≤ S'.length ∧ ∀ i, i < S.length → i ∉ X → S'[i]? = S[i]?
section
variable {A B : List Nat} {S S1 S2 g : Hs} {i n : Nat} {o : O}
theorem Kp.refl : Kp A S S := ⟨Nat.le_refl _, fun _ _ _ => rfl⟩
theorem Kp.trans (a : Kp A S S1) (b : Kp A S1 S2) : Kp A S S2 := ⟨Nat.le_trans a.1 b.1, fun i h hn => (b.2 i (Nat.lt_of_lt_of_le h a.1) hn).trans (a.2 i h hn)⟩
theorem Kp.sub (a : Kp A S S1) (h : ∀ i ∈ A, i < S.length → i ∈ B) : Kp B S S1 := ⟨a.1, fun i hi hn => a.2 i hi fun hm => hn (h i hm hi)⟩
theorem Kp.le (a : Kp A S S1) : S.length ≤ S1.length := a.1
theorem Kp.get (a : Kp A S S1) (h : S[i]? = some o) (hn : i ∉ A) : S1[i]? = some o := (a.2 i (Real.lt h) hn).trans h
theorem Kp.new : Kp A S (S ++ g) := ⟨by simp, fun i h _ => List.getElem?_append_left h⟩
theorem Kp.app (a : Kp A S S1) : Kp A S (S1 ++ g) := a.trans Kp.new
theorem Kp.set (h : i ∈ A) : Kp A S (S.set i o) := ⟨by simp, fun k hk hn => List.getElem?_set_ne (fun e => by subst e; exact hn h)⟩
theorem Kp.setNew (a : Kp A S S1) (h : S.length ≤ i) : Kp A S (S1.set i o) := ⟨by rw [List.length_set]; exact a.1, fun k hk hn => (List.getElem?_set_ne (by omega)).trans (a.2 k hk hn)⟩
theorem Kp.setIn (a : Kp A S S1) (h : i ∈ A) : Kp A S (S1.set i o) := a.trans (Kp.set h)
theorem Kp.after (a : Kp A S S1) (b : Kp B S1 S2) (h : ∀ i ∈ B, i < S.length → i ∈ A) : Kp A S S2 := ⟨Nat.le_trans a.1 b.1, fun i hi hn => (b.2 i (Nat.lt_of_lt_of_le hi a.1) (fun hm => hn (h i hm hi))).trans (a.2 i hi hn)⟩
theorem Kp.seqAt (a : Kp A S S1) {ds : List D} (h : seqAt S i = some ds) (hn : i ∉ A) : Ly.seqAt S1 i = some ds := by
  unfold Ly.seqAt seqD at h ⊢
  simp only at h ⊢
  split at h
  · rename_i q; rw [a.get q hn]; exact h
  · rename_i q; rw [a.get q hn]; exact h
  · cases h
end
end Ly
set_option Elab.async false
set_option linter.all false
set_option maxRecDepth 100000
namespace Ly
open PySem PySem.Spec L2
open PyProof.Rows hiding St
section
variable {X : XP} {Q : F → Hs → Prop} {l : Ls} {S : Hs} {α : Type} (f : α → D) {xs : List α}
theorem wp_tupM {gg : MG} {b : MS} (Inv : List α → Ls → Hs → Prop) (h0 : Inv [] l S)
    (hs : ∀ pre x post l S, xs = pre ++ x :: post → Inv pre l S → Wp X (gg (f x) l S) fun l1 S1 => Wp X (b l1 S1) (tuK (Inv (pre ++ [x])) Q)) (hd : ∀ l S, Inv xs l S → Q (.nx l) S) : Wp X (fLoop (.tup (xs.map f)) gg b 0 l S) Q := by
  refine wp_fLoop xs.length (fun k l S => Inv (xs.take k) l S) (fun l S h => by simp [itGo]) (fun k l S hk h => ?_) (fun l S h => hd l S (by simpa using h)) xs.length 0 l S (by omega) h0
  have e : xs[k]? = some xs[k] := List.getElem?_eq_getElem hk
  refine ⟨f xs[k], by simp [itGo, e], ?_⟩
  have := hs _ _ _ l S (split_at e) h
  rwa [← take_at e] at this
theorem wp_lstM {i : Nat} {gg : MG} {b : MS} (Inv : List α → Ls → Hs → Prop) (hq : ∀ pre l S, Inv pre l S → seqAt S i = some (xs.map f)) (h0 : Inv [] l S)
    (hs : ∀ pre x post l S, xs = pre ++ x :: post → Inv pre l S → Wp X (gg (f x) l S) fun l1 S1 => Wp X (b l1 S1) (tuK (Inv (pre ++ [x])) Q)) (hd : ∀ l S, Inv xs l S → Q (.nx l) S) : Wp X (fLoop (.lst i) gg b 0 l S) Q := by
  refine wp_fLoop xs.length (fun k l S => Inv (xs.take k) l S) (fun l S h => by simp [itGo, hq _ _ _ h]) (fun k l S hk h => ?_) (fun l S h => hd l S (by simpa using h)) xs.length 0 l S (by omega) h0
  have e : xs[k]? = some xs[k] := List.getElem?_eq_getElem hk
  refine ⟨f xs[k], by simp [itGo, hq _ _ _ h, e], ?_⟩
  have := hs _ _ _ l S (split_at e) h
  rwa [← take_at e] at this
theorem wp_tup0 {gg : MG} {b : MS} (h : Q (.nx l) S) : Wp X (fLoop (.tup []) gg b 0 l S) Q := by
  rw [fLoop_eq]; exact ⟨h⟩
theorem wp_tup1 {gg : MG} {b : MS} {d : D} (h : Wp X (gg d l S) fun l1 S1 => Wp X (b l1 S1) (tuK (fun l2 S2 => Q (.nx l2) S2) Q)) : Wp X (fLoop (.tup [d]) gg b 0 l S) Q := by
  refine wp_tup (fun pre l' S' => (pre = [] ∧ l' = l ∧ S' = S) ∨ (pre = [d] ∧ Q (.nx l') S')) (.inl ⟨rfl, rfl, rfl⟩) ?_ ?_
  · intro pre x post l' S' e hI
    rcases hI with ⟨rfl, rfl, rfl⟩ | ⟨rfl, _⟩
    · simp only [List.nil_append, List.cons.injEq] at e
      obtain ⟨rfl, _⟩ := e
      refine h.mono (fun _ _ _ _ h => h) fun l1 S1 h1 => h1.mono (fun _ _ _ _ h => h) fun r S2 h2 => ?_
      cases r with
      | nx l2 => exact .inr ⟨rfl, h2⟩
      | ct l2 => exact .inr ⟨rfl, h2⟩
      | bk l2 => exact h2
      | rt d => exact h2
    · simp at e
  · intro l' S' hI
    rcases hI with ⟨e, _⟩ | ⟨_, h⟩
    · cases e
    · exact h
variable {P : D → Hs → Prop} {gl : CG} {tt : MB} {te : M}
theorem wp_lcTupM {n : Nat} (Inv : List α → List D → Hs → Prop) (h0 : Inv [] [] S) (hs : ∀ pre x post acc S, xs = pre ++ x :: post → Inv pre acc S → CTurn gl tt te l n (f x) S acc (Inv (pre ++ [x])))
    (hd : ∀ acc S, Inv xs acc S → P (.ref n) S) : Wp X (cLoop (.tup (xs.map f)) gl tt te l n 0 S) P := by
  refine wp_cLoop xs.length (fun k acc S => Inv (xs.take k) acc S) (fun acc S h => by simp [itGo]) (fun k acc S hk h => ?_) (fun acc S h => hd acc S (by simpa using h)) xs.length 0 [] S (by omega) h0
  have e : xs[k]? = some xs[k] := List.getElem?_eq_getElem hk
  refine ⟨f xs[k], by simp [itGo, e], ?_⟩
  have := hs _ _ _ acc S (split_at e) h
  rwa [← take_at e] at this
theorem lc_pure {j : J} (g : α → Option D) (hj : ∀ S', Kp [] S S' → ∀ k, k ≤ xs.length → itGo j k S' = some ((xs[k]?).map f)) (hx : xs.length ≤ 1000000)
    (hs : ∀ x ∈ xs, ∀ S', Kp [] S S' → ∃ l1, gl (f x) l = some l1 ∧ Wp NoX (tt l1 S') fun t S2 => Kp [] S' S2 ∧ if t = true then Wp NoX (te l1 S2) fun y S3 => Kp [] S2 S3 ∧ g x = some y else g x = none)
    (hd : ∀ S', S'[S.length]? = some (.lst (xs.filterMap g)) → Kp [] S S' → P (.ref S.length) S') : Wp X (cLoop j gl tt te l S.length 0 (S ++ [.lst []])) P := by
  refine wp_cLoop xs.length (fun k acc S' => acc = (xs.take k).filterMap g ∧ S'[S.length]? = some (.lst acc) ∧ Kp [] S S') (fun acc S' h => ?_) (fun k acc S' hk h => ?_) (fun acc S' h => ?_) xs.length 0 [] _ (by omega) ⟨by simp, by simp, Kp.new⟩
  · rw [hj S' h.2.2 _ (Nat.le_refl _), List.getElem?_eq_none (Nat.le_refl _)]; rfl
  · obtain ⟨rfl, h1, h2⟩ := h
    have e : xs[k]? = some xs[k] := List.getElem?_eq_getElem hk
    obtain ⟨l1, e1, h3⟩ := hs xs[k] (List.getElem_mem hk) S' h2
    refine ⟨f xs[k], by rw [hj S' h2 _ (Nat.le_of_lt hk), e]; rfl, l1, e1, ?_⟩
    refine h3.mono (fun _ _ _ _ h => h) ?_
    rintro t S2 ⟨k1, h4⟩
    rw [take_at e, List.filterMap_append]
    have hb : ((xs.take k).filterMap g).length < sizeLine := by
      refine line_big (Nat.le_trans (List.length_filterMap_le _ _) ?_)
      simp; omega
    cases t with
    | false =>
      simp only [Bool.false_eq_true, if_false] at h4 ⊢
      simp only [List.filterMap_cons, h4, List.filterMap_nil, List.append_nil]
      exact ⟨trivial, k1.get h1 (by simp), h2.trans k1⟩
    | true =>
      simp only [if_true] at h4 ⊢
      refine h4.mono (fun _ _ _ _ h => h) ?_
      rintro y S3 ⟨k2, h5⟩
      have h6 := k2.get (k1.get h1 (by simp)) (by simp)
      simp only [List.filterMap_cons, h5, List.filterMap_nil]
      exact ⟨h6, hb, trivial, get_put h6, ((h2.trans k1).trans k2).setNew (Nat.le_refl _)⟩
  · obtain ⟨rfl, h1, h2⟩ := h
    exact hd S' (by simpa using h1) h2
end
end Ly
set_option Elab.async false
set_option linter.all false
set_option maxRecDepth 100000
namespace Ly
open PySem PySem.Spec L2
open PyProof.Rows hiding St
section
variable {X : XP} {Q : D → Hs → Prop} {h : MP} {l : Ls} {S : Hs}
def dsK (n : Nat) (Q : D → Hs → Prop) : List (D × D) → Hs → Prop := fun ps S1 => ∃ kvs, keysP ps = some kvs ∧ S1[n]? = some (.dic []) ∧ kvs.length ≤ 15 ∧ Q (.ref n) (S1.set n (.dic (mergeD [] kvs)))
theorem v_disp (H : Wp X (h l (S ++ [.dic []])) (dsK S.length Q)) : Wp X (mDisp h l S) Q := by
  unfold mDisp
  rw [v_bind]
  refine H.mono (fun _ _ _ _ h => h) ?_
  rintro ps S1 ⟨kvs, e1, e2, e3, e4⟩
  unfold bdK
  simp only [e1, e2, e3, if_true]
  exact ⟨e4⟩
variable {Q : List (D × D) → Hs → Prop} {f g : M}
theorem v_dpNil : Wp X (dpNil l S) Q = Q [] S := v_ok
def dpK (X : XP) (g : M) (h : MP) (l : Ls) (Q : List (D × D) → Hs → Prop) : D → Hs → Prop := fun x S1 => Wp X (g l S1) fun y S2 => Wp X (h l S2) fun r S3 => Q ((x, y) :: r) S3
def dpK2 (X : XP) (h : MP) (x : D) (l : Ls) (Q : List (D × D) → Hs → Prop) : D → Hs → Prop := fun y S2 => Wp X (h l S2) fun r S3 => Q ((x, y) :: r) S3
def dpK3 (x y : D) (Q : List (D × D) → Hs → Prop) : List (D × D) → Hs → Prop := fun r S3 => Q ((x, y) :: r) S3
theorem v_dpCons : Wp X (dpCons f g h l S) Q = Wp X (f l S) (dpK X g h l Q) := by
  unfold dpCons; rw [v_bind]; congr 1; funext x S1; unfold bdK dpK; rw [v_bind]; congr 1; funext y S2; unfold bdK; rw [v_bind]; congr 1; funext r S3; exact v_ok
theorem k_dp {x : D} : dpK X g h l Q x S = Wp X (g l S) (dpK2 X h x l Q) := nr rfl
theorem k_dp2 {x y : D} : dpK2 X h x l Q y S = Wp X (h l S) (dpK3 x y Q) := nr rfl
theorem k_dp3 {x y : D} {ps : List (D × D)} : dpK3 x y Q ps S = Q ((x, y) :: ps) S := nr rfl
end
section
variable {X : XP} {cs : List Addr} {f m : Str} {o e : M} {l : Ls} {S S1 : Hs} {i : Nat} {C : Addr} {fs : List (Str × D)} {d x y : D} {ds : List D} {g : ML} {md : MD} {tbl : List (Addr × MD)} {op : D → D → Hs → R D}
section
variable {Q : D → Hs → Prop}
def flK (cs : List Addr) (f : Str) (Q : D → Hs → Prop) : D → Hs → Prop := fun x S1 => match x with
  | .ref i => match S1[i]? with
    | some (.ins C fs) => C ∈ cs ∧ (match fs.lookup f with
      | some d => Q d S1
      | none => False)
    | _ => False
  | _ => False
theorem v_fld : Wp X (mFld cs f o l S) Q = Wp X (o l S) (flK cs f Q) := by
  unfold mFld; rw [v_bind]; congr 1; funext x S1; unfold bdK flK
  cases x with
  | ref i =>
    simp only []
    cases S1[i]? with
    | none => exact v_bad
    | some u =>
      cases u with
      | ins C fs =>
        simp only []
        by_cases h : C ∈ cs
        · simp only [h, if_true, true_and]; cases fs.lookup f <;> first | exact v_ok | exact v_bad
        · simp only [h, if_false, false_and]; exact v_bad
      | _ => exact v_bad
  | _ => exact v_bad
def meK2 (X : XP) (md : MD) (i : Nat) (l : Ls) (Q : D → Hs → Prop) : List D → Hs → Prop := fun ds S2 => Wp (atX X l) (md (.ref i :: ds) S2) Q
def meK (X : XP) (tbl : List (Addr × MD)) (m : Str) (g : ML) (l : Ls) (Q : D → Hs → Prop) : D → Hs → Prop := fun x S1 => match x with
  | .ref i => match S1[i]? with
    | some (.ins C fs) => (match tbl.lookup C with
      | some md => fs.lookup m = none ∧ Wp X (g l S1) (meK2 X md i l Q)
      | none => False)
    | _ => False
  | _ => False
theorem v_meth : Wp X (mMeth tbl m o g l S) Q = Wp X (o l S) (meK X tbl m g l Q) := by
  unfold mMeth; rw [v_bind]; congr 1; funext x S1; unfold bdK meK
  cases x with
  | ref i =>
    simp only []
    cases S1[i]? with
    | none => exact v_bad
    | some u =>
      cases u with
      | ins C fs =>
        simp only []
        cases tbl.lookup C with
        | none => exact v_bad
        | some md =>
          simp only [Option.isNone_iff_eq_none]
          by_cases h : fs.lookup m = none
          · simp only [h, if_true, true_and]; rw [v_bind]; congr 1; funext ds S2; unfold bdK meK2; rw [v_at]
          · simp only [h, if_false, false_and]; exact v_bad
      | _ => exact v_bad
  | _ => exact v_bad
theorem k_me2 : meK2 X md i l Q ds S = Wp (atX X l) (md (.ref i :: ds) S) Q := nr rfl
def mkK (X : XP) (C : Addr) (md : MD) (l : Ls) (Q : D → Hs → Prop) : List D → Hs → Prop := fun ds S1 => Wp (atX X l) (md (.ref S1.length :: ds) (S1 ++ [.ins C []])) fun d S2 => d = .non ∧ Q (.ref S1.length) S2
theorem v_make : Wp X (mMake C md g l S) Q = Wp X (g l S) (mkK X C md l Q) := by
  unfold mMake; rw [v_bind]; congr 1; funext ds S1; unfold bdK mkK; rw [v_bind, v_at]; congr 1; funext d S2; unfold bdK
  cases d with
  | non => simp only [v_ok, true_and]
  | _ => simp only [v_bad, reduceCtorEq, false_and]
theorem k_mk : mkK X C md l Q ds S = Wp (atX X l) (md (.ref S.length :: ds) (S ++ [.ins C []])) fun d S2 => d = .non ∧ Q (.ref S.length) S2 := nr rfl
theorem look1 {α β : Type} [BEq α] [LawfulBEq α] {a : α} {b : β} {r : List (α × β)} : ((a, b) :: r).lookup a = some b := by rw [List.lookup_cons, beq_self_eq_true]
end
section
variable {Q : F → Hs → Prop}
def fsK (X : XP) (cs : List Addr) (f : Str) (o : M) (l : Ls) (Q : F → Hs → Prop) : D → Hs → Prop := fun d S1 => Wp X (o l S1) fun x S2 => match x with
  | .ref i => match S2[i]? with
    | some (.ins C fs) => C ∈ cs ∧ fs.length < 1000 ∧ Q (.nx l) (S2.set i (.ins C (putD f d fs)))
    | _ => False
  | _ => False
def fsK2 (cs : List Addr) (f : Str) (d : D) (l : Ls) (Q : F → Hs → Prop) : D → Hs → Prop := fun x S2 => match x with
  | .ref i => match S2[i]? with
    | some (.ins C fs) => C ∈ cs ∧ fs.length < 1000 ∧ Q (.nx l) (S2.set i (.ins C (putD f d fs)))
    | _ => False
  | _ => False
theorem v_fldset : Wp X (mFldSet cs f e o l S) Q = Wp X (e l S) (fsK X cs f o l Q) := by
  unfold mFldSet; rw [v_bind]; congr 1; funext d S1; unfold bdK fsK; rw [v_bind]; congr 1; funext x S2; unfold bdK
  cases x with
  | ref i =>
    simp only []
    cases S2[i]? with
    | none => exact v_bad
    | some u =>
      cases u with
      | ins C fs =>
        simp only []
        by_cases h : C ∈ cs
        · by_cases h2 : fs.length < 1000
          · simp only [h, h2, and_self, if_true, true_and]; exact v_ok
          · simp only [h, h2, and_false, if_false, false_and]; exact v_bad
        · simp only [h, if_false, false_and]; exact v_bad
      | _ => exact v_bad
  | _ => exact v_bad
theorem k_fs : fsK X cs f o l Q d S = Wp X (o l S) (fsK2 cs f d l Q) := nr rfl
def faK3 (C : Addr) (f : Str) (i : Nat) (l : Ls) (Q : F → Hs → Prop) : D → Hs → Prop := fun z S3 => match S3[i]? with
  | some (.ins C' fs') => C' = C ∧ fs'.length < 1000 ∧ Q (.nx l) (S3.set i (.ins C (putD f z fs')))
  | _ => False
def faK2 (X : XP) (op : D → D → Hs → R D) (C : Addr) (f : Str) (i : Nat) (d0 : D) (l : Ls) (Q : F → Hs → Prop) : D → Hs → Prop := fun d S2 => Wp X (op d0 d S2) (faK3 C f i l Q)
def faK (X : XP) (cs : List Addr) (f : Str) (op : D → D → Hs → R D) (e : M) (l : Ls) (Q : F → Hs → Prop) : D → Hs → Prop := fun x S1 => match x with
  | .ref i => match S1[i]? with
    | some (.ins C fs) => C ∈ cs ∧ (match fs.lookup f with
      | some d0 => Wp X (e l S1) (faK2 X op C f i d0 l Q)
      | none => False)
    | _ => False
  | _ => False
theorem v_fldaug : Wp X (mFldAug cs f op o e l S) Q = Wp X (o l S) (faK X cs f op e l Q) := by
  unfold mFldAug; rw [v_bind]; congr 1; funext x S1; unfold bdK faK
  cases x with
  | ref i =>
    simp only []
    cases S1[i]? with
    | none => exact v_bad
    | some u =>
      cases u with
      | ins C fs =>
        simp only []
        by_cases h : C ∈ cs
        · simp only [h, if_true, true_and]
          cases fs.lookup f with
          | none => exact v_bad
          | some d0 =>
            simp only []
            rw [v_bind]; congr 1; funext d S2; unfold bdK faK2; rw [v_bind]; congr 1; funext z S3; unfold bdK faK3; dsimp only
            cases S3[i]? with
            | none => exact v_bad
            | some u =>
              cases u with
              | ins C' fs' =>
                simp only []
                by_cases h : C' = C
                · by_cases h2 : fs'.length < 1000
                  · simp only [h, h2, and_self, if_true, true_and]; exact v_ok
                  · simp only [h, h2, and_false, if_false, false_and, and_false]; exact v_bad
                · simp only [h, if_false, false_and]; exact v_bad
              | _ => exact v_bad
        · simp only [h, if_false, false_and]; exact v_bad
      | _ => exact v_bad
  | _ => exact v_bad
theorem k_fa2 {d0 : D} : faK2 X op C f i d0 l Q d S = Wp X (op d0 d S) (faK3 C f i l Q) := nr rfl
end
end
end Ly
set_option Elab.async false
set_option linter.all false
set_option maxRecDepth 100000
namespace Ly
open PySem PySem.Spec L2
open PyProof.Rows hiding St
section
variable {K : PySem.W.Frag} {E : St → XK}
end
section
variable {X : Cx} {E : St → XK} {e o : Expr} {f g : M} {fl : ML} {p pos apos cpos : Pos}
end
section
variable {X : XP} {f g : M} {l : Ls} {S : Hs} {x y : D} {Q : D → Hs → Prop}
end
end Ly
set_option Elab.async false
set_option linter.all false
set_option maxRecDepth 100000
set_option maxHeartbeats 4000000
namespace Ly
open PySem PySem.Spec L2
open PyProof.Rows hiding St
section
variable {X : Cx}
end
section
variable {X : Cx} {E : St → XK} {a b : Expr} {f g : M} {pos : Pos}
end
section
variable {X : XP} {op op' : D → D → Hs → R D} {f g h : M} {l : Ls} {S : Hs} {x y z d : D} {Q : Bool → Hs → Prop}
end
end Ly
set_option Elab.async false
set_option linter.all false
set_option maxRecDepth 100000
set_option maxHeartbeats 4000000
namespace Ly
open PySem PySem.Spec L2
open PyProof.Rows hiding St
section
variable {X : Cx}
end
section
variable {X : Cx} {E : St → XK} {e : Expr} {f : M} {p p2 pos pos2 : Pos}
end
end Ly
set_option Elab.async false
set_option linter.all false
set_option maxRecDepth 100000
set_option maxHeartbeats 4000000
namespace Ly
open PySem PySem.Spec L2
open PyProof.Rows hiding St
structure Pr3 where
  p : Addr
  b : Addr
  k : List Key
  v : V
section
variable {X : Cx}
end
section
variable {K : PySem.W.Frag} {E : St → XK} {p : Nat → Addr} {n : Nat} {H : Hp}
end
section
variable {X : Cx} {E : St → XK} {e : Expr} {f : ML} {p pos : Pos}
end
end Ly
set_option Elab.async false
set_option linter.all false
set_option maxRecDepth 100000
namespace Ly
open PySem PySem.Spec L2
open PyProof.Rows hiding St
section
variable {X : Cx} {E : St → XK} {o : Expr} {eo : M} {to : TE} {f : Str} {cs : List Addr} {pos : Pos}
end
section
variable {X : XP} {cs : List Addr} {f : Str} {o : M} {l : Ls} {S : Hs} {i : Nat} {C : Addr} {fs : List (Str × D)} {d x : D} {Q : Ls → Hs → Prop}
end
theorem flats_vals : ∀ {us : List Value} {ds : List D}, us.map absV = ds.map flatC → (ds.all fun d => (flatC d).isSome) = true → ∃ vs : List V, Vals vs us ∧ ∀ K p n H, Reps K p n H ds vs
  | [], [], _, _ => ⟨[], .nil, fun _ _ _ _ => .nil⟩
  | [], _ :: _, h, _ => by cases h
  | _ :: _, [], h, _ => by cases h
  | u :: us, d :: ds, h, k => by
    simp only [List.map_cons, List.cons.injEq] at h
    simp only [List.all_cons, Bool.and_eq_true] at k
    obtain ⟨vs, h1, h2⟩ := flats_vals h.2 k.2
    cases d with
    | int i =>
      cases u <;> first | (have e := h.1; simp only [absV, flatC] at e; cases e; exact ⟨V.int _ :: vs, .cons ⟨_, rfl⟩ h1, fun K p n H => .cons (.int _) (h2 K p n H)⟩) | (have e := h.1; simp only [absV, flatC] at e; cases e)
    | str i =>
      cases u <;> first | (have e := h.1; simp only [absV, flatC] at e; cases e; exact ⟨V.str _ :: vs, .cons ⟨_, rfl⟩ h1, fun K p n H => .cons (.str _) (h2 K p n H)⟩) | (have e := h.1; simp only [absV, flatC] at e; cases e)
    | _ => simp [flatC] at k
theorem gv_flats {K : PySem.W.Frag} {mg : Str → Option Value} {x : Str} {a : Addr} {od : Option Addr} {its : Array Value} {n : Nat} {sl : Array (Option Value)} {ds : List D} (h : mg x = some (.ref a)) (l : K.lookup a = some ⟨.type "tuple", od, .seq its n, sl⟩)
    (e : its.toList.map absV = ds.map flatC) (k : (ds.all fun d => (flatC d).isSome) = true := by rfl) (hz : ds.length ≤ sizeLine := by decide) : GV K mg x (.wt ds) := by
  obtain ⟨vs, h1, h2⟩ := flats_vals e k
  refine ⟨.ref a, .ref a, h, rfl, fun p m H => .wt (xs := vs) ⟨_, its, n, l, rfl, rfl, ?_, h1⟩ (h2 K p m H)⟩
  have := h1.length
  have e2 := congrArg List.length e
  simp only [List.length_map, Array.length_toList] at this e2
  omega
theorem kv_flats {K : PySem.W.Frag} {a : Addr} {od : Option Addr} {its : Array Value} {n : Nat} {sl : Array (Option Value)} {ds : List D} (l : K.lookup a = some ⟨.type "tuple", od, .seq its n, sl⟩)
    (e : its.toList.map absV = ds.map flatC) (k : (ds.all fun d => (flatC d).isSome) = true := by rfl) (hz : ds.length ≤ sizeLine := by decide) : KV K (.ref a) (.wt ds) := by
  obtain ⟨u, v, h1, h2, h3⟩ := gv_flats (K := K) (mg := fun _ => some (.ref a)) (x := "x") rfl l e k hz
  cases h1
  exact ⟨v, h2, h3⟩
theorem FOk.one {K : PySem.W.Frag} {cs : List Addr} {f : Str} {C : Addr} (h : FOk K cs f) (hc : C ∈ cs) : FOk K [C] f := fun C' h' => by
  rw [List.mem_singleton] at h'; subst h'; exact h _ hc
end Ly
set_option Elab.async false
set_option linter.all false
set_option maxRecDepth 100000
set_option maxHeartbeats 4000000
namespace Ly
open PySem PySem.Spec L2
open PyProof.Rows hiding St
section
variable {X : Cx}
end
end Ly
set_option Elab.async false
set_option linter.all false
set_option maxRecDepth 100000
namespace Ly
open PySem PySem.Spec L2
open PyProof.Rows hiding St
section
variable {K : PySem.W.Frag} {E : St → XK}
end
end Ly
set_option Elab.async false
set_option linter.all false
set_option maxRecDepth 100000
namespace Ly
open PySem PySem.Spec L2
open PyProof.Rows hiding St
open RZ
section
variable {X : Cx} {E : St → XK} {e : Expr} {f : M} {p p2 pos pos2 : Pos}
end
end Ly
set_option Elab.async false
set_option linter.all false
set_option maxRecDepth 100000
namespace Ly
open PySem PySem.Spec L2
open PyProof.Rows hiding St
section
variable {prog : Program} {w : World} {A : Around} {E : Value → Shared → Prop} {s : Shared}
abbrev colH (s : Shared) (L : List Value) : Heap := (s.heap.push (seqObj "list" #[] 0)).update s.heap.objs.size (Obj.mapSeq (· ++ L.toArray))
theorem colT {b : Addr} {L : List Value} {Q : List Value → Shared → Prop} (ht : s.heap.IsTuple b L.toArray) (hn : L.length ≤ sizeLine) (hq : Q L { s with heap := colH s L }) : wpAny (model prog w) A (collect (.ref b)) Q E s := by
  obtain ⟨o, go, co, n, dd⟩ := ht
  have g2 : (s.heap.push (seqObj "list" #[] 0)).get? b = some o := Heap.get?_push_of_some _ go
  have gN : (s.heap.push (seqObj "list" #[] 0)).get? s.heap.objs.size = some (seqObj "list" #[] 0) := Heap.get?_push_size _ rfl
  unfold collect
  refine wpAny_bind (wpAny_runValue (codeAny_builtin entry_proto_collect' ?step))
  case step =>
    show wpAny _ _ (do again (.builtin "list.__iadd__" ⟨[← newList [], .ref b], []⟩)) _ _ s
    refine wpAny_bind (wpAny_newList (wpAny_pure ⟨Code.quiet_builtin _ (by decide +kernel), codeAny_builtin entry_list_iadd' ?go⟩))
    show wpAny _ _ (Builtin.List.listExtendWith (.ref s.heap.objs.size) (.ref b) (.ref s.heap.objs.size)) _ _ { s with heap := s.heap.push (seqObj "list" #[] 0) }
    unfold Builtin.List.listExtendWith
    refine wpAny_bind (wpAny_typeOf (T := "tuple") ⟨o, g2, co⟩ ?_)
    rw [if_pos (show (_ || Value.type "tuple" == Value.type "list" || Value.type "tuple" == Value.type "tuple") = true by rw [show (Value.type "tuple" == Value.type "tuple") = true from rfl]; simp)]
    refine wpAny_bind (listItems_at g2 dd (wpAny_bind (listItems_at gN rfl ?_)))
    rw [if_neg (by simp)]
    have hz : (#[] ++ L.toArray : Array Value).size ≤ sizeLine + 1 := by simp; omega
    refine wpAny_bind (listUpdate_at gN rfl (wpAny_pure ?_) (Nat.zero_le _) hz)
    show wpAny (model prog w) A (do
        let o ← load s.heap.objs.size
        match o.data with
        | .seq xs _ => pure xs.toList
        | _ => unsupported "internal:collect") Q E { s with heap := colH s L }
    refine wpAny_bind (wpAny_load (get?_update_seq gN _) ?_)
    have hl : ((#[] : Array Value) ++ L.toArray).toList = L := by simp
    show wpAny _ _ (pure ((#[] : Array Value) ++ L.toArray).toList) Q E _
    rw [hl]; exact wpAny_pure hq
open SrtO in
theorem srtT {b : Addr} {L : List Value} {zs : List Int} {Q : Value → Shared → Prop} (ht : s.heap.IsTuple b L.toArray) (hn : L.length ≤ sizeLine) (hI : IntsAre L zs)
    (hq : ∀ out : List Value, Srtd ltIv out → Stb ltIv out L → Q (.ref (s.heap.objs.size + 1)) { s with heap := sortedAll s.heap L out.toArray }) : wpAny (model prog w) A (call (.builtin "sorted") [.ref b]) Q E s := by
  refine Calls.call_function_entry kind_sorted plain_sorted entry_sorted (args_sorted1 _) ?go
  case go =>
    unfold Builtin.«sorted»
    refine wpAny_bind (m := checkCount "sorted" 1 1 _) (wpAny_pure (wpAny_bind (colT ht hn (wpAny_bind (wpAny_newList ?nl hn)))))
    case nl =>
      have sz : (colH s L).objs.size = s.heap.objs.size + 1 := by unfold colH; rw [Heap.size_update, size_push']
      have gL : ((colH s L).push (seqObj "list" L.toArray 0)).get? (s.heap.objs.size + 1) = some (seqObj "list" L.toArray 0) := by rw [← sz]; exact Heap.get?_push_size _ rfl
      show wpAny _ _ _ _ _ { s with heap := (colH s L).push (seqObj "list" L.toArray 0) }
      rw [sz]
      refine wpAny_bind (wpAny_holding (wpAny_call_entry slot_list_sort ⟨_, gL, rfl⟩ entry_list_sort (list_sort_ord swo_int gL hn (fun h2 => ints_sortable hI h2) fun out hs hb => ⟨_, rfl, wpAny_pure ⟨_, rfl, hq out hs hb⟩⟩) (args_list_sort _)))
end
def rSrtT (K : PySem.W.Frag) : List V → Hp → VK → Prop := fun vs H Q => ∃ (b : Addr) (zs : List Int), vs = [V.ref b] ∧ SqT K H b (zs.map V.int) ∧
    ∀ (out : List Int) (p : Addr), out.Perm zs → out.Pairwise (· ≤ ·) → H p = none → Q (.ref p) (upd H p (.lst (out.map V.int)))
open SrtO in
theorem cr_srtT {X : Cx} : CallR X (.builtin "sorted") (rSrtT X.K) := by
  intro pins s σ H vs us Q I r h
  obtain ⟨b, zs, rfl, hT, q⟩ := h
  obtain ⟨its, rv, ht, hz⟩ := I.tuple hT
  have hI := rv.ints
  have hzl : its.length ≤ sizeLine := by rw [← rv.length]; exact hz
  rw [Vals.ref1 r]
  refine srtT ht hzl hI fun out h1 h2 => ?_
  obtain ⟨j1, j2, j3⟩ := ints_out hI h1 h2
  obtain ⟨e, he⟩ := PyProof.Rows.sortedAll_at s.heap its out.toArray
  have hl : ((out.map iv).map V.int).length ≤ sizeLine := by rw [List.length_map, j2.length_eq]; rw [List.length_map] at hz; exact hz
  refine ⟨.ref _, upd H (s.heap.objs.size + 1) (.lst ((out.map iv).map V.int)), ?_, rfl, q _ _ j2 j3 (I.hok.fresh (Nat.le_succ _))⟩
  exact I.laid (t' := s.toks) (fun _ _ => PyProof.Rows.sortedAll_old) (Nat.le_succ _) ⟨hl, out, e, vals_of_ints j1, he⟩
def bSortA (ds : List D) (S : Hs) : R D := match ds with
  | [.tup xs] => match intsD xs with
    | some ns => .ok (.ref S.length) (S ++ [.lst ((sortI ns).map D.int)])
    | none => .bad
  | ds => bSorted ds S
section
variable {X : Cx} {E : St → XK} {e : Expr} {f : ML} {p pos : Pos}
theorem ok_sortA {K : PySem.W.Frag} : CallOk K E (orC (rSortedA K) (rSrtT K)) bSortA := by
  intro p S H ds vs Q R r h
  unfold bSortA at h
  split at h
  · split at h
    · rename_i xs ns hn
      cases r with
      | cons r0 rs =>
      cases rs
      cases r0 with
      | @tup ta td tx t r2 =>
      refine .inr ⟨_, ns, rfl, by rw [← ints_V r2 hn]; exact SqT.of t, fun ys q h1 h2 hq => ?_⟩
      rw [sortI_uniq h1 h2]
      exact h.new R hq ⟨_, upd_same, ints_reps _⟩
    · exact h.elim
  · exact .inl (ok_sorted p S H _ vs Q R r h)
theorem c_sortA (hc : X.calm = true) (hm : X.mg "sorted" = none) (ha : LM X E [e] f) (hg : Gl X "sorted" := by rfl) (he : starEach [e] X.env = (false, eval e X.env) :: starEach [] X.env := by rfl) : EM X E (.Call (.Name "sorted" p) [e] [] pos) (mCall bSortA f) :=
  e_callB (CallR.or (CallR.or cr_sortedI (call_sortedDI hc)) cr_srtT) ok_sortA hg hm (by decide +kernel) ha (by decide) (by decide) he
end
end Ly
set_option Elab.async false
set_option linter.all false
set_option maxRecDepth 100000
namespace Ly
open PySem PySem.Spec L2
open PyProof.Rows hiding St
section
variable {P : Program} {w : World} {A : Around} {E : Value → Shared → Prop} {s : Shared}
set_option maxRecDepth 100000 in
set_option maxHeartbeats 3200000 in
end
section
variable {X : Cx} {E : St → XK} {e : Expr} {f : M} {p p2 pos pos2 : Pos}
end
end Ly
set_option Elab.async false
set_option linter.all false
set_option maxRecDepth 100000
namespace Ly
open PySem PySem.Spec L2
open PyProof.Rows hiding St
section
variable {X : Cx} {E : St → XK} {e c : Expr} {f g : M} {p pos kpos : Pos}
end
end Ly
set_option Elab.async false
set_option linter.all false
set_option maxRecDepth 100000
namespace Ly
open PySem PySem.Spec L2
open PyProof.Rows hiding St
section
variable {prog : Program} {w : World} {A : Around} {E : Value → Shared → Prop} {s : Shared}
end
section
variable {X : Cx}
end
section
variable {X : Cx} {E : St → XK} {pos p2 : Pos} {f : M} {fh : MO}
end
section
variable {X : XP} {f : M} {fh : MO} {l : Ls} {S : Hs} {Q : Ls → Hs → Prop}
end
end Ly
set_option Elab.async false
set_option linter.all false
set_option maxRecDepth 100000
namespace Ly
open PySem PySem.Spec L2
open PyProof.Rows hiding St
end Ly
set_option Elab.async false
set_option linter.all false
set_option maxRecDepth 100000
namespace Ly
open PySem PySem.Spec L2
open PyProof.Rows hiding St
section
variable {X : Cx} {E : St → XK} {f : M} {a tg : Expr} {p0 p1 pos pos1 : Pos}
end
section
variable {X : Cx} {E : St → XK} {elt tg iter tg1 iter1 : Expr} {ifs ifs1 : List Expr} {scope : Scope} {own : List (Str × Nat)} {pos : Pos} {it it1 : MI} {g g1 : TG} {gl gl1 : CG} {tm tm1 : MB} {te : M}
end
end Ly
set_option Elab.async false
set_option linter.all false
set_option maxRecDepth 100000
namespace Ly
open PySem PySem.Spec L2
open PyProof.Rows hiding St
section
variable {X : XP} {Q : D → Hs → Prop} {l : Ls} {S : Hs} {j : J} {gl gl1 : CG} {tt tt1 : MB} {te : M} {it it1 : MI} {vs vs1 : List Nat}
end
section
variable {α β : Type} {X : XP} {P : D → Hs → Prop} {l : Ls} {S : Hs} {gl gl1 : CG} {tt tt1 : MB} {te : M} {it1 : MI} {vs1 : List Nat}
end
end Ly
set_option Elab.async false
set_option linter.all false
set_option maxRecDepth 100000
set_option maxHeartbeats 4000000
namespace LR
open PySem PySem.Spec PyProof.Rows L2 RT
theorem nolen_rit : typeLookup (.type "range_iterator") "__len__" = pure none := by rw [typeLookup_type, builtinLookup_eq_fast]; kernel_rfl
theorem slot_rit_hint : Slot "range_iterator" "__length_hint__" "range_iterator.__length_hint__" :=
  .of (owner := "range_iterator") (n := "__length_hint__") (by rw [typeLookup_type, builtinLookup_eq_fast]; kernel_rfl) (by decide +kernel) (by decide +kernel) (by decide +kernel)
    (by first | exact .inl (by decide +kernel) | exact .inr (by decide +kernel)) (by rw [isSubtype_type]; kernel_rfl)
theorem owner_rit : Manifest.owners.lookup (String.ofList ['r', 'o', 't', 'a', 'r', 'e', 't', 'i', '_', 'e', 'g', 'n', 'a', 'r'].reverse) = some Manifest.sig_range_iterator := by kernel_rfl
theorem entry_rit_hint : entryFor table "range_iterator.__length_hint__" = some Builtin.«range_iterator.__length_hint__» := entryFor_of_tree (by kernel_rfl)
theorem args_rit_hint (a : Value) : argsOk "range_iterator.__length_hint__" ⟨[a], []⟩ := by
  unfold argsOk; rw [signature?_of (id := "range_iterator.__length_hint__") (n := ['_', '_', 't', 'n', 'i', 'h', '_', 'h', 't', 'g', 'n', 'e', 'l', '_', '_']) (o := ['r', 'o', 't', 'a', 'r', 'e', 't', 'i', '_', 'e', 'g', 'n', 'a', 'r']) (by kernel_rfl) owner_rit]; kernel_rfl
section
variable {prog : Program} {w : World} {A : Around} {E : Value → Shared → Prop} {s : Shared}
theorem hint_rit {it : Addr} {x left step : Int} {Q : Bool → Shared → Prop} (hit : IsRangeIter s.heap it x left step) (hl : left.toNat ≤ 2 ^ 24) (h : Q false { s with toks := s.toks + 1 }) : wpAny (model prog w) A (Builtin.List.listLengthHint (.ref it)) Q E s := by
  have hT : s.TypeIs (.ref it) "range_iterator" := ⟨_, hit, rfl⟩
  unfold Builtin.List.listLengthHint
  refine wpAny_bind (wpAny_specialOf hT nolen_rit ?_)
  show wpAny _ A (specialOf (Value.ref it) (Str.ofString "__length_hint__") >>= _) _ _ _
  refine wpAny_bind (wpAny_specialOf hT slot_rit_hint.lookup ?_)
  generalize hid : ("range_iterator.__length_hint__" : String) = id0
  wp_delta
  rw [show splitId id0 = some ("range_iterator", "__length_hint__") from by subst hid; decide +kernel]
  subst hid
  refine wpAny_bind (wpAny_isInstance (b := true) hT (by rw [isSubtype_type]; kernel_rfl) ?_)
  refine wpAny_ite_split (fun hab => absurd hab (by decide)) (fun _ => ?_)
  refine wpAny_ite_split (fun _ => ?_) (fun hab => absurd (by decide +kernel) hab)
  refine wpAny_ite_split (fun _ => ?_) (fun hab => absurd (by decide +kernel) hab)
  refine wpAny_bind (wpAny_call_entry slot_rit_hint hT entry_rit_hint ?_ (args_rit_hint _))
  unfold Builtin.«range_iterator.__length_hint__»
  refine wpAny_bind (wpAny_of_eq (a := Value.ref it) (by first | rfl | kernel_rfl) ?_)
  refine wpAny_bind (wpAny_field hit rfl (x := rawInt left) rfl ?_)
  have htl : Builtin.List.listTooLong left.toNat = false := by simp [Builtin.List.listTooLong, sizeLine]; omega
  show wpAny _ _ (retInt left) _ _ _
  unfold retInt
  refine wpAny_bind (wpAny_mkInt ?_)
  refine wpAny_pure ⟨_, rfl, ?_⟩
  refine wpAny_bind (m := asInt? _) (wpAny_pure ?_)
  exact wpAny_ite_split (fun hab => absurd hab (by rw [htl]; decide)) (fun _ => wpAny_pure h)
theorem extend_rit {R : Result → Shared → Prop} {r : Addr} {a c : Int} {n : Nat} (hh : A.handled = none) (hit : IsRangeIter s.heap r (a + ((0 : Nat) : Int) * c) ((n : Int) - ((0 : Nat) : Int)) c) (hlen : n ≤ 2 ^ 24) (S : Addr) (res : Value) (c₀ : Nat)
    (hS : s.heap.get? S = some { cls := .type "list", data := .seq #[] c₀ })
    (hR : ∀ h' tk acc' c', (∀ b o, b ≠ S → b ≠ r → s.heap.get? b = some o → h'.get? b = some o) → h'.get? S = some { cls := .type "list", dict := none, data := .seq acc' c', slots := #[] } →
      ItemsOf (fun i v => ∃ t, v = .int (a + i * c) t) acc' n → R (.ok (.ret res)) { s with heap := h', toks := tk }) :
    wpAny (model prog w) A.in1 (Builtin.List.listExtendWith (.ref S) (.ref r) res)
      (fun fin s' => match fin with | .done f => R (.ok f) s' | .again c' => c'.quiet = true ∧ codeAny (model prog w) A c' R s') (fun e s' => R (.error e) s') s := by
  have hSr : S ≠ r := fun e => by rw [e, hit] at hS; simp at hS
  have hSf : S ∉ [r] := fun hm => hSr (List.mem_singleton.mp hm)
  have W := (Walks.range (prog := prog) (w := w) (A := A.in1) hh r a c n).toS
  have hT : s.TypeIs (.ref r) "range_iterator" := ⟨_, hit, rfl⟩
  unfold Builtin.List.listExtendWith
  refine wpAny_bind (wpAny_typeOf hT ?_)
  have h1 : Builtin.List.listSameRef (.ref S) (.ref r) = false := by simp [Builtin.List.listSameRef, hSr]
  have h2 : (Value.type "range_iterator" == Value.type "list") = false := by decide
  have h3 : (Value.type "range_iterator" == Value.type "tuple") = false := by decide
  simp only [h1, h2, h3, Bool.or_false, Bool.false_eq_true, if_false]
  refine wpAny_bind (wpAny_pyIter_rangeiter hit ?_)
  refine wpAny_bind (wpAny_holding (hint_rit hit (by omega) ?_))
  refine wpAny_ite_split (fun hab => absurd hab (by decide +kernel)) (fun _ => wpAny_pure ⟨plainId_quiet F.plain_extend_loop _, ?_⟩)
  refine codeAny_extend_loopS W (by rw [sizeLine_eq]; omega) S hSf res n 0 _ #[] c₀ rfl (Nat.zero_le _) hit hS (ItemsOf.nil _) fun s' acc' c' hm hS' hacc => ?_
  rw [Moved.eq_with hm]
  refine hR s'.heap s'.toks acc' c' (fun b o hb hb2 e => hm.heap b o (fun hmem => ?_) e) hS' hacc
  rcases List.mem_cons.mp hmem with e' | hmem
  · exact hb e'
  · exact hb2 (List.mem_singleton.mp hmem)
theorem init_of {R : Result → Shared → Prop} {r : Addr} (S : Addr) (hS : s.heap.get? S = some { cls := .type "list", data := .seq #[] })
    (h : ∀ c₀ h', (∀ b o, b ≠ S → s.heap.get? b = some o → h'.get? b = some o) → h'.get? S = some { cls := .type "list", data := .seq #[] c₀ } → wpAny (model prog w) A.in1 (Builtin.List.listExtendWith (.ref S) (.ref r) .none)
      (fun fin s' => match fin with | .done f => R (.ok f) s' | .again c' => c'.quiet = true ∧ codeAny (model prog w) A c' R s') (fun e s' => R (.error e) s') { s with heap := h' }) :
    wpAny (model prog w) A.in1 (Builtin.«list.__init__» ⟨[.ref S, .ref r], []⟩)
      (fun fin s' => match fin with | .done f => R (.ok f) s' | .again c' => c'.quiet = true ∧ codeAny (model prog w) A c' R s') (fun e s' => R (.error e) s') s := by
  show wpAny _ _ (do let old ← Builtin.List.listItems (.ref S); Builtin.List.listUpdate (.ref S) (fun _ => #[]); letGo old.toList.reverse; Builtin.List.listExtendWith (.ref S) (.ref r) .none) _ _ s
  refine wpAny_bind ?_
  unfold Builtin.List.listItems
  refine wpAny_bind (wpAny_seqItems hS rfl (wpAny_pure ?_))
  show wpAny _ _ (updateSeq S (fun _ => #[]) >>= fun _ => letGo (#[] : Array Value).toList.reverse >>= fun _ => Builtin.List.listExtendWith (.ref S) (.ref r) .none) _ _ s
  refine wpAny_bind (wpAny_updateSeq hS rfl ?_)
  have hS₂ := Heap.get?_update_self (Obj.mapSeq (fun _ => (#[] : Array Value))) hS rfl
  have oth : ∀ b o, b ≠ S → s.heap.get? b = some o → (s.heap.update S (Obj.mapSeq (fun _ => (#[] : Array Value)))).get? b = some o :=
    fun b o hb e => (Heap.get?_update_other _ _ (Ne.symm hb)).trans e
  refine wpAny_bind (wpAny_letGo ?_)
  exact h _ _ oth hS₂
theorem call_list_rit {Q : Value → Shared → Prop} {r : Addr} {a c : Int} {n : Nat} (hh : A.handled = none) (hit : IsRangeIter s.heap r (a + ((0 : Nat) : Int) * c) ((n : Int) - ((0 : Nat) : Int)) c) (hlen : n ≤ 2 ^ 24)
    (hQ : ∀ h' tk acc' c', (∀ b o, b ≠ r → s.heap.get? b = some o → h'.get? b = some o) →
      h'.get? s.heap.objs.size = some { cls := .type "list", dict := none, data := .seq acc' c', slots := #[] } → ItemsOf (fun i v => ∃ t, v = .int (a + i * c) t) acc' n → Q (.ref s.heap.objs.size) { s with heap := h', toks := tk }) :
    wpAny (model prog w) A (call (.type "list") [.ref r]) Q E s := by
  refine callType_codes (Q₁ := fun obj s₁ => obj = .ref s.heap.objs.size ∧ s₁ = { s with heap := s.heap.push { cls := .type "list", data := .seq #[] } }) F.called_list (F.typeCall_list_1 _) F.entry_list_init
    (code_list_new _ ⟨rfl, rfl⟩) fun obj s₁ h₁ => ?_
  obtain ⟨rfl, rfl⟩ := h₁
  have hS : (s.heap.push { cls := .type "list", data := .seq #[] }).get? s.heap.objs.size = some { cls := .type "list", data := .seq #[] } := Heap.get?_push_size _ rfl
  have hne : r ≠ s.heap.objs.size := Nat.ne_of_lt (Heap.lt_size hit)
  refine ⟨⟨_, hS, rfl⟩, F.args_list_init_2 _ _, init_of (A := A.in1) _ hS fun c₀ h1 k1 hS1 => ?_⟩
  refine extend_rit (A := A.in1) hh (k1 r _ hne (Heap.get?_push_of_some _ hit)) hlen _ _ c₀ hS1 fun h' tk acc' c' hk hS' hacc => ?_
  exact ⟨rfl, hQ h' tk acc' c' (fun b o hb e => hk b o (Nat.ne_of_lt (Heap.lt_size e)) hb (k1 b o (Nat.ne_of_lt (Heap.lt_size e)) (Heap.get?_push_of_some _ e))) hS' hacc⟩
end
end LR
namespace L2
open PySem PySem.Spec PyProof.Rows RT
def rgR (a b : Int) : List V := (List.range (b - a).toNat).map fun i => V.int (a + (((b - a).toNat : Nat) : Int) - 1 + (i : Nat) * (-1))
theorem vals_rgR {a b : Int} {acc : Array Value} (h : ItemsOf (fun i v => ∃ t, v = .int (a + (((b - a).toNat : Nat) : Int) - 1 + i * (-1)) t) acc (b - a).toNat) : Vals (rgR a b) acc.toList := by
  have e : acc.toList.length = (b - a).toNat := by rw [Array.length_toList]; exact h.1
  unfold rgR
  have key := vals_of_get acc.toList (fun i => V.int (a + (((b - a).toNat : Nat) : Int) - 1 + (i : Nat) * (-1))) fun j u hj => by
    obtain ⟨t, rfl⟩ := h.2 j u (by rw [← hj, Array.getElem?_toList])
    exact ⟨t, rfl⟩
  rw [e] at key
  exact key
def tLstRevR (te : St → Hp → (Int → Int → Hp → Prop) → Prop) : TE := fun σ H Q => te σ H fun a b H1 => RgOk a b ∧ ∀ q, H1 q = none → Q (.ref q) (upd H1 q (.lst (rgR a b)))
section
variable {X : Cx} {e : Expr} {te : TE} {tr : St → Hp → (Int → Int → Hp → Prop) → Prop} {p p2 pos pos2 : Pos}
theorem pe_lstRevR (hc : X.calm = true) (hg : Gl X "list") (hm : X.mg "list" = none) (hg2 : Gl X "reversed") (hm2 : X.mg "reversed" = none) (he : PRg X e tr)
    (hs : starEach [e] X.env = (false, eval e X.env) :: starEach [] X.env := by rfl)
    (hs2 : starEach [.Call (.Name "reversed" p2) [e] [] pos2] X.env = (false, eval (.Call (.Name "reversed" p2) [e] [] pos2) X.env) :: starEach [] X.env := by rfl) :
    PE X (.Call (.Name "list" p) [.Call (.Name "reversed" p2) [e] [] pos2] [] pos) (tLstRevR tr) := by
  refine ⟨fun pins s σ H Q I h => ?_⟩
  refine Call_ (ld_blt I hg hm boot_list (PyProof.Rows.callWith_type1 (args_cons (Call_ (ld_blt I hg2 hm2 PyProof.Rows.boot_reversed (PyProof.Rows.callWith_type1 (args_cons (thn (he pins s σ H _ I h) fun x s1 ⟨r, a, b, t, u, v, H1, ex, hr, I1, ok, q⟩ => args_nil ?_) hs) hs rfl))) hs2) hs2 rfl))
  subst ex
  obtain ⟨b1, b2, b3, b4, b5⟩ := ok
  have hn : Builtin.Range.rangeSize a b 1 = (((b - a).toNat : Nat) : Int) := rangeSize_nat a b
  refine call_reversed_range hr (smallRev_one b1 b2 b3 b4) (args_nil ?_)
  have e1 : a + (((b - a).toNat : Nat) : Int) - 1 + ((0 : Nat) : Int) * (-1) = a + (Builtin.Range.rangeSize a b 1 - 1) * 1 := by rw [hn]; omega
  have e2 : (((b - a).toNat : Nat) : Int) - ((0 : Nat) : Int) = Builtin.Range.rangeSize a b 1 := by rw [hn]; omega
  have hit : IsRangeIter (s1.heap.push (rngRevObj a b 1)) s1.heap.objs.size (a + (((b - a).toNat : Nat) : Int) - 1 + ((0 : Nat) : Int) * (-1)) ((((b - a).toNat : Nat) : Int) - ((0 : Nat) : Int)) (-1) := by
    rw [e1, e2]
    exact Heap.get?_push_size _ rfl
  refine LR.call_list_rit (s := { s1 with heap := s1.heap.push (rngRevObj a b 1) }) (I1.ok.hd hc) hit b5 fun h' tk acc c' hk hS hi => ?_
  have hsz : (s1.heap.push (rngRevObj a b 1)).objs.size = s1.heap.objs.size + 1 := by simp [Heap.size_push]
  have k0 : ∀ b' o, s1.heap.get? b' = some o → h'.get? b' = some o := fun b' o e => hk b' o (Nat.ne_of_lt (Heap.lt_size e)) (Heap.get?_push_of_some _ e)
  have hge : s1.heap.objs.size ≤ (s1.heap.push (rngRevObj a b 1)).objs.size := by rw [hsz]; omega
  refine ⟨.ref (s1.heap.push (rngRevObj a b 1)).objs.size, upd H1 (s1.heap.push (rngRevObj a b 1)).objs.size (.lst (rgR a b)), I1.laid (t' := tk) k0 hge (show ObjOk X.prog X.w _ _ _ (.lst (rgR a b)) from ⟨?_, acc.toList, c', vals_rgR hi, ?_⟩), rfl, q _ (I1.hok.fresh hge)⟩
  · unfold rgR; rw [List.length_map, List.length_range, sizeLine_eq]; omega
  · rw [Array.toArray_toList]; exact hS
end
end L2
namespace Ly
open PySem PySem.Spec L2
open PyProof.Rows hiding St
def rgRD (a b : Int) : List D := (List.range (b - a).toNat).map fun i => D.int (a + (((b - a).toNat : Nat) : Int) - 1 + (i : Nat) * (-1))
theorem rgR_reps {K : PySem.W.Frag} {p : Nat → Addr} {n : Nat} {H : Hp} (a b : Int) : Reps K p n H (rgRD a b) (rgR a b) := by
  unfold rgRD rgR
  generalize List.range (b - a).toNat = xs
  induction xs with
  | nil => exact .nil
  | cons x xs ih => exact .cons (.int _) ih
def oLRgR (a b : Int) (S : Hs) : R D := if -(2 ^ 62) ≤ a ∧ a < 2 ^ 62 ∧ -(2 ^ 62) ≤ b ∧ b < 2 ^ 62 ∧ (b - a).toNat ≤ 2 ^ 24 then .ok (.ref S.length) (S ++ [.lst (rgRD a b)]) else .bad
section
variable {X : Cx} {E : St → XK} {f : M} {a : Expr} {p p2 p3 pos pos2 pos3 : Pos}
theorem c_listRevRg1 (hc : X.calm = true) (hm : X.mg "list" = none) (hm2 : X.mg "reversed" = none) (hm3 : X.mg "range" = none) (ha : EM X E a f) (hg : Gl X "list" := by rfl) (hg2 : Gl X "reversed" := by rfl) (hg3 : Gl X "range" := by rfl)
    (na : starEach [a] X.env = (false, eval a X.env) :: starEach [] X.env := by rfl)
    (na2 : starEach [(.Call (.Name "range" p3) [a] [] pos3 : Expr)] X.env = (false, eval (.Call (.Name "range" p3) [a] [] pos3) X.env) :: starEach [] X.env := by rfl)
    (na3 : starEach [(.Call (.Name "reversed" p2) [.Call (.Name "range" p3) [a] [] pos3] [] pos2 : Expr)] X.env = (false, eval (.Call (.Name "reversed" p2) [.Call (.Name "range" p3) [a] [] pos3] [] pos2) X.env) :: starEach [] X.env := by rfl) :
    EM X E (.Call (.Name "list" p) [.Call (.Name "reversed" p2) [.Call (.Name "range" p3) [a] [] pos3] [] pos2] [] pos) (mRg1 oLRgR f) :=
  ⟨(pe_lstRevR hc hg hm hg2 hm2 (prg_1 hg3 hm3 ha.pe na) na2 na3).weak fun s H Q ⟨p, l, S, R, L, h⟩ => T.of (k := fun x S1 => rg1 oLRgR [x] S1) R L h fun p1 S1 H1 d v R1 x1 L1 r1 h1 => by
    unfold rg1 at h1
    split at h1
    · rename_i e
      cases e
      cases r1
      unfold oLRgR at h1
      split at h1
      · rename_i hr
        exact ⟨_, rfl, hr, fun q hq => h1.new R1 hq ⟨_, upd_same, rgR_reps _ _⟩⟩
      · exact h1.elim
    · rename_i e; cases e
    · exact h1.elim⟩
end
end Ly
set_option Elab.async false
set_option linter.all false
set_option maxRecDepth 100000
namespace Ly
open PySem PySem.Spec L2
open PyProof.Rows hiding St
section
variable {K : PySem.W.Frag} {E : St → XK} {p : Nat → Addr} {S : Hs} {H : Hp} {n : Nat} {pi : Nat → Addr}
end
end Ly
set_option Elab.async false
set_option linter.all false
set_option maxRecDepth 100000
set_option maxHeartbeats 4000000
namespace Ly
open PySem PySem.Spec L2
open PyProof.Rows hiding St
section
variable {P : Program} {w : World} {K : PySem.W.Frag} {mg : Str → Option Value} {base : Heap}
end
section
variable {X : Cx} {x : Str} {p pos pos' : Pos} {C : Addr} {bmB : List Value} {B newId initId : String} {E0 : XK}
end
end Ly
set_option Elab.async false
set_option linter.all false
set_option maxRecDepth 100000
set_option maxHeartbeats 4000000
namespace Ly
open PySem PySem.Spec L2 PySem.W PySem.Calls
open PyProof.Rows hiding St
section
variable {P : Program} {w : World} {K : PySem.W.Frag} {mg : Str → Option Value} {base : Heap}
end
structure SupF (K : PySem.W.Frag) (prog : Program) (mg : Str → Option Value) (f cc cda D : Addr) (fd : FuncData) (selfn : Str) : Prop where
  fo : ∃ oc od osl, K.lookup f = some ⟨oc, od, .func fd, osl⟩
  par : ∃ ar : Arg, (fd.params.posonlyargs ++ fd.params.args).head? = some ar ∧ ar.arg = selfn
  code : ∃ ccl cdd vs ccs file tf, K.lookup cda = some ⟨ccl, cdd, .fields vs, ccs⟩ ∧ vs[2]? = some (.str file tf) ∧ ((prog.main.file : Str) == file) = true
  cell : ∃ cl cld csl, K.lookup cc = some ⟨cl, cld, .cell (some (.ref D)), csl⟩
  dc : ∃ cdD, PySem.W.clsIn K D = some cdD
  su : mg "super" = none
  top : (prog.main.scope.names.lookup ("super" : Str)).isSome = false
structure SupC (K : PySem.W.Frag) (C D : Addr) : Prop where
  ox : OexC K C
  sub : PySem.W.mroIn K C (.ref D) = some true
  sup : PySem.W.ks_superIn K C D "__init__" = some (some (.builtin "ValueError.__init__"))
  isV : PySem.W.subIn K (.ref C) (.type "ValueError") = some true
  any : PySem.W.nsIn K cStatics "thirdparty.any" = some none
section
variable {X : Cx} {σ : St} {H : Hp} {s : Shared}
end
end Ly
set_option Elab.async false
set_option linter.all false
set_option maxRecDepth 100000
set_option maxHeartbeats 4000000
namespace Ly
open PySem PySem.Spec L2
open PyProof.Rows hiding St
abbrev Cl := Value × Option Nat × (Addr → Value → Option Addr → TS)
inductive HdsA (X : Cx) : List ExceptHandler → List Cl → Prop
  | nil : HdsA X [] []
  | cons {x : Str} {c : Value} {ts : Addr → Value → Option Addr → TS} {b₀ : Stmt} {suite : List Stmt} {np pos' : Pos} {hds : List ExceptHandler} {l : List Cl} (hc : Names X x c)
      (hsu : ∀ (a : Addr) (oe : Obj) (cls : Value) (d : Option Addr) (pn : List (Addr × Obj)), Zc cls d oe → (∃ vs, oe.data = .fields vs) → PSs (X.suite a ((a, oe) :: pn)) (b₀ :: suite) (ts a cls d)) (r : HdsA X hds l) :
      HdsA X (.ExceptHandler (some (.Name x np)) none (b₀ :: suite) pos' :: hds) ((c, none, ts) :: l)
  | as {x n : Str} {c : Value} {i : Nat} {ts : Addr → Value → Option Addr → TS} {b₀ : Stmt} {suite : List Stmt} {np pos' : Pos} {hds : List ExceptHandler} {l : List Cl} (hc : Names X x c) (hi : X.N[i]? = some n) (hln : X.env.kindOf n = some .local)
      (hsu : ∀ (a : Addr) (oe : Obj) (cls : Value) (d : Option Addr) (pn : List (Addr × Obj)), Zc cls d oe → (∃ vs, oe.data = .fields vs) → PSs (X.suite a ((a, oe) :: pn)) (b₀ :: suite) (ts a cls d)) (r : HdsA X hds l) :
      HdsA X (.ExceptHandler (some (.Name x np)) (some n) (b₀ :: suite) pos' :: hds) ((c, some i, ts) :: l)
section
variable {X : Cx} {body : List Stmt} {h₀ : ExceptHandler} {hds : List ExceptHandler} {l : List Cl} {pos : Pos} {tb : WX → TS} {Wout : WX}
end
end Ly
set_option Elab.async false
set_option linter.all false
set_option maxRecDepth 100000
set_option maxHeartbeats 4000000
namespace Ly
open PySem PySem.Spec L2
open PyProof.Rows hiding St
def Grow (H H' : Hp) : Prop := ∀ b u, H b = some u → H' b = some u
section
variable {K : PySem.W.Frag} {pi : Nat → Addr} {n : Nat} {H H' H2 : Hp}
theorem Grow.refl : Grow H H := fun _ _ h => h
theorem Grow.trans (a : Grow H H') (b : Grow H' H2) : Grow H H2 := fun x u h => b x u (a x u h)
theorem Grow.ext (g : Grow H H') : Ext n n pi pi H H' := ⟨Nat.le_refl _, fun _ _ => rfl, fun a xs h => g _ _ h⟩
theorem Grow.upd {p : Addr} {u : HO} (h : H p = none) : Grow H (upd H p u) := fun b v e => by rw [upd_ne (ne_of_none e h)]; exact e
theorem Grow.xf {d : Option Addr} {fs : Option (List (Str × D))} (g : Grow H H') (x : XFs K pi n H d fs) : XFs K pi n H' d fs := by
  cases d with
  | none => cases fs with
    | none => exact True.intro
    | some fs => exact x.elim
  | some d => cases fs with
    | none => exact x.elim
    | some fs => obtain ⟨ks, h1, h2, h3⟩ := x; exact ⟨ks, g _ _ h1, h2, h3.ext g.ext _ _⟩
end
abbrev Gs (α : Type) := Addr → Option (List (Str × D)) → Ls → Option α
abbrev TbH := List (Addr × Bool)
structure InS (K : PySem.W.Frag) (tab : TbH) (oi : Option Nat) (a : Addr) (cls : Value) (d : Option Addr) (σ : St) (H : Hp) (p : Nat → Addr) (n : Nat) (l : Ls) (C : Addr) (fs : Option (List (Str × D))) : Prop where
  cl : cls = .ref C
  mem : (C, true) ∈ tab
  sl : Sl K p n H l σ
  xf : XFs K p n H d fs
  at_ : ∀ i, oi = some i → σ[i]? = some (some (.ref a))
section
variable (K : PySem.W.Frag) (tab : TbH) (oi : Option Nat) (a : Addr) (cls : Value) (d : Option Addr)
def tSS (g : Gs D) : TS := fun D σ H => ∃ p n l C fs v, InS K tab oi a cls d σ H p n l C fs ∧ g C fs l = some v ∧ ∀ u H', Grow H H' → Rep K p n H' v u → D.rt u H'
end
section
variable {K : PySem.W.Frag} {tab : TbH} {oi : Option Nat} {a : Addr} {cls : Value} {d : Option Addr} {σ : St} {H H' : Hp} {p : Nat → Addr} {n : Nat} {l : Ls} {C : Addr} {fs : Option (List (Str × D))}
end
section
variable {Y : Cx} {tab : TbH} {oi : Option Nat} {a : Addr} {cls : Value} {d : Option Addr} {e f : Expr} {es : List Expr} {pos : Pos} {g g1 g2 : Gs D} {gs : Gs (List D)} {b b1 b2 : Gs Bool}
end
section
variable {X : Cx} {tab : TbH} {i : Nat} {a : Addr} {oe : Obj} {cls : Value} {d : Option Addr} {pn : List (Addr × Obj)} {f x c : Str} {p0 p1 p2 p3 pos : Pos}
structure ErC (K : PySem.W.Frag) (C : Addr) : Prop where
  xf : XfC K C
  ex : ExcC K C
theorem XFs.xd {K : PySem.W.Frag} {p : Nat → Addr} {n : Nat} {H : Hp} {fs : Option (List (Str × D))} (x : XFs K p n H d fs) : ∀ dd, d = some dd → ∃ ks, H dd = some (.xd ks) := by
  intro dd e
  subst e
  cases fs with
  | none => exact x.elim
  | some fs => obtain ⟨ks, h1, _⟩ := x; exact ⟨ks, h1⟩
end
structure Cm where
  tab : TbH
  oi : Option Nat
  g : Gs D
def Cm.ls (c : Cm) (l : Ls) : Ls := match c.oi with | none => l | some i => l.set i none
inductive HdsM (X : Cx) : List ExceptHandler → List Cm → Prop
  | nil : HdsM X [] []
  | cons {x : Str} {c : Value} {tab : TbH} {g : Gs D} {b₀ : Stmt} {suite : List Stmt} {np pos' : Pos} {hds : List ExceptHandler} {cl : List Cm} (hc : Names X x c) (T : ∀ q ∈ tab, PySem.W.exmOne X.K (.ref q.1) c = some q.2)
      (hsu : ∀ (a : Addr) (oe : Obj) (cls : Value) (d : Option Addr) (pn : List (Addr × Obj)), Zc cls d oe → (∃ vs, oe.data = .fields vs) → PSs (X.suite a ((a, oe) :: pn)) (b₀ :: suite) (tSS X.K tab none a cls d g)) (r : HdsM X hds cl) :
      HdsM X (.ExceptHandler (some (.Name x np)) none (b₀ :: suite) pos' :: hds) (⟨tab, none, g⟩ :: cl)
  | as {x nm : Str} {c : Value} {i : Nat} {tab : TbH} {g : Gs D} {b₀ : Stmt} {suite : List Stmt} {np pos' : Pos} {hds : List ExceptHandler} {cl : List Cm} (hc : Names X x c) (hi : X.N[i]? = some nm) (hln : X.env.kindOf nm = some .local) (T : ∀ q ∈ tab, PySem.W.exmOne X.K (.ref q.1) c = some q.2)
      (hsu : ∀ (a : Addr) (oe : Obj) (cls : Value) (d : Option Addr) (pn : List (Addr × Obj)), Zc cls d oe → (∃ vs, oe.data = .fields vs) → PSs (X.suite a ((a, oe) :: pn)) (b₀ :: suite) (tSS X.K tab (some i) a cls d g)) (r : HdsM X hds cl) :
      HdsM X (.ExceptHandler (some (.Name x np)) (some nm) (b₀ :: suite) pos' :: hds) (⟨tab, some i, g⟩ :: cl)
section
variable {X : Cx} {E0 : XK} {body : List Stmt} {h₀ : ExceptHandler} {hds : List ExceptHandler} {cl : List Cm} {m : MS} {pos : Pos}
end
end Ly
set_option Elab.async false
set_option linter.all false
set_option maxRecDepth 100000
set_option maxHeartbeats 4000000
namespace Ly
open PySem PySem.Spec L2
open PyProof.Rows hiding St
abbrev Jp := Str ⊕ Nat
def jsW (ws : List V) : List Jp → Str → Prop
  | [], _ => True
  | .inl y :: r, acc => (acc ++ y).length ≤ sizeLine ∧ jsW ws r (acc ++ y)
  | .inr i :: r, acc => (∃ y : Str, ws[i]? = some (.str y) ∧ y.length ≤ sizeLine ∧ (acc ++ y).length ≤ sizeLine ∧ jsW ws r (acc ++ y)) ∨
      ∃ k : Int, ws[i]? = some (.int k) ∧ k.natAbs.log2 < 1920 ∧ (acc ++ Str.ofString (toString k)).length ≤ sizeLine ∧ jsW ws r (acc ++ Str.ofString (toString k))
def jsD (ds : List D) : List Jp → Str → Prop
  | [], _ => True
  | .inl y :: r, acc => (acc ++ y).length ≤ sizeLine ∧ jsD ds r (acc ++ y)
  | .inr i :: r, acc => (∃ y : Str, ds[i]? = some (.str y) ∧ y.length ≤ sizeLine ∧ (acc ++ y).length ≤ sizeLine ∧ jsD ds r (acc ++ y)) ∨
      ∃ k : Int, ds[i]? = some (.int k) ∧ k.natAbs.log2 < 1920 ∧ (acc ++ Str.ofString (toString k)).length ≤ sizeLine ∧ jsD ds r (acc ++ Str.ofString (toString k))
theorem jsD.w {K : PySem.W.Frag} {p : Nat → Addr} {n : Nat} {H : Hp} {ds : List D} {ws : List V} (r : Reps K p n H ds ws) : ∀ {ps : List Jp} {acc : Str}, jsD ds ps acc → jsW ws ps acc
  | [], _, _ => trivial
  | .inl y :: ps, acc, h => ⟨h.1, jsD.w r h.2⟩
  | .inr i :: ps, acc, h => by
    rcases h with ⟨y, e, h1, h2, h3⟩ | ⟨k, e, h1, h2, h3⟩
    · obtain ⟨v, ev, rv⟩ := r.get e
      cases rv
      exact .inl ⟨y, ev, h1, h2, jsD.w r h3⟩
    · obtain ⟨v, ev, rv⟩ := r.get e
      cases rv
      exact .inr ⟨k, ev, h1, h2, jsD.w r h3⟩
inductive JP (N : List Str) : List Expr → List Jp → Prop
  | nil : JP N [] []
  | str {y : Str} {j : Nat} {p : Pos} {es : List Expr} {ps : List Jp} (r : JP N es ps) : JP N (.Constant (.str y) j p :: es) (.inl y :: ps)
  | fmt {x : Str} {i : Nat} {p q : Pos} {es : List Expr} {ps : List Jp} (hN : N[i + 1]? = some x) (hd : (x == ("__debug__" : Str)) = false) (hcd : (x == ("__classdict__" : Str)) = false) (r : JP N es ps) : JP N (.FormattedValue (.Name x p) (-1) none q :: es) (.inr i :: ps)
section
variable {X : Cx} {N : List Str}
end
section
variable {P : Program} {w : World} {K : PySem.W.Frag} {mg : Str → Option Value} {base : Heap}
structure IniAt (K : PySem.W.Frag) (P : Program) (mg : Str → Option Value) (qual : Str) (st : Stmt) (N : List Str) (f D : Addr) (fd : FuncData) : Prop where
  ex : ∃ (oc : Value) (od : Option Addr) (kV doc pm : Value) (an : Option Addr) (cda cc : Addr) (ct : Value) (osl : Array (Option Value)), fd = PySem.W.ksFn "__init__" qual (defArgs st) (defBody st) (defScope st) .none kV doc pm an (.ref cda) ct cc ∧
    K.lookup f = some ⟨oc, od, .func fd, osl⟩ ∧ PySem.W.codeIn K (.ref cda) qual = true ∧ SupF K P mg f cc cda D fd "self"
  sc : (defScope st).isCoroutine = false ∧ (defScope st).isGenerator = false ∧ (defScope st).kind = .function ∧ (∀ x ∈ (defScope st).names, x.2 ≠ .cell) ∧ (∀ y ∈ N, (defScope st).names.lookup y = some .local) ∧
    (∀ y, ((defScope st).names.lookup y = some .cell ∨ (defScope st).names.lookup y = some .free) → y = "__class__") ∧ (defScope st).names.lookup ("super" : Str) = some .globalImplicit ∧ (defScope st).names.lookup ("__class__" : Str) = some .free
  nd : N.Nodup
end
theorem Reps.rev {K : PySem.W.Frag} {p : Nat → Addr} {n : Nat} {H : Hp} {ds : List D} {ws : List V} (r : Reps K p n H ds ws) : Reps K p n H ds.reverse ws.reverse := by
  induction ds generalizing ws with
  | nil => cases r; exact .nil
  | cons d ds ih => cases r with | cons r s => rw [List.reverse_cons, List.reverse_cons]; exact (ih s).append (.cons r .nil)
structure MkE (K : PySem.W.Frag) (C f D : Addr) (fs : List Str) : Prop where
  ox : OexC K C
  sup : SupC K C D
  no : ∀ x ∈ fs, PySem.W.findIn K (.ref C) x = some none
  ini : PySem.W.findIn K (.ref C) "__init__" = some (some (.ref f))
  ty : PySem.W.typeIn K (.ref f) = some (.type "function")
section
variable {X : Cx} {x : Str} {p pos pos' : Pos} {C f D : Addr} {fd : FuncData} {N fs : List Str} {ps : List Jp} {k : Nat} {E0 : XK} {e : Expr} {es : List Expr} {fl : ML}
end
end Ly
set_option Elab.async false
set_option linter.all false
set_option maxRecDepth 100000
namespace Ly
open PySem PySem.Spec L2
open PyProof.Rows hiding St
def dcVs (K : PySem.W.Frag) (a : Addr) : List Value := match K.lookup a with
  | some ⟨_, _, .dict es _, _⟩ => es.toList.map (·.val)
  | _ => []
def dcAt (K : PySem.W.Frag) (a : Addr) (i : Nat) : Addr := match (dcVs K a)[i]? with
  | some (.ref b) => b
  | _ => 0
def oV (K : PySem.W.Frag) (x : Str) : Option (List (Option V)) := match PySem.W.nsIn K mainGlobals x with
  | some (some u) => some [absV u]
  | _ => none
def oT (K : PySem.W.Frag) (a : Addr) : Option (List (Option V)) := match K.lookup a with
  | some ⟨.type c, _, .seq its _, _⟩ => (match decide (c = "tuple") with
    | true => some (its.toList.map absV)
    | false => none)
  | _ => none
def eqVs (a b : List Value) : Bool := decide (a = b)
section
variable {K : PySem.W.Frag} {a : Addr} {x : Str} {w : World} {mg : Str → Option Value} {h : Heap}
theorem oV_ok {c : Option V} (e : oV K x = some [c]) : ∃ u, PySem.W.nsIn K mainGlobals x = some (some u) ∧ absV u = c := by
  unfold oV at e
  split at e
  · rename_i u q
    exact ⟨u, q, by injection Option.some.inj e⟩
  · cases e
theorem oT_ok {L : List (Option V)} (e : oT K a = some L) : ∃ od its n sl, K.lookup a = some ⟨.type "tuple", od, .seq its n, sl⟩ ∧ its.toList.map absV = L := by
  unfold oT at e
  split at e
  · rename_i c od its n sl q
    split at e
    · rename_i hc
      have := of_decide_eq_true hc
      subst this
      exact ⟨od, its, n, sl, q, Option.some.inj e⟩
    · cases e
  · cases e
theorem dicW_look {ks : List Str} (e : He.dicW K a = some (He.keysIn w.params ks)) : ∃ es n, K.lookup a = some ⟨.type "dict", none, .dict es n, #[]⟩ ∧ (a == sysModules) = false ∧ es.toList.map He.keyOf = He.keysIn w.params ks ∧ dcVs K a = es.toList.map (·.val) := by
  unfold He.dicW at e
  split at e
  · rename_i c es n sl q
    split at e
    · rename_i hc
      obtain ⟨z1, z2⟩ := He.ba hc
      obtain ⟨z3, z4⟩ := He.ba z2
      have e1 : c = "dict" := of_decide_eq_true z1
      have e2 : sl = #[] := Array.isEmpty_iff.mp z3
      subst e1 e2
      refine ⟨es, n, q, ?_, Option.some.inj e, by unfold dcVs; rw [q]⟩
      cases y : a == sysModules with
      | false => rfl
      | true => rw [y] at z4; cases z4
    · cases e
  · cases e
end
abbrev AlA : Type := Bool × List (Option (List (Option (Str × Int)))) × List (Option (List (Option V))) × Bool
abbrev FnVC : Type := Option (Str × Str × Arguments × FuncBody × Scope × Addr × List Str × Value × Addr)
def fnObsC (K : PySem.W.Frag) (p : Str × Option Str) : FnVC := match K.lookup (He.fAd K p) with
  | some ⟨_, _, .func fd, _⟩ => some (fd.name, fd.qualname, fd.params, fd.body, fd.scope, fd.globals, fd.closure.map (·.1), fd.defaults, fd.builtins)
  | _ => none
def valC (d : He.FnD) : FnVC := some (d.name, d.qual, d.params, .stmts d.body, d.scope, mainGlobals, ["__class__"], .none, builtinsNs)
abbrev AlB : Type := Bool × List He.FnV × List FnVC
structure Lk where
  fa : List He.Fa
  fn : List He.FnD
  ts : List He.Tab
  xo : List ((PySem.W.Frag → Option (List (Option V))) × List (Option V))
  xb : List (PySem.W.Frag → Bool)
  fc : List He.FnD
def obsA (L : Lk) (K : PySem.W.Frag) : AlA := (L.fa.all fun f => f.ok K, L.ts.map fun t => He.dicW K (t.1 K), L.xo.map fun t => t.1 K, L.xb.all fun f => f K)
def obsB (L : Lk) (K : PySem.W.Frag) : AlB := ((L.fn.all fun d => (He.Fa.code d.at_ d.qual).ok K) && L.fc.all fun d => (He.Fa.code d.at_ d.qual).ok K, L.fn.map fun d => He.fnObs K d.at_, L.fc.map fun d => fnObsC K d.at_)
def valA (L : Lk) (w : World) : AlA := (true, L.ts.map fun t => some (He.keysIn w.params t.2), L.xo.map fun t => some t.2, true)
def valB (L : Lk) : AlB := (true, L.fn.map He.FnD.val, L.fc.map valC)
def SaysL (L : Lk) (w : World) (K : PySem.W.Frag) : Prop := obsA L K = valA L w ∧ obsB L K = valB L
def frL (g : Addr → Option Obj) (n : Nat) : PySem.W.Frag := He.frG g (mainGlobals :: cStatics :: List.range' 10 (n - 10))
def hookL (L : Lk) : PySem.W.Hook where
  α := AlA × AlB
  obs := fun s => (obsA L (frL s.heap.get? s.heap.objs.size), obsB L (frL s.heap.get? s.heap.objs.size))
  val := fun w => (valA L w, valB L)
  says := fun w h => ∃ K : PySem.W.Frag, K.In h ∧ SaysL L w K
  of := fun _ _ e => ⟨_, He.frG_in, congrArg (fun z : AlA × AlB => z.1) e, congrArg (fun z : AlA × AlB => z.2) e⟩
  keeps := fun _ _ _ ⟨K, hK, c⟩ k => ⟨K, PySem.W.Frag.In.keeps hK k, c⟩
noncomputable section
def obA (L : Lk) (s : PySem.W.SharedT) : AlA := obsA L (frL (HandSHeadRun.getT s) s.n)
def obB (L : Lk) (s : PySem.W.SharedT) : AlB := obsB L (frL (HandSHeadRun.getT s) s.n)
theorem obL_eq {L : Lk} (s : PySem.W.SharedT) : (obA L s, obB L s) = (hookL L).obs s.abs := by
  have e : HandSHeadRun.getT s = s.abs.heap.get? := funext (HandSHeadRun.getT_eq s)
  have n : s.abs.heap.objs.size = s.n := PySem.W.absHeap_size _ _ _
  show _ = (obsA L (frL s.abs.heap.get? s.abs.heap.objs.size), obsB L (frL s.abs.heap.get? s.abs.heap.objs.size))
  rw [n, ← e]; rfl
open HandSHeadRun PySem.W PySem.Calls in
def RunA (r : PySem.W.OpenRow) (q : Program) (L : Lk) (M : Nat) (loose : List Str) (w : World) : Prop :=
  ∀ os : OsState, (endF (stepQ (denQ tabQ) r.prog w) M r.prog w os).map (fun s => (looksF r.prog (boot_heap w.params) s.abs, HandSHeadRun.seenQ q loose (importedModules r.prog.main.body) (fun s => PySem.W.xlAt q [] s && PySem.W.recOk r.toRowW.records s) s.abs, obA L s)) = some (true, PySem.W.openGood q loose, valA L w)
open HandSHeadRun PySem.W PySem.Calls in
def RunB (r : PySem.W.OpenRow) (L : Lk) (M : Nat) (w : World) : Prop :=
  ∀ os : OsState, (endF (stepQ (denQ tabQ) r.prog w) M r.prog w os).map (obB L) = some (valB L)
theorem run_ab {r : PySem.W.OpenRow} {q : Program} {L : Lk} {M : Nat} {loose : List Str} {w : World} (a : RunA r q L M loose w) (b : RunB r L M w) : HandSHeadRun.RunEq r q (hookL L) (fun s => (obA L s, obB L s)) M loose w := by
  intro os
  obtain ⟨s, hs, e⟩ := Option.map_eq_some_iff.mp (a os)
  obtain ⟨s2, hs2, e2⟩ := Option.map_eq_some_iff.mp (b os)
  rw [hs] at hs2
  cases hs2
  obtain ⟨e3, e4⟩ := Prod.mk.inj e
  obtain ⟨e5, e6⟩ := Prod.mk.inj e4
  rw [hs]
  show some (_, _, obA L s, obB L s) = some (true, PySem.W.openGood q loose, valA L w, valB L)
  rw [e3, e5, e6, e2]
end
section
variable {L : Lk} {w : World} {K : PySem.W.Frag}
theorem SaysL.fact (c : SaysL L w K) (f : He.Fa) (i : Nat) (h : L.fa[i]? = some f := by rfl) : f.ok K = true :=
  List.all_eq_true.mp (show (L.fa.all fun f => f.ok K) = true from congrArg (fun z : AlA => z.1) c.1) f (List.mem_of_getElem? h)
theorem SaysL.def_ (c : SaysL L w K) (i : Nat) {d : He.FnD} (h : L.fn[i]? = some d := by rfl) :
    ∃ oc od osl kV doc pm an cdv ct, K.lookup (He.fAd K d.at_) = some ⟨oc, od, .func (PySem.W.fnOf d.name d.qual d.params d.body d.scope .none kV doc pm an cdv ct), osl⟩ ∧ PySem.W.codeIn K cdv d.qual = true := by
  have c2 : (L.fn.all fun d => (He.Fa.code d.at_ d.qual).ok K) = true := (Bool.and_eq_true_iff.mp (congrArg (fun z : AlB => z.1) c.2)).1
  have e : L.fn.map (fun d => He.fnObs K d.at_) = L.fn.map He.FnD.val := congrArg (fun z : AlB => z.2.1) c.2
  have e2 : (L.fn.map fun d => He.fnObs K d.at_)[i]? = (L.fn.map He.FnD.val)[i]? := by rw [e]
  rw [List.getElem?_map, List.getElem?_map, h] at e2
  exact He.fn_ok (Option.some.inj e2) (List.all_eq_true.mp c2 d (List.mem_of_getElem? h))
theorem SaysL.tab (c : SaysL L w K) (i : Nat) {t : He.Tab} (h : L.ts[i]? = some t := by rfl) : He.dicW K (t.1 K) = some (He.keysIn w.params t.2) := by
  have e : L.ts.map (fun t => He.dicW K (t.1 K)) = L.ts.map fun t => some (He.keysIn w.params t.2) := congrArg (fun z : AlA => z.2.1) c.1
  have e2 : (L.ts.map fun t => He.dicW K (t.1 K))[i]? = (L.ts.map fun t => some (He.keysIn w.params t.2))[i]? := by rw [e]
  rw [List.getElem?_map, List.getElem?_map, h] at e2
  exact Option.some.inj e2
theorem SaysL.val (c : SaysL L w K) (i : Nat) {t : (PySem.W.Frag → Option (List (Option V))) × List (Option V)} (h : L.xo[i]? = some t := by rfl) : t.1 K = some t.2 := by
  have e : L.xo.map (fun t => t.1 K) = L.xo.map fun t => some t.2 := congrArg (fun z : AlA => z.2.2.1) c.1
  have e2 : (L.xo.map fun t => t.1 K)[i]? = (L.xo.map fun t => some t.2)[i]? := by rw [e]
  rw [List.getElem?_map, List.getElem?_map, h] at e2
  exact Option.some.inj e2
theorem SaysL.chk (c : SaysL L w K) (i : Nat) {f : PySem.W.Frag → Bool} (h : L.xb[i]? = some f := by rfl) : f K = true := by
  have e : (L.xb.all fun f => f K) = true := congrArg (fun z : AlA => z.2.2.2) c.1
  exact List.all_eq_true.mp e f (List.mem_of_getElem? h)
end
end Ly
set_option Elab.async false
set_option linter.all false
set_option maxRecDepth 100000
set_option maxHeartbeats 4000000
namespace Ly
open PySem PySem.Spec L2
open PyProof.Rows hiding St
structure Er0 (K : PySem.W.Frag) (C : Addr) : Prop where
  ex : PySem.W.excIn K C He.veBase "ValueError.__new__" = true
  kp : PySem.W.keepIn K (.ref C) = true
  sb : PySem.W.subIn K (.ref C) (.type "BaseException") = some true
  ty : PySem.W.typeIn K (.ref C) = some (.type "type")
section
variable {P : Program} {w : World} {K : PySem.W.Frag} {mg : Str → Option Value} {base : Heap}
end
section
variable {X : Cx} {x : Str} {p pos pos' : Pos} {C : Addr} {fs : List Str} {ps : List Jp} {E0 : XK} {e : Expr} {es : List Expr} {fl : ML}
end
section
variable {K : PySem.W.Frag} {C D f c : Addr} {fs : List Str} {tab : TbH} {cs : List Addr} {x : Str}
open He (ba eqO_ok)
end
end Ly
set_option Elab.async false
set_option linter.all false
set_option maxRecDepth 100000
namespace Ly
open PySem PySem.Spec L2
open PyProof.Rows hiding St
structure Rgd (k : Nat) (A : Around) : Prop where
  room : Room k A
  gd : A.guards = some []
theorem Rgd.mono {j k : Nat} {A : Around} (r : Rgd k A) (h : j ≤ k) : Rgd j A := ⟨r.room.mono h, r.gd⟩
theorem Rgd.deeper {k : Nat} {A : Around} (r : Rgd (k + 1) A) (env : Env) : Rgd k (A.deeper env) := ⟨r.room.deeper env, r.gd⟩
def intsAt (S : Hs) : D → Option (List Int)
  | .ref i => match S[i]? with
    | some (.lst xs) => intsD xs
    | _ => none
  | _ => none
def nestAt (S : Hs) : List D → Option (List (List Int))
  | [] => some []
  | x :: r => match intsAt S x with
    | some a => match nestAt S r with
      | some b => some (a :: b)
      | none => none
    | none => none
def pdLs (ns : List Int) : PyData := .list (ns.map .int)
def pdLL (L : List (List Int)) : PyData := .list (L.map pdLs)
def bRepr : List D → Hs → R D
  | [.ref i], S => match S[i]? with
    | some (.lst xs) => match nestAt S xs with
      | some L => if (pdLL L).showable = true ∧ (pdLL L).shown.length ≤ sizeLine then .ok (.str (pdLL L).shown) S else .bad
      | none => .bad
    | _ => .bad
  | _, _ => .bad
inductive RowsV (K : PySem.W.Frag) (H : Hp) : List V → List (List Int) → Prop
  | nil : RowsV K H [] []
  | cons {a : Addr} {ns : List Int} {vs : List V} {L : List (List Int)} : SqL K H a (ns.map V.int) → RowsV K H vs L → RowsV K H (.ref a :: vs) (ns :: L)
theorem deep_ints : ∀ ns : List Int, PyData.depthAll (ns.map PyData.int) = 0
  | [] => rfl
  | n :: r => by
    show max (PyData.depth (.int n)) (PyData.depthAll (r.map PyData.int)) = 0
    rw [deep_ints r]; rfl
theorem deep_rows : ∀ L : List (List Int), PyData.depthAll (L.map pdLs) ≤ 1
  | [] => Nat.zero_le _
  | n :: r => by
    show max (PyData.depth (pdLs n)) (PyData.depthAll (r.map pdLs)) ≤ 1
    have h : PyData.depth (pdLs n) = 1 := by
      show PyData.depthAll (n.map PyData.int) + 1 = 1
      rw [deep_ints]
    rw [h]
    exact Nat.max_le.mpr ⟨Nat.le_refl _, deep_rows r⟩
theorem deep_LL (L : List (List Int)) : (pdLL L).depth ≤ 2 := by
  show PyData.depthAll (L.map pdLs) + 1 ≤ 2
  have := deep_rows L
  omega
theorem nod_ints : ∀ ns : List Int, PyData.hasDictAll (ns.map PyData.int) = false
  | [] => rfl
  | n :: r => by
    show (PyData.hasDict (.int n) || PyData.hasDictAll (r.map PyData.int)) = false
    rw [nod_ints r]; rfl
theorem nod_rows : ∀ L : List (List Int), PyData.hasDictAll (L.map pdLs) = false
  | [] => rfl
  | n :: r => by
    show (PyData.hasDict (pdLs n) || PyData.hasDictAll (r.map pdLs)) = false
    have h : PyData.hasDict (pdLs n) = false := nod_ints n
    rw [h, nod_rows r]; rfl
section
variable {X : Cx} {pins : List (Addr × Obj)} {σ : St} {H : Hp} {s : Shared} {a : Addr}
theorem reads_ints {h : Heap} : ∀ {ns : List Int} {us : List Value}, Vals (ns.map V.int) us → ∃ as, ReadsAll h us (ns.map PyData.int) as
  | [], _, .nil => ⟨_, .nil⟩
  | n :: r, _, .cons q t => by
    obtain ⟨u, rfl⟩ := q
    obtain ⟨as, h⟩ := reads_ints (h := h) t
    exact ⟨_, .cons (.int n u) h⟩
theorem reads_row (I : Inv X pins σ H s) {ns : List Int} (h : SqL X.K H a (ns.map V.int)) : ∃ as, Reads s.heap (.ref a) (pdLs ns) as := by
  obtain ⟨its, rv, ⟨o, n, e1, e2, e3, e4⟩, _⟩ := I.list h
  obtain ⟨as, q⟩ := reads_ints (h := s.heap) rv
  exact ⟨_, .list e1 e2 e4 (by simpa using q)⟩
theorem reads_rows (I : Inv X pins σ H s) : ∀ {L : List (List Int)} {vs : List V} {us : List Value}, RowsV X.K H vs L → Vals vs us → ∃ as, ReadsAll s.heap us (L.map pdLs) as
  | [], _, _, .nil, .nil => ⟨_, .nil⟩
  | n :: r, _, _, .cons q t, .cons e es => by
    cases e
    obtain ⟨as, h1⟩ := reads_row I q
    obtain ⟨bs, h2⟩ := reads_rows I t es
    exact ⟨_, .cons h1 h2⟩
abbrev rRepr (K : PySem.W.Frag) : List V → Hp → VK → Prop := fun xs H Q => ∃ a vs L, xs = [V.ref a] ∧ SqL K H a vs ∧ RowsV K H vs L ∧ (pdLL L).showable = true ∧ (pdLL L).shown.length ≤ sizeLine ∧ Q (V.str (pdLL L).shown) H
theorem call_reprLL (hg : X.A.guards = some []) (hu : X.A.units + 10 < cLine) : CallR X (.builtin "repr") (rRepr X.K) := by
  intro pins s σ H xs us Q I r h
  obtain ⟨a, vs, L, rfl, hs, hn, h1, h2, q⟩ := h
  cases r with
  | cons r0 rs =>
  cases rs
  cases r0
  obtain ⟨its, rv, ⟨o, n, e1, e2, e3, e4⟩, _⟩ := I.list hs
  obtain ⟨as, hr⟩ := reads_rows I hn rv
  refine repr_of_reads' (h₀ := s.heap) (d := pdLL L) (.list e1 e2 e4 (by simpa using hr)) h1 (PyData.noDict_hsm (nod_rows L)) hg ?_ (fun _ _ e => e) (fun h' u tk hk => ⟨.str _, H, I.kept hk, ⟨u, rfl⟩, q⟩) h2
  have := deep_LL L
  omega
end
section
variable {K : PySem.W.Frag} {E : St → XK} {X : Cx} {p : Nat → Addr} {S : Hs} {H : Hp}
theorem row_V (R : Real K p S H) {x : D} {v : V} {ns : List Int} (r : Rep K p S.length H x v) (e : intsAt S x = some ns) : ∃ a, v = .ref a ∧ SqL K H a (ns.map V.int) := by
  unfold intsAt at e
  split at e
  · split at e
    · rename_i i xs q
      cases r
      obtain ⟨ks, h1, h2⟩ := R.ob _ _ q
      rw [ints_V h2 e] at h1
      exact ⟨_, rfl, SqL.of h1⟩
    · cases e
  · cases e
theorem rows_V (R : Real K p S H) : ∀ {xs : List D} {vs : List V} {L : List (List Int)}, Reps K p S.length H xs vs → nestAt S xs = some L → RowsV K H vs L
  | [], _, _, .nil, e => by cases e; exact .nil
  | x :: r, _, _, .cons q t, e => by
    unfold nestAt at e
    split at e
    · rename_i ns e1
      split at e
      · rename_i L e2
        cases e
        obtain ⟨a, rfl, h⟩ := row_V R q e1
        exact .cons h (rows_V R t e2)
      · cases e
    · cases e
theorem ok_repr : CallOk K E (rRepr K) bRepr := by
  intro p S H ds vs Q R r h
  unfold bRepr at h
  split at h
  · split at h
    · rename_i i xs q
      split at h
      · rename_i L e
        split at h
        · rename_i hc
          cases r with
          | cons r0 rs =>
          cases rs
          cases r0
          obtain ⟨ks, h1, h2⟩ := R.ob _ _ q
          exact ⟨_, _, _, rfl, SqL.of h1, rows_V R h2 e, hc.1, hc.2, h.val R (.str _)⟩
        · exact h.elim
      · exact h.elim
    · exact h.elim
  · exact h.elim
end
section
variable {X : Cx} {E : St → XK} {e : Expr} {f : ML} {p pos : Pos} {k : Nat}
theorem c_repr (hr : Rgd k X.A) (hm : X.mg "repr" = none) (ha : LM X E [e] f) (hg : Gl X "repr" := by rfl) (he : starEach [e] X.env = (false, eval e X.env) :: starEach [] X.env := by rfl) : EM X E (.Call (.Name "repr" p) [e] [] pos) (mCall bRepr f) :=
  e_callB (call_reprLL hr.gd (by have := hr.room.un; omega)) ok_repr hg hm (by decide +kernel) ha (by decide) (by decide) he (by rfl)
end
end Ly
set_option Elab.async false
set_option linter.all false
set_option maxRecDepth 100000
namespace Ly
open PySem PySem.Spec L2
open PyProof.Rows hiding St
def scrO (vs : List Value) (ns : List Int) : HO := .frz { cls := .type "list", data := .seq vs.toArray } (.lst (ns.map V.int))
def scrH (K : PySem.W.Frag) (a : Addr) (vs : List Value) (ns : List Int) : Hp := fun b => if b = a ∧ K.lookup a = none then some (scrO vs ns) else none
section
variable {P : Program} {w : World} {K : PySem.W.Frag} {mg mb : Str → Option Value} {a b : Addr} {s₁ : Shared} {vs : List Value} {ns : List Int}
theorem scrH_some {u : HO} (h : scrH K a vs ns b = some u) : b = a ∧ K.lookup a = none ∧ u = scrO vs ns := by
  unfold scrH at h
  split at h
  · rename_i c
    exact ⟨c.1, c.2, (Option.some.inj h).symm⟩
  · cases h
theorem scrH_only : Only (scrH K a vs ns) := fun b => by
  cases q : scrH K a vs ns b with
  | none => exact .inl rfl
  | some u => exact .inr ⟨_, _, by rw [(scrH_some q).2.2]; rfl⟩
theorem scrH_sq (KX : K.In s₁.heap) (ha : s₁.heap.get? a = some { cls := .type "list", data := .seq vs.toArray }) (hi : IntsAre vs ns) (hl : ns.length ≤ sizeLine) : SqL K (scrH K a vs ns) a (ns.map V.int) := by
  cases q : K.lookup a with
  | none => exact .inl (.inr ⟨{ cls := .type "list", data := .seq vs.toArray }, if_pos ⟨rfl, q⟩⟩)
  | some o =>
    have e := KX a o q
    rw [ha] at e
    cases e
    have hz : vs.toArray.size ≤ sizeLine := by rw [List.size_toArray, hi.length]; exact hl
    exact .inr ⟨_, vs.toArray, _, q, rfl, rfl, rfl, hz, by simpa using vals_ints hi⟩
theorem scrH_ok (ha : s₁.heap.get? a = some { cls := .type "list", data := .seq vs.toArray }) (hi : IntsAre vs ns) (hl : ns.length ≤ sizeLine) : L2.HOk P w (scrH K a vs ns) s₁.heap := fun b u q => by
  obtain ⟨rfl, _, rfl⟩ := scrH_some q
  exact ⟨ha, by rw [List.length_map]; exact hl, vs, _, vals_ints hi, ha⟩
theorem scrH_env (KX : K.In s₁.heap) (hns : s₁.heap.Ns mainGlobals mg) (hb : s₁.heap.Ns builtinsNs mb) (hbb : ∀ x : Str, x ≠ "__name__" → mb x = bootBuiltins x) (hlim : s₁.heap.NoLimit) (hg : s₁.gens = #[])
    (ha : s₁.heap.get? a = some { cls := .type "list", data := .seq vs.toArray }) (hi : IntsAre vs ns) (hl : ns.length ≤ sizeLine) :
    ∃ base : Heap, K.In base ∧ base.Ns mainGlobals mg ∧ Env0 P w K mg base callerA [] s₁ (scrH K a vs ns) := by
  have kin : K.In (hidT s₁.heap (scrH K a vs ns)) := fun b o e => hidT_get (KX b o e) (by
    cases q : scrH K a vs ns b with
    | none => rfl
    | some u =>
      obtain ⟨rfl, q2, _⟩ := scrH_some q
      rw [q2] at e; cases e)
  have space : ∀ {b : Addr} {m : Str → Option Value}, s₁.heap.Ns b m → (hidT s₁.heap (scrH K a vs ns)).Ns b m := by
    rintro b m ⟨o, es, n, e, d, r⟩
    refine ⟨o, es, n, hidT_get e ?_, d, r⟩
    cases q : scrH K a vs ns b with
    | none => rfl
    | some u =>
      obtain ⟨rfl, _, _⟩ := scrH_some q
      rw [ha] at e
      cases e
      cases d
  obtain ⟨mc, l1, l2⟩ := hlim
  refine ⟨_, kin, space hns, rfl, ⟨kin, space hns, ⟨mb, space hb, hbb⟩, ⟨mc, space l1, l2⟩⟩, fun b o e => of_hidT e, Nat.le_of_eq (hidT_size _ _), trivial, fun b h => ?_, scrH_ok ha hi hl, .of_eq hg⟩
  cases h
theorem law_callR {CX : CXT} {k : Nat} {fa : Addr} {fd : FuncData} {x : Str} {sp : Sp}
    (KX : K.In s₁.heap) (hns : s₁.heap.Ns mainGlobals mg) (hb : s₁.heap.Ns builtinsNs mb) (hbb : ∀ x : Str, x ≠ "__name__" → mb x = bootBuiltins x) (hlim : s₁.heap.NoLimit) (hg : s₁.gens = #[])
    (ha : s₁.heap.get? a = some { cls := .type "list", data := .seq vs.toArray }) (hi : IntsAre vs ns) (hl : ns.length ≤ sizeLine) (hr : Room k callerA)
    (F : ∀ base : Heap, K.In base → base.Ns mainGlobals mg → Ly.FnR P w K mg base CX (Rgd k) fa fd [x] sp) (hbind : ∀ (s : Shared) (u : Value), BindsTo s fd ⟨[u], []⟩ [(x, u)])
    (hsp : ∀ H : Hp, Only H → SqL K H a (ns.map V.int) → sp [.ref a] H (fun v _ => v = .bl true) fun _ _ _ => False)
    (hCX : ∀ H e s', CX [] H s₁ (fun _ _ _ => False) e s' → False) :
    codeAny (model P w) callerA (.call (.ref fa) ⟨[.ref a], []⟩) (fun r s' => r = .ok (.ret (.bool true)) ∧ OldK s₁.heap s'.heap ∧ s'.os = s₁.os ∧ AllBare s'.gens) s₁ := by
  obtain ⟨base, h1, h2, e0⟩ := scrH_env (P := P) (w := w) KX hns hb hbb hlim hg ha hi hl
  refine codeAny_mono ((F base h1 h2).run callerA [] s₁ (scrH K a vs ns) ⟨[.ref a], []⟩ [.ref a] [.ref a] _ _ ⟨hr, rfl⟩ e0 (hbind s₁ (.ref a)) (.cons rfl .nil) (hsp _ scrH_only (scrH_sq KX ha hi hl))) ?_
  rintro (e | fl) s' h
  · exact (hCX _ e s' h).elim
  · cases fl with
    | next => exact h.elim
    | brk => exact h.elim
    | cont => exact h.elim
    | ret u =>
      obtain ⟨v, H', os, bare, un, hok, r, q⟩ := h
      have q : v = .bl true := q
      subst q
      obtain rfl : u = Value.bool true := r
      refine ⟨rfl, OldK.of_keep fun b o e => ?_, os, bare⟩
      cases z : scrH K a vs ns b with
      | none => exact un.keep b o e z (fun m => by cases m) (fun m => by cases m)
      | some v =>
        obtain ⟨_, _, rfl⟩ := scrH_some z
        have z2 := un.frzs b _ _ z
        obtain ⟨y1, _⟩ := (scrH_ok (P := P) (w := w) ha hi hl) b _ z
        obtain ⟨y2, _⟩ := hok b _ z2
        rw [e] at y1
        cases y1
        exact y2
end
theorem walk_ofR {l : PySem.W.OpenLaw} {n k : Nat} {q : Program} {loose : List Str} {XP : (Str → Option Value) → Heap → Prop} {YP : World → Heap → Prop} {d : DefRec} {CX : World → CXT} {x : Str}
    (hn : l.most = some n) (hn2 : n ≤ sizeLine) (hdf : d.params.defaults = []) (hr : Room k callerA)
    (F : ∀ (w : World) (mg : Str → Option Value) (fa : Addr) (h : Heap), YP w h → h.Ns mainGlobals mg → mg d.name = some (.ref fa) →
      ∃ (K : PySem.W.Frag) (fd : FuncData) (sp : Sp), K.In h ∧ (∀ (s : Shared) (u : Value), BindsTo s fd ⟨[u], []⟩ [(x, u)]) ∧
        (∀ (H : Hp) (a : Addr) (ns : List Int), ns.length ≤ n → (∀ z ∈ ns, Builtin.Int.intBits z ≤ 1048576) → Only H → SqL K H a (ns.map V.int) → sp [.ref a] H (fun v _ => v = .bl true) fun _ _ _ => False) ∧
        ∀ base : Heap, K.In base → base.Ns mainGlobals mg → Ly.FnR l.prog w K mg base (CX w) (Rgd k) fa fd [x] sp)
    (hCX : ∀ (w : World) (H : Hp) (s : Shared) (e : Value) (s' : Shared), CX w [] H s (fun _ _ _ => False) e s' → False) :
    PySem.W.WalkO q loose XP YP l.row.toRowW d [] (fun f vs => PySem.call f vs) := by
  refine Att.attach_callB hn hdf fun w s₀ s₁ mg mb fa o pm cd doc a vs ns G Y ho hd hcd hmg hobj hints hlen hbits hg => ?_
  obtain ⟨K, fd, sp, KX, hb, hsp, hF⟩ := F w mg fa _ Y G.T.g hmg
  exact law_callR KX G.T.g G.T.b G.T.builtins G.T.nolimit hg hobj hints (Nat.le_trans hlen hn2) hr hF hb (fun H hO hS => hsp H a ns hlen hbits hO hS) fun H e s' => hCX w H s₁ e s'
end Ly
set_option Elab.async false
set_option linter.all false
set_option maxRecDepth 100000
namespace Ly
open PySem PySem.Spec L2
open PyProof.Rows hiding St
local macro_rules | `(tactic| simp_arith [$ls,*]) => `(tactic| simp only [Ly.line_le, Ly.atX_no, Ly.v_ok, Ly.v_bad, Ly.v_bind, Ly.k_bd, Ly.v_at, Ly.v_bin, Ly.k_bi, Ly.k_bi2, Ly.v_var, Ly.v_c, Ly.v_un, Ly.k_un, Ly.v_if, Ly.k_ife, Ly.v_and, Ly.k_and, Ly.k_and2, Ly.v_or, Ly.k_or, Ly.k_or2, Ly.v_tup, Ly.k_tup, Ly.v_lst, Ly.k_lst, Ly.v_call, Ly.k_ca, Ly.v_fn, Ly.k_fn, Ly.v_bm, Ly.k_bm, Ly.k_bm2, Ly.v_sl, Ly.k_sl, Ly.k_sl2, Ly.k_sl3, Ly.v_ixK, Ly.k_ixk, Ly.v_inK, Ly.k_ink, Ly.v_notinK, Ly.k_nink, Ly.v_getK2, Ly.k_gk2, Ly.k_gk, Ly.v_get2, Ly.k_g2, Ly.k_g22, Ly.k_g23, Ly.v_nil, Ly.v_cons, Ly.k_co, Ly.k_co2, Ly.v_no, Ly.v_some, Ly.k_so, Ly.k_cm, Ly.v_cmp, Ly.v_tru, Ly.k_tr, Ly.v_notB, Ly.k_no, Ly.v_andB, Ly.k_an, Ly.v_orB, Ly.k_orb, Ly.v_yes, Ly.v_inKB, Ly.k_inkB, Ly.v_notinKB, Ly.k_ninkB, Ly.v_set, Ly.k_st, Ly.v_expr, Ly.k_ex, Ly.v_ret, Ly.k_re, Ly.v_retN, Ly.v_pass, Ly.v_brk, Ly.v_cnt, Ly.v_seq, Ly.k_sq_nx, Ly.k_sq_rt, Ly.k_sq_bk, Ly.k_sq_ct, Ly.v_ifS, Ly.k_ifs, Ly.v_asg, Ly.k_as, Ly.k_as2, Ly.v_aug, Ly.k_au, Ly.v_for, Ly.k_fo, Ly.v_it, Ly.k_it, Ly.k_ij, Ly.v_rng1, Ly.v_rng2, Ly.v_enum, Ly.v_zip, Ly.v_ez, Ly.v_gN, Ly.v_gsN, Ly.v_gsC, Ly.k_gc, Ly.v_gT, Ly.v_gTw, Ly.v_gSb, Ly.k_gsb, Ly.k_gsb2, Ly.k_gsb3, Ly.k_en_rt, Ly.k_en_nx, Ly.k_tu_nx, Ly.k_tu_ct, Ly.k_tu_bk, Ly.k_tu_rt, Ly.v_lc, Ly.k_lc, Ly.v_augI, Ly.k_ag, Ly.k_ag2, Ly.k_ag3, Ly.k_ag4, Ly.k_ag5, Ly.v_del, Ly.k_dl, Ly.k_dl2, Ly.v_setd, Ly.v_pop2, Ly.k_d3, Ly.k_d32, Ly.k_d33, Ly.v_get1, Ly.k_g1, Ly.k_g12, Ly.v_rg1, Ly.k_rg, Ly.v_rg2, Ly.k_rg2, Ly.k_rg22, Ly.v_dicK, Ly.v_dicT, Ly.v_dc, Ly.k_dc, List.getElem?_cons_zero, List.getElem?_cons_succ, List.set_cons_zero, List.set_cons_succ, List.length_cons, List.length_nil, List.map_cons, List.map_nil, List.cons_append, List.nil_append, List.replicate, if_true, if_false, Bool.false_eq_true, Bool.not_true, Bool.not_false, Bool.true_and, Bool.false_and, decide_true, decide_false, decide_eq_true_eq, Nat.zero_add, Nat.reduceAdd, Nat.reduceLeDiff, true_and, and_true, $ls,*])
def b_next : MS := (mSeq (mAugI oAddI (mVar 0) (mC (.str "at")) (mC (.int 1)))
    (mSeq (mIfS (mCmp oGt (mBin oIx (mVar 0) (mC (.str "at"))) (mCall bLen (lCons (mBin oIx (mVar 0) (mC (.str "draws"))) lNil))) (mRet (mC (.int 0))) mPass)
    (mRet (mBin oMod (mCall bInt (lCons (mBin oIx (mBin oIx (mVar 0) (mC (.str "draws"))) (mBin oSub (mBin oIx (mVar 0) (mC (.str "at"))) (mC (.int 1)))) lNil)) (mVar 1)))))
def m_next : MD := mDef 2 0 b_next
def nxK (j : Nat) (a : Int) : List (Key × D) := [(.inr "draws", .ref j), (.inr "at", .int a)]
structure Nxt (S : Hs) (i j : Nat) (row : List Int) (a : Int) : Prop where
  d : S[i]? = some (.dic (nxK j a))
  r : S[j]? = some (.lst (row.map D.int))
  ne : i ≠ j
  nn : 0 ≤ a
def NxtA (S : Hs) (i j : Nat) (row : List Int) : Prop := ∃ a, Nxt S i j row a
theorem key_str {x : Str} : (D.str x).key = some (.inr x) := nr rfl
theorem key_int {x : Int} : (D.int x).key = some (.inl x) := nr rfl
theorem nxK_at {j : Nat} {a : Int} : getK (nxK j a) (.inr "at") = some (.int a) := by simp [getK, nxK, ofString_inj]
theorem nxK_draws {j : Nat} {a : Int} : getK (nxK j a) (.inr "draws") = some (.ref j) := by simp [getK, nxK]
theorem nxK_set {j : Nat} {a b : Int} : setK (nxK j a) (.inr "at") (.int b) = nxK j b := by simp [setK, nxK, ofString_inj]
theorem oIx_dic {S : Hs} {i : Nat} {kvs : List (Key × D)} {y d : D} {k : Key} (h : S[i]? = some (.dic kvs)) (hk : y.key = some k) (hg : getK kvs k = some d) : oIx (.ref i) y S = .ok d S := by
  simp [oIx, h, dGet, hk, hg]
theorem dGet_dic {S : Hs} {i : Nat} {kvs : List (Key × D)} {y : D} {k : Key} (h : S[i]? = some (.dic kvs)) (hk : y.key = some k) : dGet (.ref i) y S = some (getK kvs k) := by
  simp [h, dGet, hk]
theorem oSet_dic {S : Hs} {i : Nat} {kvs : List (Key × D)} {y d : D} {k : Key} (h : S[i]? = some (.dic kvs)) (hk : y.key = some k) (hl : kvs.length < sizeLine) : oSet (.ref i) y d S = .ok () (S.set i (.dic (setK kvs k d))) := by
  simp [oSet, h, hk, hl]
theorem isDic_dic {S : Hs} {i : Nat} {kvs : List (Key × D)} (h : S[i]? = some (.dic kvs)) : isDic (.ref i) S = true := by simp [isDic, h]
theorem bLen_lst {S : Hs} {i : Nat} {ds : List D} (h : S[i]? = some (.lst ds)) : bLen [.ref i] S = .ok (.int ds.length) S := by simp [bLen, lenD, h]
theorem bLen_tup {S : Hs} {ds : List D} : bLen [.tup ds] S = .ok (.int ds.length) S := nr rfl
theorem oIx_lst {S : Hs} {i : Nat} {ds : List D} {k : Int} {d : D} (h : S[i]? = some (.lst ds)) (h0 : 0 ≤ k) (h1 : k < (ds.length : Int)) (hd : ds[k.toNat]? = some d) : oIx (.ref i) (.int k) S = .ok d S :=
  oIx_seq (by simp [seqD, h]) h0 h1 hd
theorem oGt_int {a b : Int} {S : Hs} : oGt (.int a) (.int b) S = .ok (.bl (decide (b < a))) S := nr rfl
theorem oGe_int {a b : Int} {S : Hs} : oGe (.int a) (.int b) S = .ok (.bl (decide (b ≤ a))) S := nr rfl
theorem oLe_int {a b : Int} {S : Hs} : oLe (.int a) (.int b) S = .ok (.bl (decide (a ≤ b))) S := nr rfl
theorem bInt_int {a : Int} {S : Hs} : bInt [.int a] S = .ok (.int a) S := nr rfl
theorem oAddI_int {a b : Int} {S : Hs} : oAddI (.int a) (.int b) S = .ok (.int (a + b)) S := nr rfl
theorem oMod_int {a b : Int} {S : Hs} (h : 0 < b) : oMod (.int a) (.int b) S = .ok (.int (a % b)) S := by simp [oMod, h]
theorem next_ok {S : Hs} {i j : Nat} {row : List Int} {many : Int} (h : NxtA S i j row) (hm : 0 < many) :
    Wp NoX (m_next [.ref i, .int many] S) fun v S' => ∃ k, v = .int k ∧ 0 ≤ k ∧ k < many ∧ NxtA S' i j row ∧ Kp [i] S S' := by
  obtain ⟨a, h⟩ := h
  refine wp_def0 rfl ?_
  unfold b_next
  have hd := h.d
  have hd2 : (S.set i (.dic (nxK j (a + 1))))[i]? = some (.dic (nxK j (a + 1))) := get_put hd
  have hr2 : (S.set i (.dic (nxK j (a + 1))))[j]? = some (.lst (row.map D.int)) := by rw [List.getElem?_set_ne h.ne]; exact h.r
  have nn := h.nn
  have hK : Kp [i] S (S.set i (.dic (nxK j (a + 1)))) := Kp.set (by simp)
  have hN : NxtA (S.set i (.dic (nxK j (a + 1)))) i j row := ⟨a + 1, hd2, hr2, h.ne, by omega⟩
  simp_arith [dGet_dic hd key_str, nxK_at, oAddI_int, isDic_dic hd, oSet_dic hd key_str (show (nxK j a).length < sizeLine from (by decide : (2:Nat) < sizeLine)), nxK_set, oIx_dic hd2 key_str nxK_at, oIx_dic hd2 key_str nxK_draws, bLen_lst hr2, oGt_int]
  by_cases hl : ((row.map D.int).length : Int) < a + 1
  · simp_arith [hl]
    exact ⟨0, rfl, by omega, hm, hN, hK⟩
  · have hx : oIx (.ref j) (.int (a + 1 - 1)) (S.set i (.dic (nxK j (a + 1)))) = .ok (.int (row.getD a.toNat 0)) (S.set i (.dic (nxK j (a + 1)))) := by
      simp only [List.length_map] at hl
      refine oIx_lst hr2 (by omega) (by simp; omega) ?_
      have e : (a + 1 - 1).toNat = a.toNat := by omega
      have : a.toNat < row.length := by omega
      rw [e]; simp [List.getD, List.getElem?_eq_getElem this]
    simp_arith [hl, oIx_dic hd2 key_str nxK_draws, oIx_dic hd2 key_str nxK_at, oSub_int, hx, bInt_int, oMod_int hm]
    exact ⟨_, rfl, Int.emod_nonneg _ (by omega), Int.emod_lt_of_pos _ hm, hN, hK⟩
def lb_dr0 : MS := (mIfS (mCmp oGt (mVar 6) (mC (.int 0))) (mSeq (mExpr (mBM "list" oAppend (mVar 2) (lCons (mBin oMod (mCall bInt (lCons (mVar 6) lNil)) (mC (.int 997))) lNil)))
    (mSet 6 (mBin oFdiv (mVar 6) (mC (.int 997))))) mPass)
noncomputable def lb_dr1 : MS := (mSeq (mSet 5 (mCall bAbs (lCons (mCall bInt (lCons (mBin oIx (mVar 0) (mVar 4)) lNil)) lNil)))
    (mSeq (mSet 3 (mBin oMod (mCall bInt (lCons (mBin oAdd (mBin oAdd (mBin oMul (mVar 3) (mC (.int 48271))) (mBin oMod (mVar 5) (mC (.int 1000003)))) (mVar 4)) lNil)) (mC (.int 65537))))
    (mSeq (mSet 6 (mC (.int 0)))
    (mSeq (mIfS (mCmp oGe (mVar 5) (mBin oPow (mC (.int 10)) (mC (.int 18)))) (mSet 6 (mVar 5)) (mSeq (mExpr (mBM "list" oAppend (mVar 2) (lCons (mBin oMod (mCall bInt (lCons (mVar 5) lNil)) (mC (.int 997))) lNil)))
    (mExpr (mBM "list" oAppend (mVar 2) (lCons (mBin oMod (mBin oMod (mCall bInt (lCons (mBin oAdd (mBin oMul (mVar 3) (mC (.int 69621))) (mC (.int 5))) lNil)) (mC (.int 65521))) (mC (.int 997))) lNil)))))
    (mFor (mRng1 (lCons (mC (.int 60)) lNil)) (gN 7) lb_dr0)))))
noncomputable def lb_dr2 : MS := (mSeq (mSet 3 (mBin oMod (mCall bInt (lCons (mBin oAdd (mBin oAdd (mBin oMul (mVar 3) (mC (.int 16807))) (mVar 4)) (mC (.int 1))) lNil)) (mC (.int 65537))))
    (mExpr (mBM "list" oAppend (mVar 2) (lCons (mBin oMod (mCall bInt (lCons (mVar 3) lNil)) (mC (.int 997))) lNil))))
noncomputable def b_draws : MS := (mSeq (mSet 2 (mLst lNil))
    (mSeq (mSet 3 (mC (.int 7)))
    (mSeq (mFor (mRng1 (lCons (mCall bLen (lCons (mVar 0) lNil)) lNil)) (gN 4) lb_dr1)
    (mSeq (mFor (mRng1 (lCons (mVar 1) lNil)) (gN 4) lb_dr2)
    (mRet (mSl (mVar 2) oNo (oSome (mVar 1))))))))
def OutL (S0 : Hs) (q n : Nat) (S : Hs) : Prop := ∃ row : List Int, S[q]? = some (.lst (row.map D.int)) ∧ row.length ≤ n ∧ Kp [] S0 S ∧ S0.length ≤ q
theorem hasTy_lst {S : Hs} {i : Nat} {ds : List D} (h : S[i]? = some (.lst ds)) : hasTy "list" (.ref i) S = true := by simp [hasTy, h]
theorem oAppend_lst {S : Hs} {i : Nat} {ds : List D} {d : D} (h : S[i]? = some (.lst ds)) (hl : ds.length < sizeLine) : oAppend (.ref i) [d] S = .ok .non (S.set i (.lst (ds ++ [d]))) := by simp [oAppend, h, hl]
theorem OutL.push {S0 S : Hs} {q n : Nat} {row : List Int} {v : Int} (h : S[q]? = some (.lst (row.map D.int))) (hl : row.length ≤ n) (k : Kp [] S0 S) (hq : S0.length ≤ q) : OutL S0 q (n + 1) (S.set q (.lst (row.map D.int ++ [.int v]))) :=
  ⟨row ++ [v], by simp [get_put h], by simp; omega, k.setNew hq, hq⟩
theorem OutL.mono {S0 S : Hs} {q n m : Nat} (h : OutL S0 q n S) (hm : n ≤ m) : OutL S0 q m S := by
  obtain ⟨row, a, b, c, d⟩ := h; exact ⟨row, a, by omega, c, d⟩
theorem oFdiv_int {a b : Int} {S : Hs} (h : 0 < b) (h2 : b.natAbs.log2 < 9000) : oFdiv (.int a) (.int b) S = .ok (.int (a / b)) S := by simp [oFdiv, h, h2]
theorem oMul_int {a b : Int} {S : Hs} (h : IntMulOk a b) : oMul (.int a) (.int b) S = .ok (.int (a * b)) S := by simp [oMul, h]
theorem bAbs_int {a : Int} {S : Hs} : bAbs [.int a] S = .ok (.int (if a < 0 then -a else a)) S := nr rfl
theorem dr0_ok {S0 : Hs} {q n : Nat} {x o1 o3 o4 o5 o7 : Option D} {rest : Int} {S : Hs} (hn : n ≤ 100000) (h : OutL S0 q n S) :
    Wp NoX (fLoop (.rng 0 60) (gN 7) lb_dr0 0 [x, o1, some (.ref q), o3, o4, o5, some (.int rest), o7] S) fun r S' => ∃ o6 o7, r = .nx [x, o1, some (.ref q), o3, o4, o5, o6, o7] ∧ OutL S0 q (n + 60) S' := by
  refine wp_rng (fun k l S' => ∃ (rest : Int) (o7 : Option D), l = [x, o1, some (.ref q), o3, o4, o5, some (.int rest), o7] ∧ OutL S0 q (n + k) S') ⟨rest, o7, rfl, h⟩ ?_ ?_
  · rintro k l S' hk ⟨rest, o7, rfl, h⟩
    unfold lb_dr0
    simp_arith [oGt_int]
    obtain ⟨row, h1, h2, h3, h4⟩ := h
    have hb : (row.map D.int).length < sizeLine := by simp only [List.length_map]; exact line_big (by omega)
    by_cases h0 : 0 < rest
    · simp_arith [h0, hasTy_lst h1, bInt_int, oMod_int (show (0:Int) < 997 by decide), oAppend_lst h1 hb, oFdiv_int (show (0:Int) < 997 by decide) (show Nat.log2 997 < 9000 by decide)]
      exact ⟨_, _, rfl, OutL.push h1 h2 h3 h4⟩
    · simp_arith [h0]
      exact ⟨_, _, rfl, row, h1, by omega, h3, h4⟩
  · rintro l S' ⟨rest, o7, rfl, h⟩
    exact ⟨_, _, rfl, h⟩
theorem dr1_ok {S0 : Hs} {q : Nat} {x : D} {o1 : Option D} {ns : List Int} (hx : seqD x S0 = some (ns.map D.int)) (k : Nat) (hk : k < ns.length) (hn : ns.length ≤ 63) {l : Ls} {S : Hs}
    (h : (∃ (mixed : Int) (o4 o5 o6 o7 : Option D), l = [some x, o1, some (.ref q), some (.int mixed), o4, o5, o6, o7]) ∧ OutL S0 q (62 * k) S) :
    Wp NoX (lb_dr1 (l.set 4 (some (.int (0 + k)))) S) fun r S' => ∃ l', r = .nx l' ∧ (∃ (mixed : Int) (o4 o5 o6 o7 : Option D), l' = [some x, o1, some (.ref q), some (.int mixed), o4, o5, o6, o7]) ∧ OutL S0 q (62 * (k + 1)) S' := by
  obtain ⟨⟨mixed, o4, o5, o6, o7, rfl⟩, hO⟩ := h
  obtain ⟨row, h1, h2, h3, h4⟩ := id hO
  have hxS : seqD x S = some (ns.map D.int) := by
    unfold seqD at hx ⊢
    split at hx
    · split at hx <;> first | (rename_i z; rw [h3.get z (by simp)]; exact hx) | cases hx
    · exact hx
    · cases hx
  have hix : oIx x (.int (0 + (k : Int))) S = .ok (.int ns[k]) S := oIx_seq hxS (by omega) (by simp; omega) (by simp [List.getElem?_eq_getElem hk])
  have hb : (row.map D.int).length < sizeLine := by simp only [List.length_map]; exact line_big (by omega)
  have m1 : ∀ c : Int, IntMulOk c 48271 := fun c => mulok_r (by decide)
  have m2 : ∀ c : Int, IntMulOk c 69621 := fun c => mulok_r (by decide)
  unfold lb_dr1
  simp_arith [hix, bInt_int, bAbs_int, oMul_int (m1 _), oMod_int (show (0:Int) < 1000003 by decide), oAdd_int, oMod_int (show (0:Int) < 65537 by decide), pow18, oGe_int]
  generalize hc : (if ns[k] < 0 then -ns[k] else ns[k]) = c
  by_cases h0 : 1000000000000000000 ≤ c
  · simp_arith [h0, rng1 S (show (-1000000000:Int) ≤ 60 by decide) (show (60:Int) ≤ 1000000000 by decide)]
    refine (dr0_ok (by omega) hO).mono (fun _ _ _ _ h => h) ?_
    rintro r S' ⟨o6, o7, rfl, hO'⟩
    exact ⟨_, rfl, ⟨_, _, _, _, _, rfl⟩, hO'.mono (by omega)⟩
  · have g2 : (S.set q (.lst (row.map D.int ++ [D.int (c % 997)])))[q]? = some (.lst (row.map D.int ++ [D.int (c % 997)])) := get_put h1
    have hb2 : (row.map D.int ++ [D.int (c % 997)]).length < sizeLine := by simp only [List.length_map, List.length_append, List.length_singleton]; exact line_big (by omega)
    simp_arith [h0, hasTy_lst h1, oMod_int (show (0:Int) < 997 by decide), bInt_int, oAppend_lst h1 hb, hasTy_lst g2, oMul_int (m2 _), oAdd_int, oMod_int (show (0:Int) < 65521 by decide), oAppend_lst g2 hb2, rng1 _ (show (-1000000000:Int) ≤ 60 by decide) (show (60:Int) ≤ 1000000000 by decide)]
    refine (dr0_ok (S0 := S0) (n := 62 * k + 2) (by omega) ?_).mono (fun _ _ _ _ h => h) ?_
    · have := OutL.push (v := c % 997) h1 h2 h3 h4
      obtain ⟨r2, e1, e2, e3, e4⟩ := this
      have e5 : r2.map D.int = row.map D.int ++ [D.int (c % 997)] := by rw [g2] at e1; simpa using e1.symm
      rw [← e5]
      refine OutL.push (row := r2) (by rw [e5]; exact g2) e2 (by rw [e5]; exact e3) h4
    · rintro r S' ⟨o6, o7, rfl, hO'⟩
      exact ⟨_, rfl, ⟨_, _, _, _, _, rfl⟩, hO'.mono (by omega)⟩
theorem draws_ok {S : Hs} {x : D} {ns : List Int} {many : Int} (hx : seqD x S = some (ns.map D.int)) (hn : ns.length ≤ 63) (h0 : 0 ≤ many) (h1 : many ≤ 10000) :
    Wp NoX (mDef 2 6 b_draws [x, .int many] S) fun v S' => ∃ (q : Nat) (row : List Int), v = .ref q ∧ S'[q]? = some (.lst (row.map D.int)) ∧ S.length ≤ q ∧ Kp [] S S' := by
  refine wp_def0 rfl ?_
  unfold b_draws
  have hlen : bLen [x] (S ++ [.lst []]) = .ok (.int (ns.length : Int)) (S ++ [.lst []]) := by
    have := lenD_seq (seqD_more (g := [.lst []]) hx)
    simp [bLen, this]
  simp_arith [hlen, rng1 (n := (ns.length : Int)) (S ++ [.lst []]) (by omega) (by omega), Int.toNat_natCast]
  refine wp_rng (fun k l S' => (∃ (mixed : Int) (o4 o5 o6 o7 : Option D), l = [some x, some (.int many), some (.ref S.length), some (.int mixed), o4, o5, o6, o7]) ∧ OutL S S.length (62 * k) S') ⟨⟨_, _, _, _, _, rfl⟩, [], by simp, by simp, Kp.new, Nat.le_refl _⟩ ?_ ?_
  · intro k l S' hk h
    simp_arith []
    refine (dr1_ok hx k hk hn h).mono (fun _ _ _ _ h => h) ?_
    rintro r S'' ⟨l', rfl, h⟩
    exact h
  · rintro l S' ⟨⟨mixed, o4, o5, o6, o7, rfl⟩, hO⟩
    simp_arith [rng1 (n := many) S' (by omega) (by omega)]
    refine wp_rng (fun k l S' => (∃ (mixed : Int) (o4 : Option D), l = [some x, some (.int many), some (.ref S.length), some (.int mixed), o4, o5, o6, o7]) ∧ OutL S S.length (62 * ns.length + k) S') ⟨⟨_, _, rfl⟩, hO⟩ ?_ ?_
    · rintro k l S' hk ⟨⟨mixed, o4, rfl⟩, row, e1, e2, e3, e4⟩
      have hb : (row.map D.int).length < sizeLine := by simp only [List.length_map]; exact line_big (by omega)
      unfold lb_dr2
      simp_arith [oMul_int (mulok_r (show Int.natAbs 16807 < 2 ^ 64 by decide)), oAdd_int, bInt_int, oMod_int (show (0:Int) < 65537 by decide), hasTy_lst e1, oMod_int (show (0:Int) < 997 by decide), oAppend_lst e1 hb]
      exact ⟨⟨_, _, rfl⟩, OutL.push e1 e2 e3 e4⟩
    · rintro l S' ⟨⟨mixed, o4, rfl⟩, row, e1, e2, e3, e4⟩
      simp_arith [oSl, e1]
      refine ⟨_, (row.drop (HT.sIx row.length 0 none)).take (HT.sIx row.length row.length (some many) - HT.sIx row.length 0 none), rfl, ?_, ?_, e3.app⟩
      · simp [cutD]
      · have := e3.le; omega
inductive Row where
  | const (d : Nat) (n : Int) | copy (d a : Nat) | op (s : Str) (d a b : Nat) | select (d c a b : Nat) | load (d i a : Nat) | store (i a v : Nat) | out (a : Nat)
  | jump (t : Nat) | branch (a t u : Nat) | stop (a : Nat)
abbrev nD (n : Nat) : D := .int (n : Int)
def Row.D : Row → D
  | .const d n => .tup [.str "const", nD d, .int n]
  | .copy d a => .tup [.str "copy", nD d, nD a]
  | .op s d a b => .tup [.str "op", .str s, nD d, nD a, nD b]
  | .select d c a b => .tup [.str "select", nD d, nD c, nD a, nD b]
  | .load d i a => .tup [.str "load", nD d, nD i, nD a]
  | .store i a v => .tup [.str "store", nD i, nD a, nD v]
  | .out a => .tup [.str "out", nD a]
  | .jump t => .tup [.str "jump", nD t]
  | .branch a t u => .tup [.str "branch", nD a, nD t, nD u]
  | .stop a => .tup [.str "stop", nD a]
def signsL : List Str := ["+", "-", "*", "&", "|", "^", "<<", ">>", "==", "<", "<=", "div", "mod"]
def Row.ok (nr na nb : Nat) : Row → Prop
  | .const d n => d < nr ∧ 0 ≤ n ∧ n ≤ 4294967295
  | .copy d a => d < nr ∧ a < nr
  | .op s d a b => s ∈ signsL ∧ d < nr ∧ a < nr ∧ b < nr
  | .select d c a b => d < nr ∧ c < nr ∧ a < nr ∧ b < nr
  | .load d i a => d < nr ∧ i < na ∧ a < nr
  | .store i a v => i < na ∧ a < nr ∧ v < nr
  | .out a => a < nr
  | .jump t => t < nb
  | .branch a t u => a < nr ∧ t < nb ∧ u < nb
  | .stop a => a < nr
def Row.last : Row → Bool
  | .jump _ => true
  | .branch _ _ _ => true
  | .stop _ => true
  | _ => false
theorem nat_of {k : Int} (h : 0 ≤ k) : D.int k = nD k.toNat := by unfold nD; rw [Int.toNat_of_nonneg h]
theorem NxtA.new {S g : Hs} {i j : Nat} {row : List Int} (h : NxtA S i j row) : NxtA (S ++ g) i j row := by
  obtain ⟨a, h⟩ := h
  exact ⟨a, by rw [List.getElem?_append_left (Real.lt h.d)]; exact h.d, by rw [List.getElem?_append_left (Real.lt h.r)]; exact h.r, h.ne, h.nn⟩
theorem NxtA.lt {S : Hs} {i j : Nat} {row : List Int} (h : NxtA S i j row) : i < S.length := by obtain ⟨a, h⟩ := h; exact Real.lt h.d
theorem NxtA.ltj {S : Hs} {i j : Nat} {row : List Int} (h : NxtA S i j row) : j < S.length := by obtain ⟨a, h⟩ := h; exact Real.lt h.r
structure Arr where
  name : Str
  len : Nat
  label : Str
def Arr.D (a : Arr) : D := .tup [.str a.name, nD a.len, .str a.label]
def Arr.ok (a : Arr) : Prop := 1 ≤ a.len ∧ a.len ≤ 11 ∧ (a.label = "public" ∨ a.label = "secret") ∧ a.name.length ≤ 1000 ∧ PyData.strOk a.name = true
abbrev blockD (b : List Row) : D := .tup (b.map Row.D)
def progD (arrs : List Arr) (params : Nat) (blocks : List (List Row)) : D := .tup [.tup (arrs.map Arr.D), nD params, .tup (blocks.map blockD)]
def blockOk (nr na nb : Nat) (b : List Row) : Prop := b.length ≤ 8 ∧ ∃ body r, b = body ++ [r] ∧ (∀ x ∈ body, x.ok nr na nb ∧ x.last = false) ∧ r.ok nr na nb ∧ r.last = true
structure ProgOk (nr : Nat) (arrs : List Arr) (params : Nat) (blocks : List (List Row)) : Prop where
  na : arrs.length ≤ 3
  ar : ∀ a ∈ arrs, a.ok
  np : params ≤ 4
  nb : 1 ≤ blocks.length ∧ blocks.length ≤ 5
  bl : ∀ b ∈ blocks, blockOk nr arrs.length blocks.length b
theorem bTuple_lst {S : Hs} {q : Nat} {ds : List D} (h : S[q]? = some (.lst ds)) : bTuple [.ref q] S = .ok (.tup ds) S := by simp [bTuple, seqD, h]
theorem oAdd_lst {S : Hs} {p q : Nat} {ds es : List D} (h : S[p]? = some (.lst ds)) (h' : S[q]? = some (.lst es)) (hl : ds.length + es.length ≤ sizeLine) : oAdd (.ref p) (.ref q) S = .ok (.ref S.length) (S ++ [.lst (ds ++ es)]) := by simp [oAdd, h, h', hl]
theorem wipe1 {l : Ls} {s : Nat} : wipeL l [s] = l.set s none := nr rfl
end Ly
set_option Elab.async false
set_option linter.all false
set_option maxRecDepth 100000
namespace Ly
open PySem PySem.Spec L2
open PyProof.Rows hiding St
local macro_rules | `(tactic| simp_arith [$ls,*]) => `(tactic| simp only [Ly.line_le, Ly.atX_no, Ly.v_ok, Ly.v_bad, Ly.v_bind, Ly.k_bd, Ly.v_at, Ly.v_bin, Ly.k_bi, Ly.k_bi2, Ly.v_var, Ly.v_c, Ly.v_un, Ly.k_un, Ly.v_if, Ly.k_ife, Ly.v_and, Ly.k_and, Ly.k_and2, Ly.v_or, Ly.k_or, Ly.k_or2, Ly.v_tup, Ly.k_tup, Ly.v_lst, Ly.k_lst, Ly.v_call, Ly.k_ca, Ly.v_fn, Ly.k_fn, Ly.v_bm, Ly.k_bm, Ly.k_bm2, Ly.v_sl, Ly.k_sl, Ly.k_sl2, Ly.k_sl3, Ly.v_ixK, Ly.k_ixk, Ly.v_inK, Ly.k_ink, Ly.v_notinK, Ly.k_nink, Ly.v_getK2, Ly.k_gk2, Ly.k_gk, Ly.v_get2, Ly.k_g2, Ly.k_g22, Ly.k_g23, Ly.v_nil, Ly.v_cons, Ly.k_co, Ly.k_co2, Ly.v_no, Ly.v_some, Ly.k_so, Ly.k_cm, Ly.v_cmp, Ly.v_tru, Ly.k_tr, Ly.v_notB, Ly.k_no, Ly.v_andB, Ly.k_an, Ly.v_orB, Ly.k_orb, Ly.v_yes, Ly.v_inKB, Ly.k_inkB, Ly.v_notinKB, Ly.k_ninkB, Ly.v_set, Ly.k_st, Ly.v_expr, Ly.k_ex, Ly.v_ret, Ly.k_re, Ly.v_retN, Ly.v_pass, Ly.v_brk, Ly.v_cnt, Ly.v_seq, Ly.k_sq_nx, Ly.k_sq_rt, Ly.k_sq_bk, Ly.k_sq_ct, Ly.v_ifS, Ly.k_ifs, Ly.v_asg, Ly.k_as, Ly.k_as2, Ly.v_aug, Ly.k_au, Ly.v_for, Ly.k_fo, Ly.v_it, Ly.k_it, Ly.k_ij, Ly.v_rng1, Ly.v_rng2, Ly.v_enum, Ly.v_zip, Ly.v_ez, Ly.v_gN, Ly.v_gsN, Ly.v_gsC, Ly.k_gc, Ly.v_gT, Ly.v_gTw, Ly.v_gSb, Ly.k_gsb, Ly.k_gsb2, Ly.k_gsb3, Ly.k_en_rt, Ly.k_en_nx, Ly.k_tu_nx, Ly.k_tu_ct, Ly.k_tu_bk, Ly.k_tu_rt, Ly.v_lc, Ly.k_lc, Ly.v_augI, Ly.k_ag, Ly.k_ag2, Ly.k_ag3, Ly.k_ag4, Ly.k_ag5, Ly.v_del, Ly.k_dl, Ly.k_dl2, Ly.v_setd, Ly.v_pop2, Ly.k_d3, Ly.k_d32, Ly.k_d33, Ly.v_get1, Ly.k_g1, Ly.k_g12, Ly.v_rg1, Ly.k_rg, Ly.v_rg2, Ly.k_rg2, Ly.k_rg22, Ly.v_dicK, Ly.v_dicT, Ly.v_dc, Ly.k_dc, List.getElem?_cons_zero, List.getElem?_cons_succ, List.set_cons_zero, List.set_cons_succ, List.length_cons, List.length_nil, List.map_cons, List.map_nil, List.cons_append, List.nil_append, List.replicate, if_true, if_false, Bool.false_eq_true, Bool.not_true, Bool.not_false, Bool.true_and, Bool.false_and, decide_true, decide_false, decide_eq_true_eq, Nat.zero_add, Nat.reduceAdd, Nat.reduceLeDiff, true_and, and_true, $ls,*])
abbrev nDs (L : List Nat) : List D := L.map nD
def natDic (L : List Nat) (v : D) : List (Key × D) := L.map fun n : Nat => ((Sum.inl (n : Int) : Key), v)
theorem natDic_get {L : List Nat} {v : D} {n : Nat} : getK (natDic L v) (.inl (n : Int)) = if n ∈ L then some v else none := by
  induction L with
  | nil => rfl
  | cons a L ih =>
    unfold natDic getK at *
    simp only [List.map_cons, List.find?_cons]
    by_cases h : a = n
    · subst h; simp
    · have h1 : ¬ (Sum.inl (a : Int) : Key) = Sum.inl (n : Int) := by simp; omega
      have h2 : (n ∈ a :: L) = (n ∈ L) := by simp [Ne.symm h]
      simp only [decide_eq_false h1, h2]
      exact ih
theorem natDic_any {L : List Nat} {v : D} {n : Nat} : ((natDic L v).any fun kv => decide (kv.1 = (Sum.inl (n : Int) : Key))) = decide (n ∈ L) := by
  induction L with
  | nil => simp [natDic]
  | cons a L ih =>
    unfold natDic at *
    simp only [List.map_cons, List.any_cons, ih]
    by_cases h : a = n
    · subst h; simp
    · have h1 : ¬ (Sum.inl (a : Int) : Key) = Sum.inl (n : Int) := by simp; omega
      have h2 : (n ∈ a :: L) = (n ∈ L) := by simp [Ne.symm h]
      simp only [decide_eq_false h1, Bool.false_or, h2]
def addN (L : List Nat) (n : Nat) : List Nat := if n ∈ L then L else L ++ [n]
theorem natDic_set {L : List Nat} {v : D} {n : Nat} : setK (natDic L v) (.inl (n : Int)) v = natDic (addN L n) v := by
  unfold setK addN
  rw [natDic_any]
  by_cases h : n ∈ L
  · simp only [h, decide_true, if_true]
    have : ∀ kvs : List (Key × D), (∀ kv ∈ kvs, kv.2 = v) → (kvs.map fun kv => if kv.1 = (Sum.inl (n : Int) : Key) then (kv.1, v) else kv) = kvs := by
      intro kvs
      induction kvs with
      | nil => intro _; rfl
      | cons a r ih =>
        intro hh
        rw [List.map_cons, ih fun kv hk => hh kv (List.mem_cons_of_mem _ hk)]
        have := hh a (List.mem_cons_self ..)
        split
        · obtain ⟨k, d⟩ := a; cases this; rfl
        · rfl
    refine this _ fun kv hk => ?_
    unfold natDic at hk
    rw [List.mem_map] at hk
    obtain ⟨_, _, rfl⟩ := hk; rfl
  · simp [h, natDic]
theorem mem_addN {L : List Nat} {n x : Nat} : x ∈ addN L n ↔ x ∈ L ∨ x = n := by
  unfold addN; split
  · constructor
    · exact .inl
    · rintro (h | rfl) <;> assumption
  · simp
theorem nodup_addN {L : List Nat} {n : Nat} (h : L.Nodup) : (addN L n).Nodup := by
  unfold addN; split
  · exact h
  · rename_i hn
    rw [List.nodup_append]
    refine ⟨h, by simp, fun a ha b hb => ?_⟩
    simp only [List.mem_singleton] at hb
    subst hb; intro e; exact hn (e ▸ ha)
theorem nodup_len {L : List Nat} {n : Nat} (h : L.Nodup) (hb : ∀ x ∈ L, x < n) : L.length ≤ n := by
  have p : L.Perm ((List.range n).filter (fun x => decide (x ∈ L))) := by
    rw [List.perm_ext_iff_of_nodup h (List.Nodup.sublist List.filter_sublist List.nodup_range)]
    intro a
    simp only [List.mem_filter, List.mem_range, decide_eq_true_eq]
    exact ⟨fun ha => ⟨hb a ha, ha⟩, fun ha => ha.2⟩
  have := p.length_eq
  have h2 := List.length_filter_le (fun x => decide (x ∈ L)) (List.range n)
  simp at h2
  omega
theorem intKeys_nat {L : List Nat} {v : D} : intKeys (natDic L v) = some (L.map Int.ofNat) := by
  induction L with
  | nil => rfl
  | cons a L ih =>
    unfold natDic at *
    simp only [List.map_cons, intKeys, ih, Option.map_some]
    rfl
theorem intsD_nat {L : List Nat} : intsD (nDs L) = some (L.map Int.ofNat) := by
  induction L with
  | nil => rfl
  | cons a L ih => simp only [List.map_cons, nDs, nD, intsD] at *; rw [ih]; rfl
def sortN (L : List Nat) : List Nat := L.mergeSort (fun a b => decide (a ≤ b))
theorem sortN_perm (L : List Nat) : (sortN L).Perm L := List.mergeSort_perm _ _
theorem sortN_pw (L : List Nat) : (sortN L).Pairwise (· ≤ ·) := by
  have := List.pairwise_mergeSort (le := fun a b : Nat => decide (a ≤ b)) (fun a b c h1 h2 => by simp at *; omega) (fun a b => by simp; omega) L
  exact this.imp fun h => by simpa using h
theorem sortI_nat {L : List Nat} : (sortI (L.map Int.ofNat)).map D.int = nDs (sortN L) := by
  have : sortI (L.map Int.ofNat) = (sortN L).map Int.ofNat := by
    symm
    refine sortI_uniq ((sortN_perm L).map _) ?_
    rw [List.pairwise_map]
    exact (sortN_pw L).imp fun h => Int.ofNat_le.mpr h
  rw [this, List.map_map]; rfl
theorem bSorted_dic {S : Hs} {q : Nat} {L : List Nat} {v : D} (h : S[q]? = some (.dic (natDic L v))) (hl : L.length < 64) : bSorted [.ref q] S = .ok (.ref S.length) (S ++ [.lst (nDs (sortN L))]) := by
  simp [bSorted, seqD, h, intKeys_nat, hl, sortI_nat]
theorem bSorted_lst {S : Hs} {q : Nat} {L : List Nat} (h : S[q]? = some (.lst (nDs L))) : bSorted [.ref q] S = .ok (.ref S.length) (S ++ [.lst (nDs (sortN L))]) := by
  simp [bSorted, seqD, h, intsD_nat, sortI_nat]
theorem eqF_nat {a b : Nat} : eqF (nD a) (nD b) = decide (a = b) := by
  unfold nD eqF; rw [Bool.eq_iff_iff]; simp; omega
theorem any_nats {L : List Nat} {n : Nat} : (nDs L).any (fun z => eqF z (nD n)) = decide (n ∈ L) := by
  induction L with
  | nil => simp
  | cons a L ih =>
    simp only [List.map_cons, List.any_cons, eqF_nat]
    rw [ih]
    by_cases h : a = n
    · subst h; simp
    · simp [h, Ne.symm h]
theorem flat_nats {L : List Nat} : (nDs L).all flatD = true := by
  simp [flatD]
theorem oIn_lst {S : Hs} {q n : Nat} {L : List Nat} (h : S[q]? = some (.lst (nDs L))) : oIn (nD n) (.ref q) S = .ok (.bl (decide (n ∈ L))) S := by
  have e : cIn (nD n) (.ref q) S = some (decide (n ∈ L)) := by
    have hf : (flatD (nD n) && (nDs L).all flatD) = true := by rw [flat_nats]; rfl
    simp only [cIn, h, hf, if_true, any_nats]
  simp only [oIn, e]
theorem oNotIn_lst {S : Hs} {q n : Nat} {L : List Nat} (h : S[q]? = some (.lst (nDs L))) : oNotIn (nD n) (.ref q) S = .ok (.bl (!decide (n ∈ L))) S := by
  have e : cIn (nD n) (.ref q) S = some (decide (n ∈ L)) := by
    have hf : (flatD (nD n) && (nDs L).all flatD) = true := by rw [flat_nats]; rfl
    simp only [cIn, h, hf, if_true, any_nats]
  simp only [oNotIn, e]
theorem oIn_dic {S : Hs} {q n : Nat} {L : List Nat} {v : D} (h : S[q]? = some (.dic (natDic L v))) : oIn (nD n) (.ref q) S = .ok (.bl (decide (n ∈ L))) S := by
  have e : cIn (nD n) (.ref q) S = some (decide (n ∈ L)) := by
    have hf : dGet (.ref q) (nD n) S = some (if n ∈ L then some v else none) := by rw [dGet_dic h (key_int)]; rw [natDic_get]
    simp only [cIn, h, hf, Option.map_some]
    by_cases hh : n ∈ L <;> simp [hh]
  simp only [oIn, e]
theorem oNotIn_dic {S : Hs} {q n : Nat} {L : List Nat} {v : D} (h : S[q]? = some (.dic (natDic L v))) : oNotIn (nD n) (.ref q) S = .ok (.bl (!decide (n ∈ L))) S := by
  have e : cIn (nD n) (.ref q) S = some (decide (n ∈ L)) := by
    have hf : dGet (.ref q) (nD n) S = some (if n ∈ L then some v else none) := by rw [dGet_dic h (key_int)]; rw [natDic_get]
    simp only [cIn, h, hf, Option.map_some]
    by_cases hh : n ∈ L <;> simp [hh]
  simp only [oNotIn, e]
theorem eqF_str {a b : Str} : eqF (.str a) (.str b) = decide (a = b) := by
  unfold eqF; by_cases h : a = b <;> simp [h]
theorem oIn_strs {S : Hs} {x : Str} {xs : List Str} {y : D} (h : y = .tup (xs.map D.str) ∨ y = .wt (xs.map D.str) ∨ ∃ q, y = .ref q ∧ S[q]? = some (.lst (xs.map D.str))) : oIn (.str x) y S = .ok (.bl (decide (x ∈ xs))) S := by
  have ha : (xs.map D.str).any (fun z => eqF z (.str x)) = decide (x ∈ xs) := by
    clear h
    induction xs with
    | nil => simp
    | cons a L ih =>
      simp only [List.map_cons, List.any_cons, eqF_str]
      rw [ih]
      by_cases h : a = x
      · subst h; simp
      · simp [h, Ne.symm h]
  have hf : (flatD (.str x) && (xs.map D.str).all flatD) = true := by simp [flatD]
  have e : cIn (.str x) y S = some (decide (x ∈ xs)) := by
    rcases h with rfl | rfl | ⟨q, rfl, h⟩
    · simp only [cIn, hf, if_true, ha]
    · simp only [cIn, hf, if_true, ha]
    · simp only [cIn, h, hf, if_true, ha]
  simp only [oIn, e]
theorem atI_lit {α : Type} {xs : List α} {n : Nat} {x : α} (h : xs[n]? = some x) : L2.atI xs (n : Int) = some x := by
  obtain ⟨h1, _⟩ := List.getElem?_eq_some_iff.mp h
  rw [atI_nat (by omega) (by omega)]; simpa using h
theorem oIx_tup {S : Hs} {ds : List D} {n : Nat} {d : D} (h : ds[n]? = some d) : oIx (.tup ds) (.int (n : Int)) S = .ok d S := by simp [oIx, atI_lit h]
def Row.wr : Row → Option Nat
  | .const d _ => some d
  | .copy d _ => some d
  | .op _ d _ _ => some d
  | .select d _ _ _ => some d
  | .load d _ _ => some d
  | _ => none
def Row.rd : Row → List Nat
  | .copy _ a => [a]
  | .op _ _ a b => [a, b]
  | .select _ c a b => [c, a, b]
  | .load _ _ a => [a]
  | .store _ a v => [a, v]
  | .out a => [a]
  | .branch a _ _ => [a]
  | .stop a => [a]
  | _ => []
theorem rd_len (r : Row) : r.rd.length ≤ 3 := by cases r <;> simp [Row.rd]
theorem Row.ok.wr_lt {nr na nb : Nat} {r : Row} (h : r.ok nr na nb) {d : Nat} (e : r.wr = some d) : d < nr := by
  cases r <;> simp only [Row.wr, Option.some.injEq, reduceCtorEq] at e <;> subst e <;> first | exact h.1 | exact h.2.1
def formsT : List (Str × D) := [("const", (.wt [(.str "write"), (.str "word")])), ("copy", (.wt [(.str "write"), (.str "read")])), ("op", (.wt [(.str "sign"), (.str "write"), (.str "read"), (.str "read")])), ("select", (.wt [(.str "write"), (.str "read"), (.str "read"), (.str "read")])), ("load", (.wt [(.str "write"), (.str "array"), (.str "read")])), ("store", (.wt [(.str "array"), (.str "read"), (.str "read")])), ("out", (.wt [(.str "read")])), ("jump", (.wt [(.str "block")])), ("branch", (.wt [(.str "read"), (.str "block"), (.str "block")])), ("stop", (.wt [(.str "read")]))]
noncomputable def b_partsL : MS := (mSeq (mSet 2 (mIxK formsT (mBin oIx (mVar 0) (mC (.int 0)))))
    (mRet (mCall bTuple (lCons (mLc (mZip (lCons (mSl (mVar 0) (oSome (mC (.int 1))) oNo) (lCons (mVar 2) lNil))) (cT [3, 4]) (mCmp oEq (mVar 4) (mVar 1)) (mVar 3) [3, 4]) lNil))))
noncomputable def m_partsL : MD := mDef 2 3 b_partsL
theorem lc_zip {X : XP} {Q : D → Hs → Prop} {s t u : Nat} {l : Ls} {S : Hs} {xs : List D} {ys : List Str} {kind : Str} (hl : xs.length = ys.length) (hs : s < l.length) (ht : t < l.length) (hst : s ≠ t) (hu : l[u]? = some (some (.str kind))) (hus : u ≠ s) (hut : u ≠ t) (hx : xs.length ≤ 1000000)
    (hd : ∀ S', S'[S.length]? = some (.lst (((xs.zip ys).filter fun p => decide (p.2 = kind)).map (·.1))) → Kp [] S S' → Q (.ref S.length) S') :
    Wp X (cLoop (.zip (.t xs) (.t (ys.map D.str))) (cT [s, t]) (mCmp oEq (mVar t) (mVar u)) (mVar s) l S.length 0 (S ++ [.lst []])) Q := by
  refine wp_cLoop xs.length (fun k acc S' => acc = (((xs.zip ys).take k).filter fun p => decide (p.2 = kind)).map (·.1) ∧ S'[S.length]? = some (.lst acc) ∧ Kp [] S S') (fun acc S' h => ?_) (fun k acc S' hk h => ?_) (fun acc S' h => ?_) xs.length 0 [] _ (by omega) ⟨by simp, by simp, Kp.new⟩
  · simp only [itGo, Sq.at, List.length_map]
    rw [if_pos (by omega), List.getElem?_eq_none (by omega)]
  · obtain ⟨rfl, h1, h2⟩ := h
    have hk2 : k < ys.length := by omega
    have ex : xs[k]? = some xs[k] := List.getElem?_eq_getElem hk
    have ey : (ys.map D.str)[k]? = some (.str ys[k]) := by simp [List.getElem?_eq_getElem hk2]
    have ez : (xs.zip ys)[k]? = some (xs[k], ys[k]) := by rw [List.getElem?_zip_eq_some]; exact ⟨ex, List.getElem?_eq_getElem hk2⟩
    refine ⟨.tup [xs[k], .str ys[k]], ?_, (l.set s (some xs[k])).set t (some (.str ys[k])), rfl, ?_⟩
    · simp only [itGo, Sq.at, List.length_map]
      rw [if_pos (by omega), ex, ey]
    · have e1 : ((l.set s (some xs[k])).set t (some (.str ys[k])))[t]? = some (some (.str ys[k])) := List.getElem?_set_self (by simpa using ht)
      have e2 : ((l.set s (some xs[k])).set t (some (.str ys[k])))[s]? = some (some xs[k]) := by rw [List.getElem?_set_ne (Ne.symm hst)]; exact List.getElem?_set_self hs
      have e3 : ((l.set s (some xs[k])).set t (some (.str ys[k])))[u]? = some (some (.str kind)) := by rw [List.getElem?_set_ne (Ne.symm hut), List.getElem?_set_ne (Ne.symm hus)]; exact hu
      have hlen : ((((xs.zip ys).take k).filter fun p => decide (p.2 = kind)).map (·.1)).length < sizeLine := by
        refine line_big ?_
        rw [List.length_map]
        refine Nat.le_trans (List.length_filter_le _ _) ?_
        simp; omega
      simp_arith [e1, e2, e3, oEq_str]
      rw [take_at ez, List.filter_append, List.map_append]
      by_cases hc : ys[k] = kind
      · simp only [hc, List.filter_cons, decide_true, if_true, List.filter_nil, List.map_cons, List.map_nil]
        exact ⟨h1, hlen, trivial, get_put h1, h2.setNew (Nat.le_refl _)⟩
      · simp only [hc, List.filter_cons, decide_false, Bool.false_eq_true, if_false, List.filter_nil, List.map_nil, List.append_nil]
        exact ⟨trivial, h1, h2⟩
  · obtain ⟨rfl, h1, h2⟩ := h
    refine hd S' ?_ h2
    rw [List.take_of_length_le (by simp; omega)] at h1
    exact h1
def kindOf : Row → Str → List Nat
  | r, k => if k = "write" then r.wr.toList else r.rd
theorem cut1 {d : D} {ds : List D} : cutD (d :: ds) (some 1) none = ds := by
  simp only [cutD, HT.sIx]
  simp
theorem lookup_forms (r : Row) : ∃ w ds fs, r.D = .tup (.str w :: ds) ∧ formsT.lookup w = some (.wt (fs.map D.str)) ∧ ds.length = fs.length ∧ ds.length ≤ 4 ∧
    (∀ k : Str, k = "write" ∨ k = "read" → ((ds.zip fs).filter fun p => decide (p.2 = k)).map (·.1) = nDs (kindOf r k)) := by
  have hw : ("read" : Str) ≠ "write" := by simp [ofString_inj]
  cases r with
  | const d n => exact ⟨"const", _, ["write", "word"], rfl, by simp [formsT, List.lookup, beq_lit], rfl, by simp, by rintro k (rfl | rfl) <;> simp [kindOf, Row.wr, Row.rd, ofString_inj, nDs]⟩
  | copy d a => exact ⟨"copy", _, ["write", "read"], rfl, by simp [formsT, List.lookup, beq_lit], rfl, by simp, by rintro k (rfl | rfl) <;> simp [kindOf, Row.wr, Row.rd, ofString_inj, nDs]⟩
  | op s d a b => exact ⟨"op", _, ["sign", "write", "read", "read"], rfl, by simp [formsT, List.lookup, beq_lit], rfl, by simp, by rintro k (rfl | rfl) <;> simp [kindOf, Row.wr, Row.rd, ofString_inj, nDs]⟩
  | select d c a b => exact ⟨"select", _, ["write", "read", "read", "read"], rfl, by simp [formsT, List.lookup, beq_lit], rfl, by simp, by rintro k (rfl | rfl) <;> simp [kindOf, Row.wr, Row.rd, ofString_inj, nDs]⟩
  | load d i a => exact ⟨"load", _, ["write", "array", "read"], rfl, by simp [formsT, List.lookup, beq_lit], rfl, by simp, by rintro k (rfl | rfl) <;> simp [kindOf, Row.wr, Row.rd, ofString_inj, nDs]⟩
  | store i a v => exact ⟨"store", _, ["array", "read", "read"], rfl, by simp [formsT, List.lookup, beq_lit], rfl, by simp, by rintro k (rfl | rfl) <;> simp [kindOf, Row.wr, Row.rd, ofString_inj, nDs]⟩
  | out a => exact ⟨"out", _, ["read"], rfl, by simp [formsT, List.lookup, beq_lit], rfl, by simp, by rintro k (rfl | rfl) <;> simp [kindOf, Row.wr, Row.rd, ofString_inj, nDs]⟩
  | jump t => exact ⟨"jump", _, ["block"], rfl, by simp [formsT, List.lookup, beq_lit], rfl, by simp, by rintro k (rfl | rfl) <;> simp [kindOf, Row.wr, Row.rd, ofString_inj, nDs]⟩
  | branch a t u => exact ⟨"branch", _, ["read", "block", "block"], rfl, by simp [formsT, List.lookup, beq_lit], rfl, by simp, by rintro k (rfl | rfl) <;> simp [kindOf, Row.wr, Row.rd, ofString_inj, nDs]⟩
  | stop a => exact ⟨"stop", _, ["read"], rfl, by simp [formsT, List.lookup, beq_lit], rfl, by simp, by rintro k (rfl | rfl) <;> simp [kindOf, Row.wr, Row.rd, ofString_inj, nDs]⟩
theorem partsL_ok {S : Hs} (r : Row) {k : Str} (hk : k = "write" ∨ k = "read") : Wp NoX (m_partsL [r.D, .str k] S) fun v S' => v = .tup (nDs (kindOf r k)) ∧ Kp [] S S' := by
  obtain ⟨w, ds, fs, e1, e2, e3, e4, e5⟩ := lookup_forms r
  rw [e1]
  refine wp_def0 rfl ?_
  unfold b_partsL
  have h0 : ∀ S, oIx (.tup (.str w :: ds)) (.int 0) S = .ok (.str w) S := fun S => oIx_tup (n := 0) rfl
  have h1 : ∀ S, oZip [.tup ds, .wt (fs.map D.str)] S = .ok (.zip (.t ds) (.t (fs.map D.str))) S := fun S => rfl
  simp_arith [h0, e2, oSl, cut1, h1, wipeL]
  refine lc_zip e3 (by simp) (by simp) (by decide) (by rfl) (by decide) (by decide) (by omega) ?_
  intro S' h2 h3
  simp_arith [bTuple_lst h2]
  exact ⟨by rw [e5 k hk], h3⟩
end Ly
set_option Elab.async false
set_option linter.all false
set_option maxRecDepth 100000
namespace Ly
open PySem PySem.Spec L2
open PyProof.Rows hiding St
local macro_rules | `(tactic| simp_arith [$ls,*]) => `(tactic| simp only [Ly.line_le, Ly.atX_no, Ly.v_ok, Ly.v_bad, Ly.v_bind, Ly.k_bd, Ly.v_at, Ly.v_bin, Ly.k_bi, Ly.k_bi2, Ly.v_var, Ly.v_c, Ly.v_un, Ly.k_un, Ly.v_if, Ly.k_ife, Ly.v_and, Ly.k_and, Ly.k_and2, Ly.v_or, Ly.k_or, Ly.k_or2, Ly.v_tup, Ly.k_tup, Ly.v_lst, Ly.k_lst, Ly.v_call, Ly.k_ca, Ly.v_fn, Ly.k_fn, Ly.v_bm, Ly.k_bm, Ly.k_bm2, Ly.v_sl, Ly.k_sl, Ly.k_sl2, Ly.k_sl3, Ly.v_ixK, Ly.k_ixk, Ly.v_inK, Ly.k_ink, Ly.v_notinK, Ly.k_nink, Ly.v_getK2, Ly.k_gk2, Ly.k_gk, Ly.v_get2, Ly.k_g2, Ly.k_g22, Ly.k_g23, Ly.v_nil, Ly.v_cons, Ly.k_co, Ly.k_co2, Ly.v_no, Ly.v_some, Ly.k_so, Ly.k_cm, Ly.v_cmp, Ly.v_tru, Ly.k_tr, Ly.v_notB, Ly.k_no, Ly.v_andB, Ly.k_an, Ly.v_orB, Ly.k_orb, Ly.v_yes, Ly.v_inKB, Ly.k_inkB, Ly.v_notinKB, Ly.k_ninkB, Ly.v_set, Ly.k_st, Ly.v_expr, Ly.k_ex, Ly.v_ret, Ly.k_re, Ly.v_retN, Ly.v_pass, Ly.v_brk, Ly.v_cnt, Ly.v_seq, Ly.k_sq_nx, Ly.k_sq_rt, Ly.k_sq_bk, Ly.k_sq_ct, Ly.v_ifS, Ly.k_ifs, Ly.v_asg, Ly.k_as, Ly.k_as2, Ly.v_aug, Ly.k_au, Ly.v_for, Ly.k_fo, Ly.v_it, Ly.k_it, Ly.k_ij, Ly.v_rng1, Ly.v_rng2, Ly.v_enum, Ly.v_zip, Ly.v_ez, Ly.v_gN, Ly.v_gsN, Ly.v_gsC, Ly.k_gc, Ly.v_gT, Ly.v_gTw, Ly.v_gSb, Ly.k_gsb, Ly.k_gsb2, Ly.k_gsb3, Ly.k_en_rt, Ly.k_en_nx, Ly.k_tu_nx, Ly.k_tu_ct, Ly.k_tu_bk, Ly.k_tu_rt, Ly.v_lc, Ly.k_lc, Ly.v_augI, Ly.k_ag, Ly.k_ag2, Ly.k_ag3, Ly.k_ag4, Ly.k_ag5, Ly.v_del, Ly.k_dl, Ly.k_dl2, Ly.v_setd, Ly.v_pop2, Ly.k_d3, Ly.k_d32, Ly.k_d33, Ly.v_get1, Ly.k_g1, Ly.k_g12, Ly.v_rg1, Ly.k_rg, Ly.v_rg2, Ly.k_rg2, Ly.k_rg22, Ly.v_dicK, Ly.v_dicT, Ly.v_dc, Ly.k_dc, List.getElem?_cons_zero, List.getElem?_cons_succ, List.set_cons_zero, List.set_cons_succ, List.length_cons, List.length_nil, List.map_cons, List.map_nil, List.cons_append, List.nil_append, List.replicate, if_true, if_false, Bool.false_eq_true, Bool.not_true, Bool.not_false, Bool.true_and, Bool.false_and, decide_true, decide_false, decide_eq_true_eq, Nat.zero_add, Nat.reduceAdd, Nat.reduceLeDiff, true_and, and_true, $ls,*])
def secArr (arrs : List Arr) (i : Nat) : Bool := match arrs[i]? with
  | some a => decide (a.label = "secret")
  | none => false
def secLoad (arrs : List Arr) : Row → Bool
  | .load _ i _ => secArr arrs i
  | _ => false
inductive Sec (arrs : List Arr) (labels : List Str) (rows : List Row) : Nat → Prop
  | param {k : Nat} : labels[k]? = some ("secret" : Str) → Sec arrs labels rows k
  | load {r : Row} {d : Nat} : r ∈ rows → secLoad arrs r = true → r.wr = some d → Sec arrs labels rows d
  | dep {r : Row} {d x : Nat} : r ∈ rows → r.wr = some d → x ∈ r.rd → Sec arrs labels rows x → Sec arrs labels rows d
theorem Sec.lt {arrs : List Arr} {labels : List Str} {rows : List Row} {nr na nb n : Nat} (h : Sec arrs labels rows n) (hl : labels.length ≤ nr) (hr : ∀ r ∈ rows, r.ok nr na nb) : n < nr := by
  induction h with
  | param h => obtain ⟨h, _⟩ := List.getElem?_eq_some_iff.mp h; omega
  | load h1 h2 h3 => exact (hr _ h1).wr_lt h3
  | dep h1 h2 h3 h4 ih => exact (hr _ h1).wr_lt h2
def mkDic (ps : List (Nat × Nat)) : List (Key × D) := ps.map fun p => ((Sum.inl (p.1 : Int) : Key), D.ref p.2)
structure Mk (S : Hs) (m : Nat) (ps : List (Nat × Nat)) (f : Nat → List Nat) : Prop where
  d : S[m]? = some (.dic (mkDic ps))
  n1 : (ps.map (·.1)).Nodup
  n2 : (ps.map (·.2)).Nodup
  lo : ∀ p ∈ ps, m < p.2
  li : ∀ p ∈ ps, S[p.2]? = some (.lst (nDs (f p.1)))
  no : ∀ n, n ∉ ps.map (·.1) → f n = []
theorem nodup_inj {α β : Type} {g : α → β} {xs : List α} (h : (xs.map g).Nodup) {a b : α} (ha : a ∈ xs) (hb : b ∈ xs) (e : g a = g b) : a = b := by
  induction xs with
  | nil => cases ha
  | cons x xs ih =>
    simp only [List.map_cons, List.nodup_cons] at h
    rcases List.mem_cons.mp ha with ea | ha'
    · rcases List.mem_cons.mp hb with eb | hb'
      · rw [ea, eb]
      · exact absurd (List.mem_map.mpr ⟨b, hb', by rw [← e, ea]⟩) h.1
    · rcases List.mem_cons.mp hb with eb | hb'
      · exact absurd (List.mem_map.mpr ⟨a, ha', by rw [e, eb]⟩) h.1
      · exact ih h.2 ha' hb'
theorem mkDic_get {ps : List (Nat × Nat)} (h : (ps.map (·.1)).Nodup) {n r : Nat} (hm : (n, r) ∈ ps) : getK (mkDic ps) (.inl (n : Int)) = some (.ref r) := by
  induction ps with
  | nil => cases hm
  | cons a ps ih =>
    simp only [List.map_cons, List.nodup_cons] at h
    unfold mkDic getK at *
    simp only [List.map_cons, List.find?_cons]
    rcases List.mem_cons.mp hm with e | hm
    · subst e; simp
    · have h1 : a.1 ≠ n := fun e => h.1 (by rw [e]; exact List.mem_map.mpr ⟨_, hm, rfl⟩)
      have h2 : ¬ ((Sum.inl (a.1 : Int) : Key) = Sum.inl (n : Int)) := by simp; omega
      simp only [decide_eq_false h2]
      exact ih h.2 hm
theorem mkDic_none {ps : List (Nat × Nat)} {n : Nat} (h : n ∉ ps.map (·.1)) : getK (mkDic ps) (.inl (n : Int)) = none := by
  unfold mkDic getK
  rw [Option.map_eq_none_iff, List.find?_eq_none]
  intro x hx
  rw [List.mem_map] at hx
  obtain ⟨p, hp, rfl⟩ := hx
  simp only [decide_eq_true_eq, Sum.inl.injEq]
  intro e
  exact h (List.mem_map.mpr ⟨p, hp, by show p.1 = n; omega⟩)
theorem mkDic_new {ps : List (Nat × Nat)} {n r : Nat} (h : n ∉ ps.map (·.1)) : setK (mkDic ps) (.inl (n : Int)) (.ref r) = mkDic (ps ++ [(n, r)]) := by
  unfold setK
  have : ((mkDic ps).any fun kv => decide (kv.1 = (Sum.inl (n : Int) : Key))) = false := by
    rw [List.any_eq_false]
    intro x hx
    unfold mkDic at hx
    rw [List.mem_map] at hx
    obtain ⟨p, hp, rfl⟩ := hx
    simp only [decide_eq_true_eq, Sum.inl.injEq]
    intro e
    exact h (List.mem_map.mpr ⟨p, hp, by show p.1 = n; omega⟩)
  rw [if_neg (by rw [this]; simp)]; simp [mkDic]
def updF (f : Nat → List Nat) (n w : Nat) : Nat → List Nat := fun x => if x = n then f x ++ [w] else f x
theorem Mk.keep {S S' : Hs} {m : Nat} {ps : List (Nat × Nat)} {f : Nat → List Nat} (h : Mk S m ps f) {A : List Nat} (k : Kp A S S') (hA : ∀ i ∈ A, i < m) : Mk S' m ps f :=
  ⟨k.get h.d (fun e => by have := hA _ e; omega), h.n1, h.n2, h.lo, fun p hp => k.get (h.li p hp) (fun e => by have := hA _ e; have := h.lo p hp; omega), h.no⟩
def Kb (b : Nat) (S S' : Hs) : Prop := S.length ≤ S'.length ∧ ∀ i, i < b → S'[i]? = S[i]?
theorem Kb.trans {b : Nat} {S S1 S2 : Hs} (h : Kb b S S1) (h' : Kb b S1 S2) : Kb b S S2 := ⟨Nat.le_trans h.1 h'.1, fun i hi => (h'.2 i hi).trans (h.2 i hi)⟩
theorem Kb.of {b : Nat} {A : List Nat} {S S' : Hs} (h : Kp A S S') (hA : ∀ i ∈ A, b ≤ i) (hb : b ≤ S.length) : Kb b S S' := ⟨h.1, fun i hi => h.2 i (by omega) fun e => by have := hA i e; omega⟩
theorem Kb.refl {b : Nat} {S : Hs} : Kb b S S := ⟨Nat.le_refl _, fun _ _ => rfl⟩
theorem Kb.get {b i : Nat} {S S' : Hs} {o : O} (h : Kb b S S') (e : S[i]? = some o) (hi : i < b) : S'[i]? = some o := (h.2 i hi).trans e
theorem Kb.kp {b : Nat} {S0 S S' : Hs} (k : Kp [] S0 S) (h : Kb b S S') (hb : S0.length ≤ b) : Kp [] S0 S' := ⟨Nat.le_trans k.1 h.1, fun i hi hn => (h.2 i (by omega)).trans (k.2 i hi hn)⟩
theorem setd_ok {S : Hs} {m : Nat} {ps : List (Nat × Nat)} {f : Nat → List Nat} {n w : Nat} {l : Ls} {i j k : Nat} (h : Mk S m ps f) (hi : l[i]? = some (some (.ref m))) (hj : l[j]? = some (some (nD n))) (hk : l[k]? = some (some (nD w))) (hf : (f n).length < 1000000) (hp : ps.length < 1000000) :
    Wp NoX (mExpr (mBM "list" oAppend (mSetd (mVar i) (mVar j) (mLst lNil)) (lCons (mVar k) lNil)) l S) fun r S' => r = .nx l ∧ (∃ ps', Mk S' m ps' (updF f n w) ∧ ps'.length ≤ ps.length + 1) ∧ Kb m S S' := by
  have hm : m < S.length := Real.lt h.d
  have ht : hasTy "dict" (.ref m) S = true := by simp [hasTy, h.d]
  simp_arith [hi, hj, hk, ht]
  have hd1 : (S ++ [O.lst []])[m]? = some (.dic (mkDic ps)) := by rw [List.getElem?_append_left hm]; exact h.d
  have hps : (mkDic ps).length < sizeLine := by simp only [mkDic, List.length_map]; exact line_big (by omega)
  by_cases hn : n ∈ ps.map (·.1)
  · rw [List.mem_map] at hn
    obtain ⟨⟨n', r⟩, hm', rfl⟩ := hn
    simp only at hj hf ⊢
    have e1 : oSetd (.ref m) (nD n') (.ref S.length) (S ++ [O.lst []]) = .ok (.ref r) (S ++ [O.lst []]) := by
      simp only [oSetd, hd1, key_int, hps, if_true, mkDic_get h.n1 hm']
    have hr : S[r]? = some (.lst (nDs (f n'))) := h.li _ hm'
    have hr1 : (S ++ [O.lst []])[r]? = some (.lst (nDs (f n'))) := by rw [List.getElem?_append_left (Real.lt hr)]; exact hr
    simp_arith [e1, hasTy_lst hr1, hk, oAppend_lst hr1 (by simp only [List.length_map]; exact line_big (by omega))]
    have hmr : m < r := h.lo _ hm'
    refine ⟨⟨ps, ⟨by rw [List.getElem?_set_ne (by omega)]; exact hd1, h.n1, h.n2, h.lo, fun p hp => ?_, fun x hx => ?_⟩, by omega⟩, ?_⟩
    · by_cases hpr : p.2 = r
      · have : p = (n', r) := nodup_inj h.n2 hp hm' hpr
        subst this
        simp only
        rw [get_put hr1]; simp [updF]
      · rw [List.getElem?_set_ne (Ne.symm hpr), List.getElem?_append_left (Real.lt (h.li p hp)), h.li p hp]
        have : p.1 ≠ n' := fun e => hpr (congrArg Prod.snd (nodup_inj h.n1 hp hm' e))
        simp [updF, this]
    · have : x ≠ n' := fun e => hx (e ▸ List.mem_map.mpr ⟨_, hm', rfl⟩)
      simp [updF, this, h.no x hx]
    · exact ⟨by simp, fun i hi => by rw [List.getElem?_set_ne (by omega), List.getElem?_append_left (by omega)]⟩
  · have e1 : oSetd (.ref m) (nD n) (.ref S.length) (S ++ [O.lst []]) = .ok (.ref S.length) ((S ++ [O.lst []]).set m (.dic (mkDic (ps ++ [(n, S.length)])))) := by
      simp only [oSetd, hd1, key_int, hps, if_true, mkDic_none hn, mkDic_new hn]
    have hr1 : ((S ++ [O.lst []]).set m (.dic (mkDic (ps ++ [(n, S.length)]))))[S.length]? = some (.lst []) := by rw [List.getElem?_set_ne (by omega)]; simp
    simp_arith [e1, hasTy_lst hr1, hk, oAppend_lst hr1 (by simp only [List.length_nil]; exact line_big (by omega))]
    have hfn := h.no n hn
    have hlt : ∀ p ∈ ps, p.2 < S.length := fun p hp => Real.lt (h.li p hp)
    refine ⟨⟨ps ++ [(n, S.length)], ⟨?_, ?_, ?_, ?_, ?_, ?_⟩, by simp⟩, ?_⟩
    · rw [List.getElem?_set_ne (by omega)]; exact get_put hd1
    · rw [List.map_append, List.nodup_append]
      exact ⟨h.n1, by simp, fun a ha b hb e => by simp at hb; subst hb; subst e; exact hn ha⟩
    · rw [List.map_append, List.nodup_append]
      refine ⟨h.n2, by simp, fun a ha b hb e => ?_⟩
      simp at hb; subst hb; subst e
      rw [List.mem_map] at ha
      obtain ⟨p, hp, e⟩ := ha
      have := hlt p hp; omega
    · intro p hp
      rcases List.mem_append.mp hp with hp | hp
      · exact h.lo p hp
      · simp at hp; subst hp; exact hm
    · intro p hp
      rcases List.mem_append.mp hp with hp | hp
      · have h1 := hlt p hp
        have h2 := h.lo p hp
        have : p.1 ≠ n := fun e => hn (e ▸ List.mem_map.mpr ⟨p, hp, rfl⟩)
        rw [List.getElem?_set_ne (by omega), List.getElem?_set_ne (by omega), List.getElem?_append_left h1, h.li p hp]
        simp [updF, this]
      · simp at hp; subst hp
        rw [get_put hr1]
        simp [updF, hfn]
    · intro x hx
      simp only [List.map_append, List.map_cons, List.map_nil, List.mem_append, List.mem_singleton, not_or] at hx
      simp [updF, hx.2, h.no x hx.1]
    · exact ⟨by simp, fun i hi => by rw [List.getElem?_set_ne (by omega), List.getElem?_set_ne (by omega), List.getElem?_append_left (by omega)]⟩
noncomputable def lb_sec0 : MS := (mExpr (mBM "list" oAppend (mSetd (mVar 3) (mVar 7) (mLst lNil)) (lCons (mVar 6) lNil)))
noncomputable def lb_sec1 : MS := (mSeq (mIfS (mAndB (mCmp oEq (mBin oIx (mVar 5) (mC (.int 0))) (mC (.str "load"))) (mCmp oEq (mBin oIx (mBin oIx (mBin oIx (mVar 0) (mC (.int 0))) (mBin oIx (mVar 5) (mC (.int 2)))) (mC (.int 2))) (mC (.str "secret")))) (mExpr (mBM "list" oAppend (mVar 2) (lCons (mVar 6) lNil))) mPass)
    (mFor (mIt (mFn m_partsL (lCons (mVar 5) (lCons (mC (.str "read")) lNil)))) (gN 7) lb_sec0))
noncomputable def lb_sec2 : MS := (mFor (mIt (mFn m_partsL (lCons (mVar 5) (lCons (mC (.str "write")) lNil)))) (gN 6) lb_sec1)
noncomputable def lb_sec3 : MS := (mFor (mIt (mVar 4)) (gN 5) lb_sec2)
noncomputable def c_sec4 : MB := (mTru (mVar 2))
noncomputable def lb_sec5 : MS := (mSeq (mSet 6 (mBM "list" oPop (mVar 2) lNil))
    (mIfS (mCmp oNotIn (mVar 6) (mVar 8)) (mSeq (mAsg (mC (.bl true)) (gSb (mVar 8) (mVar 6)))
    (mExpr (mBM "list" oExtend (mVar 2) (lCons (mGet2 (mVar 3) (mVar 6) (mLst lNil)) lNil)))) mPass))
noncomputable def b_secR : MS := (mSeq (mSet 2 (mLc (mEnum (lCons (mVar 1) lNil)) (cT [6, 9]) (mCmp oEq (mVar 9) (mC (.str "secret"))) (mVar 6) [6, 9]))
    (mSeq (mSet 3 mDicK)
    (mSeq (mFor (mIt (mBin oIx (mVar 0) (mC (.int 2)))) (gN 4) lb_sec3)
    (mSeq (mSet 8 mDicK)
    (mSeq (mWhile c_sec4 lb_sec5)
    (mRet (mVar 8)))))))
noncomputable def m_secR : MD := mDef 2 8 b_secR
section
variable {arrs : List Arr} {labels : List Str} {rows : List Row} {nr na nb : Nat}
structure Gath (arrs : List Arr) (labels : List Str) (done : List Row) (W : List Nat) (f : Nat → List Nat) : Prop where
  gw : ∀ x, x ∈ W ↔ labels[x]? = some ("secret" : Str) ∨ ∃ r ∈ done, secLoad arrs r = true ∧ r.wr = some x
  gf : ∀ x y, y ∈ f x ↔ ∃ r ∈ done, r.wr = some y ∧ x ∈ r.rd
  gwl : W.length ≤ labels.length + done.length
  gfl : ∀ x, (f x).length ≤ 3 * done.length
theorem sec0_loop {S : Hs} {m d : Nat} {f : Nat → List Nat} {ps : List (Nat × Nat)} {xs : List Nat} {l : Ls} (hm : Mk S m ps f) (hl : l.length = 10) (h3 : l[3]? = some (some (.ref m))) (h6 : l[6]? = some (some (nD d))) (hf : ∀ x, (f x).length ≤ 900000) (hp : ps.length < 900000) (hx : xs.length ≤ 3) :
    Wp NoX (fLoop (.tup (nDs xs)) (gN 7) lb_sec0 0 l S) fun r S' => ∃ l' ps' f', r = .nx l' ∧ (∃ o, l' = l.set 7 o ∨ l' = l) ∧ Mk S' m ps' f' ∧ ps'.length ≤ ps.length + 3 ∧ Kb m S S' ∧ (∀ x y, y ∈ f' x ↔ y ∈ f x ∨ (y = d ∧ x ∈ xs)) ∧ (∀ x, (f' x).length ≤ (f x).length + xs.length) := by
  refine wp_tupM nD (fun pre l' S' => ∃ ps' f', (∃ o, l' = l.set 7 o ∨ l' = l) ∧ Mk S' m ps' f' ∧ ps'.length ≤ ps.length + pre.length ∧ Kb m S S' ∧ (∀ x y, y ∈ f' x ↔ y ∈ f x ∨ (y = d ∧ x ∈ pre)) ∧ (∀ x, (f' x).length ≤ (f x).length + pre.length))
    ⟨ps, f, ⟨none, .inr rfl⟩, hm, by simp, Kb.refl, by simp, by simp⟩ ?_ ?_
  · rintro pre x post l' S' rfl ⟨ps', f', ⟨o, hl'⟩, hM, hpl, hK, hf1, hf2⟩
    have hpre : pre.length ≤ 2 := by simp at hx; omega
    simp_arith []
    unfold lb_sec0
    have e3 : (l'.set 7 (some (nD x)))[3]? = some (some (.ref m)) := by
      rw [List.getElem?_set_ne (by decide)]; rcases hl' with rfl | rfl
      · rw [List.getElem?_set_ne (by decide)]; exact h3
      · exact h3
    have e6 : (l'.set 7 (some (nD x)))[6]? = some (some (nD d)) := by
      rw [List.getElem?_set_ne (by decide)]; rcases hl' with rfl | rfl
      · rw [List.getElem?_set_ne (by decide)]; exact h6
      · exact h6
    have e7 : (l'.set 7 (some (nD x)))[7]? = some (some (nD x)) := by
      refine List.getElem?_set_self ?_
      rcases hl' with rfl | rfl <;> simp [hl]
    have g1 := hf2 x
    have g2 := hf x
    refine (setd_ok hM e3 e7 e6 (by omega) (by omega)).mono (fun _ _ _ _ h => h) ?_
    rintro r S2 ⟨rfl, ⟨ps2, hM2, hp2⟩, hK2⟩
    refine ⟨ps2, updF f' x d, ⟨some (nD x), ?_⟩, hM2, by simp; omega, hK.trans hK2, fun z y => ?_, fun z => ?_⟩
    · rcases hl' with rfl | rfl
      · left; rw [List.set_set]
      · left; rfl
    · unfold updF
      split
      · rename_i e; subst e
        simp only [List.mem_append, hf1, List.mem_singleton]
        constructor
        · rintro ((h | h) | h)
          · exact .inl h
          · exact .inr ⟨h.1, .inl h.2⟩
          · exact .inr ⟨h, by simp⟩
        · rintro (h | ⟨h1, h2⟩)
          · exact .inl (.inl h)
          · exact .inr h1
      · rename_i e
        simp only [List.mem_append, hf1, List.mem_singleton, e, or_false]
    · unfold updF
      have := hf2 z
      split
      · simp; omega
      · simp; omega
  · rintro l' S' ⟨ps', f', hl', hM, hpl, hK, hf1, hf2⟩
    exact ⟨l', ps', f', rfl, hl', hM, by omega, hK, hf1, hf2⟩
def SecL (arrs : List Arr) (params : Nat) (blocks : List (List Row)) (labels : List Str) (q m : Nat) (l : Ls) : Prop :=
  ∃ o4 o5 o6 o7 : Option D, l = [some (progD arrs params blocks), some (.tup (labels.map D.str)), some (.ref q), some (.ref m), o4, o5, o6, o7, none, none]
def SecS (arrs : List Arr) (labels : List Str) (S0 : Hs) (q m : Nat) (done : List Row) (S : Hs) : Prop :=
  ∃ W f ps, Gath arrs labels done W f ∧ S[q]? = some (.lst (nDs W)) ∧ Mk S m ps f ∧ ps.length ≤ 3 * done.length ∧ Kp [] S0 S ∧ S0.length ≤ q ∧ q < m
theorem prog_arrs {params : Nat} {blocks : List (List Row)} {S : Hs} : oIx (progD arrs params blocks) (.int 0) S = .ok (.tup (arrs.map Arr.D)) S := oIx_tup (n := 0) rfl
theorem prog_blocks {params : Nat} {blocks : List (List Row)} {S : Hs} : oIx (progD arrs params blocks) (.int 2) S = .ok (.tup (blocks.map blockD)) S := oIx_tup (n := 2) rfl
theorem arr_at {i : Nat} (h : i < arrs.length) {S : Hs} : oIx (.tup (arrs.map Arr.D)) (nD i) S = .ok arrs[i].D S := oIx_tup (n := i) (by simp [List.getElem?_eq_getElem h])
theorem arr_label {a : Arr} {S : Hs} : oIx a.D (.int 2) S = .ok (.str a.label) S := oIx_tup (n := 2) rfl
theorem row_word (r : Row) : ∃ w : Str, (∀ S, oIx r.D (.int 0) S = .ok (.str w) S) ∧ (w = "load" ↔ ∃ d i a, r = .load d i a) := by
  cases r <;> refine ⟨_, fun S => oIx_tup (n := 0) rfl, ?_⟩ <;> simp [ofString_inj]
theorem sec2_ok {S S0 : Hs} {q m params : Nat} {blocks : List (List Row)} {done : List Row} {r : Row} {l : Ls} (hr : r.ok nr arrs.length nb) (hL : SecL arrs params blocks labels q m l) (h5 : l[5]? = some (some r.D)) (hS : SecS arrs labels S0 q m done S) (hd : done.length ≤ 100000) (hlb : labels.length ≤ 100000) :
    Wp NoX (lb_sec2 l S) fun x S' => ∃ l', x = .nx l' ∧ SecL arrs params blocks labels q m l' ∧ SecS arrs labels S0 q m (done ++ [r]) S' := by
  obtain ⟨o4, o5, o6, o7, rfl⟩ := hL
  simp only [List.getElem?_cons_succ, List.getElem?_cons_zero, Option.some.injEq] at h5
  subst h5
  obtain ⟨W, f, ps, hG, hq, hM, hps, hK, hq0, hqm⟩ := hS
  unfold lb_sec2
  simp_arith []
  refine Wp.call (partsL_ok r (.inl rfl)) ?_
  rintro _ S1 ⟨rfl, k1⟩
  have hq1 := k1.get hq (by simp)
  have hM1 := hM.keep k1 (by simp)
  have hK1 := hK.trans k1
  simp_arith [oIt]
  have hkw : kindOf r "write" = r.wr.toList := by simp [kindOf]
  have hkr : kindOf r "read" = r.rd := by simp [kindOf, ofString_inj]
  rw [hkw]
  cases hw : r.wr with
  | none =>
    refine wp_tup0 ⟨_, rfl, ⟨_, _, _, _, rfl⟩, W, f, ps, ⟨fun x => ?_, fun x y => ?_, ?_, fun x => ?_⟩, hq1, hM1, by simp; omega, hK1, hq0, hqm⟩
    · rw [hG.gw x]
      constructor
      · rintro (h | ⟨r', h1, h2⟩)
        · exact .inl h
        · exact .inr ⟨r', List.mem_append_left _ h1, h2⟩
      · rintro (h | ⟨r', h1, h2, h3⟩)
        · exact .inl h
        · rcases List.mem_append.mp h1 with h1 | h1
          · exact .inr ⟨r', h1, h2, h3⟩
          · simp at h1; subst h1; rw [hw] at h3; cases h3
    · rw [hG.gf x y]
      constructor
      · rintro ⟨r', h1, h2⟩; exact ⟨r', List.mem_append_left _ h1, h2⟩
      · rintro ⟨r', h1, h2, h3⟩
        rcases List.mem_append.mp h1 with h1 | h1
        · exact ⟨r', h1, h2, h3⟩
        · simp at h1; subst h1; rw [hw] at h2; cases h2
    · have := hG.gwl; simp; omega
    · have := hG.gfl x; simp; omega
  | some d =>
    refine wp_tup1 ?_
    obtain ⟨w, hw1, hw2⟩ := row_word r
    unfold lb_sec1
    simp_arith [-v_for, hw1, oEq_str]
    have rest : ∀ (W' : List Nat) (S2 : Hs), S2[q]? = some (.lst (nDs W')) → Mk S2 m ps f → Kp [] S0 S2 → (∀ x, x ∈ W' ↔ x ∈ W ∨ (secLoad arrs r = true ∧ x = d)) → W'.length ≤ W.length + 1 →
        Wp NoX (mFor (mIt (mFn m_partsL (lCons (mVar 5) (lCons (mC (.str "read")) lNil)))) (gN 7) lb_sec0 [some (progD arrs params blocks), some (.tup (labels.map D.str)), some (.ref q), some (.ref m), o4, some r.D, some (nD d), o7, none, none] S2)
          (tuK (fun l2 S2 => ∃ l', F.nx l2 = .nx l' ∧ SecL arrs params blocks labels q m l' ∧ SecS arrs labels S0 q m (done ++ [r]) S2) fun x S' => ∃ l', x = .nx l' ∧ SecL arrs params blocks labels q m l' ∧ SecS arrs labels S0 q m (done ++ [r]) S') := by
      intro W' S2 hq2 hM2 hK2 hW' hWl
      simp_arith []
      refine Wp.call (partsL_ok r (.inr rfl)) ?_
      rintro _ S3 ⟨rfl, k3⟩
      simp_arith [oIt, hkr]
      refine (sec0_loop (hM2.keep k3 (by simp)) (by simp) (by rfl) (by rfl) (fun x => by have := hG.gfl x; omega) (by omega) (rd_len r)).mono (fun _ _ _ _ h => h) ?_
      rintro x S4 ⟨l', ps', f', rfl, ⟨o, hl'⟩, hM4, hp4, hK4, hf1, hf2⟩
      have hq4 := hK4.get (k3.get hq2 (by simp)) hqm
      have hmS : S0.length ≤ m := by omega
      refine ⟨l', rfl, ?_, W', f', ps', ⟨fun x => ?_, fun x y => ?_, ?_, fun x => ?_⟩, hq4, hM4, by simp; omega, Kb.kp (hK2.trans k3) hK4 hmS, hq0, hqm⟩
      · rcases hl' with rfl | rfl
        · exact ⟨_, _, _, _, rfl⟩
        · exact ⟨_, _, _, _, rfl⟩
      · rw [hW' x, hG.gw x]
        constructor
        · rintro ((h | ⟨r', h1, h2⟩) | ⟨h1, h2⟩)
          · exact .inl h
          · exact .inr ⟨r', List.mem_append_left _ h1, h2⟩
          · exact .inr ⟨r, by simp, h1, by rw [hw, h2]⟩
        · rintro (h | ⟨r', h1, h2, h3⟩)
          · exact .inl (.inl h)
          · rcases List.mem_append.mp h1 with h1 | h1
            · exact .inl (.inr ⟨r', h1, h2, h3⟩)
            · simp at h1; subst h1; rw [hw] at h3; cases h3; exact .inr ⟨h2, rfl⟩
      · rw [hf1 x y, hG.gf x y]
        constructor
        · rintro (⟨r', h1, h2⟩ | ⟨h1, h2⟩)
          · exact ⟨r', List.mem_append_left _ h1, h2⟩
          · exact ⟨r, by simp, by rw [hw, h1], h2⟩
        · rintro ⟨r', h1, h2, h3⟩
          rcases List.mem_append.mp h1 with h1 | h1
          · exact .inl ⟨r', h1, h2, h3⟩
          · simp at h1; subst h1; rw [hw] at h2; cases h2; exact .inr ⟨rfl, h3⟩
      · have := hG.gwl; simp; omega
      · have := hf2 x; have := hG.gfl x; have := rd_len r; simp; omega
    by_cases hload : w = "load"
    · obtain ⟨d', i, a, rfl⟩ := hw2.mp hload
      have hi : i < arrs.length := hr.2.1
      have h2 : ∀ S, oIx (Row.load d' i a).D (.int 2) S = .ok (nD i) S := fun S => oIx_tup (n := 2) rfl
      have hsl : secLoad arrs (Row.load d' i a) = decide (arrs[i].label = "secret") := by simp [secLoad, secArr, List.getElem?_eq_getElem hi]
      simp_arith [-v_for, hload, prog_arrs, h2, arr_at hi, arr_label, oEq_str]
      by_cases hsec : arrs[i].label = "secret"
      · have hb : (nDs W).length < sizeLine := by simp only [List.length_map]; refine line_big ?_; have := hG.gwl; omega
        simp_arith [-v_for, hsec, hasTy_lst hq1, oAppend_lst hq1 hb]
        refine rest (W ++ [d]) _ (by rw [get_put hq1]; simp) (hM1.keep (Kp.set (A := [q]) (by simp)) (by simpa using hqm)) (hK1.setNew hq0) (fun x => by rw [hsl]; simp [hsec]) (by simp)
      · simp_arith [-v_for, hsec]
        exact rest W _ hq1 hM1 hK1 (fun x => by rw [hsl]; simp [hsec]) (by omega)
    · simp_arith [-v_for, hload]
      refine rest W _ hq1 hM1 hK1 (fun x => ?_) (by omega)
      have : secLoad arrs r = false := by
        cases r <;> first | rfl | exact absurd (hw2.mpr ⟨_, _, _, rfl⟩) hload
      simp [this]
end
section
variable {arrs : List Arr} {labels : List Str} {nr nb : Nat}
theorem Mk.keep2 {S S' : Hs} {m : Nat} {ps : List (Nat × Nat)} {f : Nat → List Nat} (h : Mk S m ps f) {A : List Nat} (k : Kp A S S') (hA : m ∉ A) (hB : ∀ p ∈ ps, p.2 ∉ A) : Mk S' m ps f :=
  ⟨k.get h.d hA, h.n1, h.n2, h.lo, fun p hp => k.get (h.li p hp) (hB p hp), h.no⟩
theorem Mk.get {S : Hs} {m : Nat} {ps : List (Nat × Nat)} {f : Nat → List Nat} (h : Mk S m ps f) (n : Nat) : (∃ r, (n, r) ∈ ps ∧ dGet (.ref m) (nD n) S = some (some (.ref r)) ∧ S[r]? = some (.lst (nDs (f n)))) ∨ (dGet (.ref m) (nD n) S = some none ∧ f n = []) := by
  by_cases hn : n ∈ ps.map (·.1)
  · rw [List.mem_map] at hn
    obtain ⟨⟨n', r⟩, hm', rfl⟩ := hn
    exact .inl ⟨r, hm', by rw [dGet_dic h.d key_int, mkDic_get h.n1 hm'], h.li _ hm'⟩
  · exact .inr ⟨by rw [dGet_dic h.d key_int, mkDic_none hn], h.no n hn⟩
structure Wrk (arrs : List Arr) (labels : List Str) (rows : List Row) (f : Nat → List Nat) (nr : Nat) (L W : List Nat) : Prop where
  nd : L.Nodup
  lt : ∀ x ∈ L, x < nr
  so : ∀ x, x ∈ L ∨ x ∈ W → Sec arrs labels rows x
  ba : ∀ x : Nat, labels[x]? = some ("secret" : Str) ∨ (∃ r ∈ rows, secLoad arrs r = true ∧ r.wr = some x) → x ∈ L ∨ x ∈ W
  cl : ∀ x ∈ L, ∀ y ∈ f x, y ∈ L ∨ y ∈ W
  wl : W.length ≤ labels.length + rows.length + L.length * (3 * rows.length)
theorem Wrk.done {rows : List Row} {f : Nat → List Nat} {L W0 : List Nat} (h : Wrk arrs labels rows f nr L []) (hG : Gath arrs labels rows W0 f) (x : Nat) : x ∈ L ↔ Sec arrs labels rows x := by
  refine ⟨fun hx => h.so x (.inl hx), fun hx => ?_⟩
  have e : ∀ y, y ∈ L ∨ y ∈ ([] : List Nat) → y ∈ L := fun y hy => hy.elim id (by simp)
  induction hx with
  | param h1 => exact e _ (h.ba _ (.inl h1))
  | load h1 h2 h3 => exact e _ (h.ba _ (.inr ⟨_, h1, h2, h3⟩))
  | dep h1 h2 h3 h4 ih => exact e _ (h.cl _ ih _ ((hG.gf _ _).mpr ⟨_, h1, h2, h3⟩))
structure WhS (arrs : List Arr) (labels : List Str) (rows : List Row) (nr : Nat) (S0 : Hs) (q m s : Nat) (f : Nat → List Nat) (ps : List (Nat × Nat)) (L W : List Nat) (S : Hs) : Prop where
  wk : Wrk arrs labels rows f nr L W
  hq : S[q]? = some (.lst (nDs W))
  hs : S[s]? = some (.dic (natDic L (.bl true)))
  hm : Mk S m ps f
  ps : ∀ p ∈ ps, p.2 < s
  k : Kp [] S0 S
  q0 : S0.length ≤ q
  qm : q < m
  ms : m < s
def WhL (arrs : List Arr) (params : Nat) (blocks : List (List Row)) (labels : List Str) (q m s : Nat) (l : Ls) : Prop :=
  ∃ o4 o5 o6 o7 : Option D, l = [some (progD arrs params blocks), some (.tup (labels.map D.str)), some (.ref q), some (.ref m), o4, o5, o6, o7, some (.ref s), none]
theorem tru_lst {S : Hs} {q : Nat} {ds : List D} (h : S[q]? = some (.lst ds)) : oTru (.ref q) S = .ok (!ds.isEmpty) S := by simp [oTru, tru, h]
theorem sec5_ok {rows : List Row} {params : Nat} {blocks : List (List Row)} {S0 S : Hs} {q m s : Nat} {f : Nat → List Nat} {ps : List (Nat × Nat)} {L W0 W : List Nat} {x : Nat} {l : Ls} (hG : Gath arrs labels rows W0 f) (hx : ∀ y, Sec arrs labels rows y → y < nr)
    (hsz : labels.length + rows.length + (nr + 1) * (3 * rows.length + 1) ≤ 1000000) (hL : WhL arrs params blocks labels q m s l) (h : WhS arrs labels rows nr S0 q m s f ps L (W ++ [x]) S) :
    Wp NoX (lb_sec5 l S) fun r S' => ∃ l' L' W', r = .nx l' ∧ WhL arrs params blocks labels q m s l' ∧ WhS arrs labels rows nr S0 q m s f ps L' W' S' ∧ ((L' = L ∧ W' = W) ∨ (L'.length = L.length + 1 ∧ W'.length ≤ W.length + 3 * rows.length)) := by
  obtain ⟨o4, o5, o6, o7, rfl⟩ := hL
  have hxn := hx x (h.wk.so x (.inr (by simp)))
  have hLl := nodup_len h.wk.nd h.wk.lt
  have hpop : oPop (.ref q) [] S = .ok (nD x) (S.set q (.lst (nDs W))) := by
    simp [oPop, h.hq]
  unfold lb_sec5
  simp_arith [hasTy_lst h.hq, hpop]
  have ne1 : s ≠ q := by have := h.qm; have := h.ms; omega
  have hs1 : (S.set q (.lst (nDs W)))[s]? = some (.dic (natDic L (.bl true))) := by rw [List.getElem?_set_ne (Ne.symm ne1)]; exact h.hs
  have hq1 : (S.set q (.lst (nDs W)))[q]? = some (.lst (nDs W)) := get_put h.hq
  have hM1 : Mk (S.set q (.lst (nDs W))) m ps f := h.hm.keep (Kp.set (A := [q]) (by simp)) (by simpa using h.qm)
  have hK1 : Kp [] S0 (S.set q (.lst (nDs W))) := h.k.setNew h.q0
  simp_arith [oNotIn_dic hs1]
  by_cases hin : x ∈ L
  · simp_arith [hin]
    refine ⟨_, L, W, rfl, ⟨_, _, _, _, rfl⟩, ⟨⟨h.wk.nd, h.wk.lt, fun y hy => h.wk.so y (hy.imp id fun h => by simp [h]), fun y hy => ?_, fun y hy z hz => ?_, ?_⟩, hq1, hs1, hM1, h.ps, hK1, h.q0, h.qm, h.ms⟩, .inl ⟨rfl, rfl⟩⟩
    · rcases h.wk.ba y hy with h1 | h1
      · exact .inl h1
      · simp only [List.mem_append, List.mem_singleton] at h1
        rcases h1 with h1 | rfl
        · exact .inr h1
        · exact .inl hin
    · rcases h.wk.cl y hy z hz with h1 | h1
      · exact .inl h1
      · simp only [List.mem_append, List.mem_singleton] at h1
        rcases h1 with h1 | rfl
        · exact .inr h1
        · exact .inl hin
    · have := h.wk.wl; simp at this; omega
  · have hlen : (natDic L (.bl true)).length < sizeLine := by simp only [natDic, List.length_map]; refine line_big ?_; have : (nr + 1) * 1 ≤ (nr + 1) * (3 * rows.length + 1) := Nat.mul_le_mul_left _ (by omega); omega
    have hset : oSet (.ref s) (nD x) (.bl true) (S.set q (.lst (nDs W))) = .ok () ((S.set q (.lst (nDs W))).set s (.dic (natDic (addN L x) (.bl true)))) := by
      rw [oSet_dic hs1 key_int hlen, natDic_set]
    simp_arith [hin, hset]
    generalize hS2 : (S.set q (.lst (nDs W))).set s (.dic (natDic (addN L x) (.bl true))) = S2
    have hs2 : S2[s]? = some (.dic (natDic (addN L x) (.bl true))) := by rw [← hS2]; exact get_put hs1
    have hq2 : S2[q]? = some (.lst (nDs W)) := by rw [← hS2, List.getElem?_set_ne ne1]; exact hq1
    have hM2 : Mk S2 m ps f := by
      rw [← hS2]
      exact hM1.keep2 (Kp.set (A := [s]) (by simp)) (by simp; have := h.ms; omega) (fun p hp => by simp; have := h.ps p hp; omega)
    have hK2 : Kp [] S0 S2 := by rw [← hS2]; exact hK1.setNew (by have := h.q0; have := h.qm; have := h.ms; omega)
    have htd : hasTy "dict" (.ref m) S2 = true := by simp [hasTy, hM2.d]
    simp_arith [hasTy_lst hq2, htd]
    have hadd : addN L x = L ++ [x] := by simp [addN, hin]
    have hwl := h.wk.wl
    have hfl := hG.gfl x
    have hmul : L.length * (3 * rows.length) ≤ nr * (3 * rows.length) := Nat.mul_le_mul_right _ hLl
    have hmul2 : (nr + 1) * (3 * rows.length + 1) = nr * (3 * rows.length) + 3 * rows.length + nr + 1 := by rw [Nat.add_mul, Nat.mul_add, Nat.mul_one, Nat.one_mul]; omega
    simp only [List.length_append, List.length_singleton] at hwl
    have fin : ∀ (S3 : Hs), Kp [q] S2 S3 → S3[q]? = some (.lst (nDs (W ++ f x))) → ∃ l' L' W', F.nx [some (progD arrs params blocks), some (D.tup (labels.map D.str)), some (D.ref q), some (D.ref m), o4, o5, some (nD x), o7, some (D.ref s), none] = .nx l' ∧ WhL arrs params blocks labels q m s l' ∧ WhS arrs labels rows nr S0 q m s f ps L' W' S3 ∧ ((L' = L ∧ W' = W) ∨ (L'.length = L.length + 1 ∧ W'.length ≤ W.length + 3 * rows.length)) := by
      intro S3 k3 hq3
      refine ⟨_, L ++ [x], W ++ f x, rfl, ⟨_, _, _, _, rfl⟩, ⟨⟨by rw [← hadd]; exact nodup_addN h.wk.nd, ?_, ?_, ?_, ?_, ?_⟩, hq3, ?_, ?_, h.ps, ?_, h.q0, h.qm, h.ms⟩, .inr ⟨by simp, by simp; omega⟩⟩
      · intro y hy
        simp only [List.mem_append, List.mem_singleton] at hy
        rcases hy with hy | rfl
        · exact h.wk.lt y hy
        · exact hxn
      · intro y hy
        simp only [List.mem_append, List.mem_singleton] at hy
        rcases hy with (hy | rfl) | (hy | hy)
        · exact h.wk.so y (.inl hy)
        · exact h.wk.so y (.inr (by simp))
        · exact h.wk.so y (.inr (by simp [hy]))
        · obtain ⟨r, h1, h2, h3⟩ := (hG.gf x y).mp hy
          exact .dep h1 h2 h3 (h.wk.so x (.inr (by simp)))
      · intro y hy
        have := h.wk.ba y hy
        simp only [List.mem_append, List.mem_singleton] at this ⊢
        rcases this with h1 | h1 | h1
        · exact .inl (.inl h1)
        · exact .inr (.inl h1)
        · exact .inl (.inr h1)
      · intro y hy z hz
        simp only [List.mem_append, List.mem_singleton] at hy ⊢
        rcases hy with hy | rfl
        · have := h.wk.cl y hy z hz
          simp only [List.mem_append, List.mem_singleton] at this
          rcases this with h1 | h1 | h1
          · exact .inl (.inl h1)
          · exact .inr (.inl h1)
          · exact .inl (.inr h1)
        · exact .inr (.inr hz)
      · simp only [List.length_append, List.length_singleton, Nat.add_mul, Nat.one_mul]; omega
      · rw [← hadd]; exact k3.get hs2 (by simpa using ne1)
      · exact hM2.keep k3 (by simpa using h.qm)
      · exact hK2.after k3 (by intro i hi hi2; simp at hi; subst hi; have := h.q0; omega)
    have hlt2 : (S2 ++ [O.lst []]).length = S2.length + 1 := by simp
    have hqA : (S2 ++ [O.lst []])[q]? = some (.lst (nDs W)) := by rw [List.getElem?_append_left (Real.lt hq2)]; exact hq2
    have hMA : Mk (S2 ++ [O.lst []]) m ps f := hM2.keep (A := []) Kp.new (by simp)
    rcases hMA.get x with ⟨r, hr, e1, e2⟩ | ⟨e1, e2⟩
    · have hbig : (nDs W).length + (nDs (f x)).length ≤ sizeLine := by simp only [List.length_map]; exact line_le (by omega)
      have hex : oExtend (.ref q) [.ref r] (S2 ++ [O.lst []]) = .ok .non ((S2 ++ [O.lst []]).set q (.lst (nDs W ++ nDs (f x)))) := by simp only [oExtend, hqA, e2, if_pos hbig]
      simp_arith [e1, hex]
      exact fin _ (Kp.new.trans (Kp.set (by simp))) (by rw [get_put hqA]; simp)
    · have e3 : (S2 ++ [O.lst []])[S2.length]? = some (.lst []) := get_end
      have hbig : (nDs W).length + ([] : List D).length ≤ sizeLine := by simp only [List.length_map, List.length_nil]; exact line_le (by omega)
      have hex : oExtend (.ref q) [.ref S2.length] (S2 ++ [O.lst []]) = .ok .non ((S2 ++ [O.lst []]).set q (.lst (nDs W ++ []))) := by simp only [oExtend, hqA, e3, if_pos hbig]
      simp_arith [e1, hex]
      exact fin _ (Kp.new.trans (Kp.set (by simp))) (by rw [get_put hqA, e2]; simp)
theorem secR_ok {S : Hs} {params : Nat} {blocks : List (List Row)} (hr : ∀ b ∈ blocks, ∀ r ∈ b, r.ok nr arrs.length nb) (hl : labels.length ≤ nr)
    (hsz : labels.length + blocks.flatten.length + (nr + 1) * (3 * blocks.flatten.length + 1) ≤ 100000) :
    Wp NoX (m_secR [progD arrs params blocks, .tup (labels.map D.str)] S) fun v S' => ∃ s L, v = .ref s ∧ S'[s]? = some (.dic (natDic L (.bl true))) ∧ L.Nodup ∧ (∀ x, x ∈ L ↔ Sec arrs labels blocks.flatten x) ∧ Kp [] S S' ∧ S.length ≤ s := by
  refine wp_def0 rfl ?_
  unfold b_secR
  have hen : ∀ S, oEnum [.tup (labels.map D.str)] S = .ok (.enum (.t (labels.map D.str))) S := fun S => rfl
  simp_arith [hen, wipeL]
  refine lc_pure (α := Nat) (fun k => .tup [nD k, .str (labels.getD k "")]) (xs := List.range labels.length) (fun k => if labels.getD k "" = "secret" then some (nD k) else none) ?_ (by simp; omega) ?_ ?_
  · intro S' _ k hk
    simp only [List.length_range] at hk
    simp only [itGo, Sq.at, Option.bind_some, List.length_map]
    rw [if_pos hk]
    rcases Nat.lt_or_ge k labels.length with h | h
    · simp [List.getElem?_eq_getElem h, List.getElem?_range h, List.getD]
    · rw [List.getElem?_eq_none (by simpa using h), List.getElem?_eq_none (by simpa using h)]; rfl
  · intro k hk S' k1
    refine ⟨_, rfl, ?_⟩
    simp only [List.zip_cons_cons, List.zip_nil_right, List.foldl_cons, List.foldl_nil]
    simp_arith [oEq_str]
    refine ⟨Kp.refl, ?_⟩
    by_cases hc : labels.getD k "" = "secret"
    · rw [if_pos (by simpa using hc), if_pos hc]; exact ⟨Kp.refl, rfl⟩
    · rw [if_neg (by simpa using hc), if_neg hc]
  · intro S1 hq1 k1
    simp_arith [prog_blocks, oIt]
    have hW : (List.range labels.length).filterMap (fun k => if labels.getD k "" = "secret" then some (nD k) else none) = nDs ((List.range labels.length).filter fun k => decide (labels.getD k "" = "secret")) := by
      generalize List.range labels.length = xs
      induction xs with
      | nil => rfl
      | cons a xs ih =>
        simp only [List.filterMap_cons, List.filter_cons, decide_eq_true_eq]
        split <;> rename_i e <;> split at e <;> simp_all
    rw [hW] at hq1
    generalize hWW : (List.range labels.length).filter (fun k => decide (labels.getD k "" = "secret")) = W0 at hq1
    have hqlt := Real.lt hq1
    have hG0 : Gath arrs labels [] W0 (fun _ => []) := by
      refine ⟨fun x => ?_, fun x y => by simp, ?_, fun x => by simp⟩
      · rw [← hWW]
        simp only [List.mem_filter, List.mem_range, decide_eq_true_eq, List.not_mem_nil, false_and, exists_false, or_false]
        constructor
        · rintro ⟨h1, h2⟩
          rw [← h2]; simp [List.getD, List.getElem?_eq_getElem h1]
        · intro h
          obtain ⟨h1, h2⟩ := List.getElem?_eq_some_iff.mp h
          exact ⟨h1, by simpa [List.getD, List.getElem?_eq_getElem h1] using h2⟩
      · rw [← hWW]; have := List.length_filter_le (fun k => decide (labels.getD k "" = "secret")) (List.range labels.length); simp at this; simp; omega
    have hflat : ∀ pre b post, blocks = pre ++ b :: post → pre.flatten.length + b.length ≤ blocks.flatten.length := by
      rintro pre b post rfl; simp <;> omega
    refine wp_tupM blockD (fun pre l' S' => SecL arrs params blocks labels S.length S1.length l' ∧ SecS arrs labels S S.length S1.length pre.flatten S') ?_ ?_ ?_
    · refine ⟨⟨_, _, _, _, rfl⟩, W0, fun _ => [], [], hG0, ?_, ⟨by simp [mkDic], by simp, by simp, by simp, by simp, by simp⟩, by simp, k1.app, Nat.le_refl _, hqlt⟩
      rw [List.getElem?_append_left hqlt]; exact hq1
    · rintro pre b post l' S' hsp ⟨⟨o4, o5, o6, o7, rfl⟩, hS⟩
      have hlen := hflat pre b post hsp
      have hb : b ∈ blocks := by rw [hsp]; simp
      simp_arith []
      unfold lb_sec3
      simp_arith [oIt]
      refine wp_tupM Row.D (fun pre2 l' S' => SecL arrs params blocks labels S.length S1.length l' ∧ SecS arrs labels S S.length S1.length (pre.flatten ++ pre2) S') ⟨⟨_, _, _, _, rfl⟩, by simpa using hS⟩ ?_ ?_
      · rintro pre2 r post2 l2 S2 hsp2 ⟨⟨o4, o5, o6, o7, rfl⟩, hS2⟩
        have hrb : r ∈ b := by rw [hsp2]; simp
        have hl2 : pre2.length ≤ b.length := by rw [hsp2]; simp
        simp_arith []
        refine (sec2_ok (hr b hb r hrb) ⟨_, _, _, _, rfl⟩ (by rfl) hS2 (by rw [List.length_append]; omega) (by omega)).mono (fun _ _ _ _ h => h) ?_
        rintro x S3 ⟨l3, rfl, h3, h4⟩
        exact ⟨h3, by rw [← List.append_assoc]; exact h4⟩
      · rintro l2 S2 ⟨hL2, hS2⟩
        exact ⟨hL2, by simpa using hS2⟩
    · rintro l' S' ⟨⟨o4, o5, o6, o7, rfl⟩, W, f, ps, hG, hq, hM, hps, hK, hq0, hqm⟩
      simp_arith []
      have hxl : ∀ y, Sec arrs labels blocks.flatten y → y < nr := fun y hy => hy.lt hl (nb := nb) (na := arrs.length) (fun r hr' => by
        rw [List.mem_flatten] at hr'
        obtain ⟨b, h1, h2⟩ := hr'
        exact hr b h1 r h2)
      have hqlt' := Real.lt hq
      refine wp_while (fun mm l2 S2 => ∃ L W, WhL arrs params blocks labels S.length S1.length S'.length l2 ∧ WhS arrs labels blocks.flatten nr S S.length S1.length S'.length f ps L W S2 ∧ mm = (nr - L.length) * (3 * blocks.flatten.length + 1) + W.length) ?_ _ _ _
        ⟨[], W, ⟨_, _, _, _, rfl⟩, ⟨⟨by simp, by simp, ?_, ?_, by simp, ?_⟩, ?_, by simp [natDic], hM.keep (A := []) Kp.new (by simp), fun p hp => Real.lt (hM.li p hp), hK.app, hq0, hqm, Real.lt hM.d⟩, rfl⟩
      · rintro mm l2 S2 ⟨L, W2, ⟨p4, p5, p6, p7, rfl⟩, hw, rfl⟩
        unfold c_sec4
        simp_arith [tru_lst hw.hq]
        rcases List.eq_nil_or_concat W2 with rfl | ⟨W3, x, rfl⟩
        · simp_arith [List.isEmpty_nil]
          exact ⟨_, L, rfl, hw.hs, hw.wk.nd, hw.wk.done hG, hw.k, by have := hw.q0; have := hw.qm; have := hw.ms; omega⟩
        · rw [List.concat_eq_append] at *
          have hne : (nDs (W3 ++ [x])).isEmpty = false := by simp
          simp only [hne, Bool.not_false, if_true]
          refine (sec5_ok hG hxl (by omega) ⟨_, _, _, _, rfl⟩ hw).mono (fun _ _ _ _ h => h) ?_
          rintro r S3 ⟨l3, L3, W4, rfl, hL3, hw3, hc⟩
          have hLl := nodup_len hw3.wk.nd hw3.wk.lt
          refine ⟨_, ?_, L3, W4, hL3, hw3, rfl⟩
          rcases hc with ⟨rfl, rfl⟩ | ⟨e1, e2⟩
          · simp
          · rw [e1]
            have : nr - L.length = (nr - (L.length + 1)) + 1 := by omega
            rw [this, Nat.add_mul, Nat.one_mul]
            simp only [List.length_append, List.length_singleton]; omega
      · rintro x (h | h)
        · simp at h
        · rcases (hG.gw x).mp h with h | ⟨r, h1, h2, h3⟩
          · exact .param h
          · exact .load h1 h2 h3
      · intro x hx; exact .inr ((hG.gw x).mpr hx)
      · have := hG.gwl; simp only [List.length_nil, Nat.zero_mul, Nat.add_zero]; exact this
      · rw [List.getElem?_append_left hqlt']; exact hq
end
end Ly
set_option Elab.async false
set_option linter.all false
set_option maxRecDepth 100000
namespace Ly
open PySem PySem.Spec L2
open PyProof.Rows hiding St
local macro_rules | `(tactic| simp_arith [$ls,*]) => `(tactic| simp only [Ly.line_le, Ly.atX_no, Ly.v_ok, Ly.v_bad, Ly.v_bind, Ly.k_bd, Ly.v_at, Ly.v_bin, Ly.k_bi, Ly.k_bi2, Ly.v_var, Ly.v_c, Ly.v_un, Ly.k_un, Ly.v_if, Ly.k_ife, Ly.v_and, Ly.k_and, Ly.k_and2, Ly.v_or, Ly.k_or, Ly.k_or2, Ly.v_tup, Ly.k_tup, Ly.v_lst, Ly.k_lst, Ly.v_call, Ly.k_ca, Ly.v_fn, Ly.k_fn, Ly.v_bm, Ly.k_bm, Ly.k_bm2, Ly.v_sl, Ly.k_sl, Ly.k_sl2, Ly.k_sl3, Ly.v_ixK, Ly.k_ixk, Ly.v_inK, Ly.k_ink, Ly.v_notinK, Ly.k_nink, Ly.v_getK2, Ly.k_gk2, Ly.k_gk, Ly.v_get2, Ly.k_g2, Ly.k_g22, Ly.k_g23, Ly.v_nil, Ly.v_cons, Ly.k_co, Ly.k_co2, Ly.v_no, Ly.v_some, Ly.k_so, Ly.k_cm, Ly.v_cmp, Ly.v_tru, Ly.k_tr, Ly.v_notB, Ly.k_no, Ly.v_andB, Ly.k_an, Ly.v_orB, Ly.k_orb, Ly.v_yes, Ly.v_inKB, Ly.k_inkB, Ly.v_notinKB, Ly.k_ninkB, Ly.v_set, Ly.k_st, Ly.v_expr, Ly.k_ex, Ly.v_ret, Ly.k_re, Ly.v_retN, Ly.v_pass, Ly.v_brk, Ly.v_cnt, Ly.v_seq, Ly.k_sq_nx, Ly.k_sq_rt, Ly.k_sq_bk, Ly.k_sq_ct, Ly.v_ifS, Ly.k_ifs, Ly.v_asg, Ly.k_as, Ly.k_as2, Ly.v_aug, Ly.k_au, Ly.v_for, Ly.k_fo, Ly.v_it, Ly.k_it, Ly.k_ij, Ly.v_rng1, Ly.v_rng2, Ly.v_enum, Ly.v_zip, Ly.v_ez, Ly.v_gN, Ly.v_gsN, Ly.v_gsC, Ly.k_gc, Ly.v_gT, Ly.v_gTw, Ly.v_gSb, Ly.k_gsb, Ly.k_gsb2, Ly.k_gsb3, Ly.k_en_rt, Ly.k_en_nx, Ly.k_tu_nx, Ly.k_tu_ct, Ly.k_tu_bk, Ly.k_tu_rt, Ly.v_lc, Ly.k_lc, Ly.v_augI, Ly.k_ag, Ly.k_ag2, Ly.k_ag3, Ly.k_ag4, Ly.k_ag5, Ly.v_del, Ly.k_dl, Ly.k_dl2, Ly.v_setd, Ly.v_pop2, Ly.k_d3, Ly.k_d32, Ly.k_d33, Ly.v_get1, Ly.k_g1, Ly.k_g12, Ly.v_rg1, Ly.k_rg, Ly.v_rg2, Ly.k_rg2, Ly.k_rg22, Ly.v_dicK, Ly.v_dicT, Ly.v_dc, Ly.k_dc, List.getElem?_cons_zero, List.getElem?_cons_succ, List.set_cons_zero, List.set_cons_succ, List.length_cons, List.length_nil, List.map_cons, List.map_nil, List.cons_append, List.nil_append, List.replicate, if_true, if_false, Bool.false_eq_true, Bool.not_true, Bool.not_false, Bool.true_and, Bool.false_and, decide_true, decide_false, decide_eq_true_eq, Nat.zero_add, Nat.reduceAdd, Nat.reduceLeDiff, true_and, and_true, $ls,*])
def Row.regs (r : Row) : List Nat := r.wr.toList ++ r.rd
section
variable {arrs : List Arr} {labels : List Str} {nr nb : Nat}
structure NmS (S0 : Hs) (nr s : Nat) (P : Nat → Prop) (S : Hs) : Prop where
  ex : ∃ L : List Nat, S[s]? = some (.dic (natDic L (.bl true))) ∧ L.Nodup ∧ (∀ x ∈ L, x < nr) ∧ ∀ x, x ∈ L ↔ P x
  k : Kp [] S0 S
  lo : S0.length ≤ s
theorem NmS.mono {S0 S S' : Hs} {s : Nat} {P P' : Nat → Prop} (h : NmS S0 nr s P S) (k : Kp [] S S') (e : ∀ x, P x ↔ P' x) : NmS S0 nr s P' S' := by
  obtain ⟨L, h1, h2, h3, h4⟩ := h.ex
  exact ⟨⟨L, k.get h1 (by simp), h2, h3, fun x => (h4 x).trans (e x)⟩, h.k.trans k, h.lo⟩
theorem seqAt_lst {S : Hs} {i : Nat} {ds : List D} (h : S[i]? = some (.lst ds)) : seqAt S i = some ds := by simp [seqAt, seqD, h]
theorem oIt_lst {S : Hs} {i : Nat} {ds : List D} (h : S[i]? = some (.lst ds)) : oIt (.ref i) S = .ok (.lst i) S := by simp [oIt, seqAt_lst h]
def pubArr (arrs : List Arr) (i : Nat) : Bool := match arrs[i]? with
  | some a => decide (a.label = "public")
  | none => false
def watched (arrs : List Arr) : Row → List Nat
  | .branch a _ _ => [a]
  | .out a => [a]
  | .load _ _ a => [a]
  | .store i a v => if pubArr arrs i = true then [a, v] else [a]
  | .op s _ a b => if s = "div" ∨ s = "mod" then [a, b] else []
  | _ => []
noncomputable def b_watched : MS := (mSeq (mSet 2 (mBin oIx (mVar 0) (mC (.int 0))))
    (mSeq (mIfS (mCmp oIn (mVar 2) (mTup (lCons (mC (.str "branch")) (lCons (mC (.str "out")) lNil)))) (mRet (mTup (lCons (mBin oIx (mVar 0) (mC (.int 1))) lNil))) mPass)
    (mSeq (mIfS (mCmp oEq (mVar 2) (mC (.str "load"))) (mRet (mTup (lCons (mBin oIx (mVar 0) (mC (.int 3))) lNil))) mPass)
    (mSeq (mIfS (mCmp oEq (mVar 2) (mC (.str "store"))) (mRet (mIf (mCmp oEq (mBin oIx (mBin oIx (mVar 1) (mBin oIx (mVar 0) (mC (.int 1)))) (mC (.int 2))) (mC (.str "public"))) (mTup (lCons (mBin oIx (mVar 0) (mC (.int 2))) (lCons (mBin oIx (mVar 0) (mC (.int 3))) lNil))) (mTup (lCons (mBin oIx (mVar 0) (mC (.int 2))) lNil)))) mPass)
    (mSeq (mIfS (mAndB (mCmp oEq (mVar 2) (mC (.str "op"))) (mCmp oIn (mBin oIx (mVar 0) (mC (.int 1))) (mTup (lCons (mC (.str "div")) (lCons (mC (.str "mod")) lNil))))) (mRet (mTup (lCons (mBin oIx (mVar 0) (mC (.int 3))) (lCons (mBin oIx (mVar 0) (mC (.int 4))) lNil)))) mPass)
    (mRet (mTup lNil)))))))
noncomputable def m_watched : MD := mDef 2 1 b_watched
theorem oIn_lit2 {S : Hs} {x a b : Str} : oIn (.str x) (.tup [.str a, .str b]) S = .ok (.bl (decide (x = a ∨ x = b))) S := by
  have := oIn_strs (S := S) (x := x) (xs := [a, b]) (.inl rfl)
  simpa using this
theorem ix0 {S : Hs} {d : D} {ds : List D} : oIx (.tup (d :: ds)) (.int 0) S = .ok d S := oIx_tup (n := 0) rfl
theorem ix1 {S : Hs} {d e : D} {ds : List D} : oIx (.tup (d :: e :: ds)) (.int 1) S = .ok e S := oIx_tup (n := 1) rfl
theorem ix2 {S : Hs} {d e f : D} {ds : List D} : oIx (.tup (d :: e :: f :: ds)) (.int 2) S = .ok f S := oIx_tup (n := 2) rfl
theorem ix3 {S : Hs} {d e f g : D} {ds : List D} : oIx (.tup (d :: e :: f :: g :: ds)) (.int 3) S = .ok g S := oIx_tup (n := 3) rfl
theorem ix4 {S : Hs} {d e f g h : D} {ds : List D} : oIx (.tup (d :: e :: f :: g :: h :: ds)) (.int 4) S = .ok h S := oIx_tup (n := 4) rfl
theorem watched_ok {S : Hs} {r : Row} (hr : r.ok nr arrs.length nb) : Wp NoX (m_watched [r.D, .tup (arrs.map Arr.D)] S) fun v S' => v = .tup (nDs (watched arrs r)) ∧ S' = S := by
  refine wp_def0 rfl ?_
  unfold b_watched
  cases r with
  | store i a v =>
    have hi : i < arrs.length := hr.1
    simp_arith [Row.D, ix0, ix1, ix2, ix3, oIn_lit2, oEq_str, ofString_inj, String.reduceEq, or_false, or_true, false_or, arr_at hi, arr_label]
    by_cases hp : arrs[i].label = "public"
    · simp [hp, watched, pubArr, List.getElem?_eq_getElem hi]
    · simp [hp, watched, pubArr, List.getElem?_eq_getElem hi]
  | op s d a b =>
    by_cases hs : s = "div" ∨ s = "mod"
    · simp_arith [Row.D, ix0, ix1, ix2, ix3, ix4, oIn_lit2, oEq_str, ofString_inj, String.reduceEq, or_false, or_true, false_or, hs]
      simp [watched, hs]
    · simp_arith [Row.D, ix0, ix1, ix2, ix3, ix4, oIn_lit2, oEq_str, ofString_inj, String.reduceEq, or_false, or_true, false_or, hs]
      simp [watched, hs]
  | _ =>
    simp_arith [Row.D, ix0, ix1, ix2, ix3, ix4, oIn_lit2, oEq_str, ofString_inj, String.reduceEq, or_false, or_true, false_or]
    simp [watched]
end
noncomputable def lb_keep0 : MS := (mIfS (mCmp oIn (mVar 5) (mVar 2)) (mRet (mC (.bl false))) mPass)
noncomputable def lb_keep1 : MS := (mFor (mIt (mFn m_watched (lCons (mVar 4) (lCons (mBin oIx (mVar 0) (mC (.int 0))) lNil)))) (gN 5) lb_keep0)
noncomputable def lb_keep2 : MS := (mFor (mIt (mVar 3)) (gN 4) lb_keep1)
noncomputable def b_keep : MS := (mSeq (mSet 2 (mFn m_secR (lCons (mVar 0) (lCons (mVar 1) lNil))))
    (mSeq (mFor (mIt (mBin oIx (mVar 0) (mC (.int 2)))) (gN 3) lb_keep2)
    (mRet (mC (.bl true)))))
noncomputable def m_keep : MD := mDef 2 4 b_keep
section
variable {arrs : List Arr} {labels : List Str} {nr nb : Nat}
def Keeps (arrs : List Arr) (P : Nat → Prop) (rows : List Row) : Prop := ∀ r ∈ rows, ∀ x ∈ watched arrs r, ¬ P x
theorem keep_ok {S : Hs} {params : Nat} {blocks : List (List Row)} (hr : ∀ b ∈ blocks, ∀ r ∈ b, r.ok nr arrs.length nb) (hl : labels.length ≤ nr)
    (hsz : labels.length + blocks.flatten.length + (nr + 1) * (3 * blocks.flatten.length + 1) ≤ 100000) :
    Wp NoX (m_keep [progD arrs params blocks, .tup (labels.map D.str)] S) fun v S' => (∃ b : Bool, v = .bl b ∧ (b = true ↔ Keeps arrs (Sec arrs labels blocks.flatten) blocks.flatten)) ∧ Kp [] S S' := by
  refine wp_def0 rfl ?_
  unfold b_keep
  simp_arith []
  refine Wp.call (secR_ok hr hl hsz) ?_
  rintro _ S1 ⟨s, L, rfl, hs, hLn, hLs, k1, hs0⟩
  simp_arith [prog_blocks, oIt]
  have bad : ∀ (r : Row) (x : Nat), r ∈ blocks.flatten → x ∈ watched arrs r → x ∈ L → (∃ b : Bool, D.bl false = .bl b ∧ (b = true ↔ Keeps arrs (Sec arrs labels blocks.flatten) blocks.flatten)) ∧ Kp [] S S1 := fun r x h1 h2 h3 =>
    ⟨⟨false, rfl, by simp; exact fun h => h r h1 x h2 ((hLs x).mp h3)⟩, k1⟩
  refine wp_tupM blockD (fun pre l' S' => (∃ o3 o4 o5 : Option D, l' = [some (progD arrs params blocks), some (.tup (labels.map D.str)), some (.ref s), o3, o4, o5]) ∧ S' = S1 ∧ Keeps arrs (· ∈ L) pre.flatten) ⟨⟨_, _, _, rfl⟩, rfl, by simp [Keeps]⟩ ?_ ?_
  · rintro pre b post l' S' hsp ⟨⟨o3, o4, o5, rfl⟩, rfl, hk⟩
    have hb : b ∈ blocks := by rw [hsp]; simp
    simp_arith []
    unfold lb_keep2
    simp_arith [oIt]
    refine wp_tupM Row.D (fun pre2 l' S2 => (∃ o3 o4 o5 : Option D, l' = [some (progD arrs params blocks), some (.tup (labels.map D.str)), some (.ref s), o3, o4, o5]) ∧ S2 = S' ∧ Keeps arrs (· ∈ L) (pre.flatten ++ pre2)) ⟨⟨_, _, _, rfl⟩, rfl, by simpa using hk⟩ ?_ ?_
    · rintro pre2 r post2 l2 S2 hsp2 ⟨⟨o3, o4, o5, rfl⟩, rfl, hk2⟩
      have hrb : r ∈ b := by rw [hsp2]; simp
      have hrf : r ∈ blocks.flatten := List.mem_flatten.mpr ⟨b, hb, hrb⟩
      simp_arith []
      unfold lb_keep1
      simp_arith [prog_arrs]
      refine Wp.call (watched_ok (hr b hb r hrb)) ?_
      rintro _ S3 ⟨rfl, rfl⟩
      simp_arith [oIt]
      refine wp_tupM nD (fun pre3 l' S4 => (∃ o3 o4 o5 : Option D, l' = [some (progD arrs params blocks), some (.tup (labels.map D.str)), some (.ref s), o3, o4, o5]) ∧ S4 = S3 ∧ ∀ x ∈ pre3, x ∉ L) ⟨⟨_, _, _, rfl⟩, rfl, by simp⟩ ?_ ?_
      · rintro pre3 x post3 l3 S4 hsp3 ⟨⟨o3, o4, o5, rfl⟩, rfl, hk3⟩
        have hxw : x ∈ watched arrs r := by rw [hsp3]; simp
        unfold lb_keep0
        simp_arith [oIn_dic hs]
        by_cases hx : x ∈ L
        · simp_arith [hx]
          exact bad r x hrf hxw hx
        · simp_arith [hx]
          refine ⟨⟨_, _, _, rfl⟩, fun y hy => ?_⟩
          rcases List.mem_append.mp hy with hy | hy
          · exact hk3 y hy
          · simp only [List.mem_singleton] at hy; subst hy; exact hx
      · rintro l3 S4 ⟨⟨o3, o4, o5, rfl⟩, rfl, hk3⟩
        refine ⟨⟨_, _, _, rfl⟩, rfl, ?_⟩
        rw [← List.append_assoc]
        intro r' hr' y hy
        rcases List.mem_append.mp hr' with h | h
        · exact hk2 r' h y hy
        · simp only [List.mem_singleton] at h; subst h; exact hk3 y hy
    · rintro l2 S2 ⟨hL2, rfl, hk2⟩
      exact ⟨hL2, rfl, by simpa using hk2⟩
  · rintro l' S' ⟨⟨o3, o4, o5, rfl⟩, rfl, hk⟩
    simp_arith []
    exact ⟨⟨true, rfl, by simp; exact fun r h1 x h2 h3 => hk r h1 x h2 ((hLs x).mpr h3)⟩, k1⟩
end
end Ly
set_option Elab.async false
set_option linter.all false
set_option maxRecDepth 100000
namespace Ly
open PySem PySem.Spec L2
open PyProof.Rows hiding St
theorem eq_nil {S : Hs} {i j : Nat} {xs : List D} (hi : S[i]? = some (.lst xs)) (hj : S[j]? = some (.lst [])) (hp : D.plains xs = true) (hd : PyData.depthAll (D.toPs xs) ≤ 30) : cEqD (.ref i) (.ref j) S = some xs.isEmpty := by
  unfold cEqD
  rw [(pd_lst hi hp hd).1, (pd_lst hj rfl (by simp [D.toPs, PyData.depthAll])).1]
  simp only [cEqS]
  rw [if_pos ⟨(pd_lst hi hp hd).2, (pd_lst hj rfl (by simp [D.toPs, PyData.depthAll])).2⟩]
  cases xs with
  | nil => rfl
  | cons a xs => rfl
theorem depth_nats {L : List Nat} : PyData.depthAll (D.toPs (nDs L)) ≤ 30 := by
  refine depthAll_mem _ fun y hy => ?_
  rw [List.mem_map] at hy; obtain ⟨n, _, rfl⟩ := hy
  simp [D.toP, PyData.depth]
theorem oNeg_int {a : Int} {S : Hs} : oNeg (.int a) S = .ok (.int (-a)) S := nr rfl
theorem rg_nats {n : Nat} : rgD 0 (n : Int) = nDs (List.range n) := by simp [rgD, nDs, nD]
end Ly
set_option Elab.async false
set_option linter.all false
set_option maxRecDepth 100000
namespace Ly
open PySem PySem.Spec L2
open PyProof.Rows hiding St
section
variable {S S' g : Hs} {i j : Nat} {row : List Int} {sd many : Int}
theorem Upd.kp (u : Upd i j sd S S') : Kp [i] S S' := by
  obtain ⟨a, g, _, rfl⟩ := u
  exact (Kp.set (by simp)).app
theorem DrwA.new (h : DrwA S i j row sd) : DrwA (S ++ g) i j row sd := (Upd.new (g := g) h).drw h
theorem DrwA.kp (h : DrwA S i j row sd) (k : Kp [] S S') : DrwA S' i j row sd := by
  obtain ⟨a, h⟩ := h
  exact ⟨a, k.get h.d (by simp), k.get h.r (by simp), h.ne, h.nn⟩
theorem DrwA.lt (h : DrwA S i j row sd) : i < S.length := by obtain ⟨a, h⟩ := h; exact Real.lt h.d
end
section
variable {X : XP} {f : M} {fs : List M} {l : Ls} {S : Hs} {acc y : Str} {Q : D → Hs → Prop}
end
end Ly
set_option Elab.async false
set_option linter.all false
set_option maxRecDepth 100000
namespace Ly
open PySem PySem.Spec L2
open PyProof.Rows hiding St
local macro_rules | `(tactic| simp_arith [$ls,*]) => `(tactic| simp only [Ly.line_le, Ly.atX_no, Ly.v_ok, Ly.v_bad, Ly.v_bind, Ly.k_bd, Ly.v_at, Ly.v_bin, Ly.k_bi, Ly.k_bi2, Ly.v_var, Ly.v_c, Ly.v_un, Ly.k_un, Ly.v_if, Ly.k_ife, Ly.v_and, Ly.k_and, Ly.k_and2, Ly.v_or, Ly.k_or, Ly.k_or2, Ly.v_tup, Ly.k_tup, Ly.v_lst, Ly.k_lst, Ly.v_call, Ly.k_ca, Ly.v_fn, Ly.k_fn, Ly.v_bm, Ly.k_bm, Ly.k_bm2, Ly.v_sl, Ly.k_sl, Ly.k_sl2, Ly.k_sl3, Ly.v_ixK, Ly.k_ixk, Ly.v_inK, Ly.k_ink, Ly.v_notinK, Ly.k_nink, Ly.v_getK2, Ly.k_gk2, Ly.k_gk, Ly.v_get2, Ly.k_g2, Ly.k_g22, Ly.k_g23, Ly.v_nil, Ly.v_cons, Ly.k_co, Ly.k_co2, Ly.v_no, Ly.v_some, Ly.k_so, Ly.k_cm, Ly.v_cmp, Ly.v_tru, Ly.k_tr, Ly.v_notB, Ly.k_no, Ly.v_andB, Ly.k_an, Ly.v_orB, Ly.k_orb, Ly.v_yes, Ly.v_inKB, Ly.k_inkB, Ly.v_notinKB, Ly.k_ninkB, Ly.v_set, Ly.k_st, Ly.v_expr, Ly.k_ex, Ly.v_ret, Ly.k_re, Ly.v_retN, Ly.v_pass, Ly.v_brk, Ly.v_cnt, Ly.v_seq, Ly.k_sq_nx, Ly.k_sq_rt, Ly.k_sq_bk, Ly.k_sq_ct, Ly.v_ifS, Ly.k_ifs, Ly.v_asg, Ly.k_as, Ly.k_as2, Ly.v_aug, Ly.k_au, Ly.v_for, Ly.k_fo, Ly.v_it, Ly.k_it, Ly.k_ij, Ly.v_rng1, Ly.v_rng2, Ly.v_enum, Ly.v_zip, Ly.v_ez, Ly.v_gN, Ly.v_gsN, Ly.v_gsC, Ly.k_gc, Ly.v_gT, Ly.v_gTw, Ly.v_gSb, Ly.k_gsb, Ly.k_gsb2, Ly.k_gsb3, Ly.k_en_rt, Ly.k_en_nx, Ly.k_tu_nx, Ly.k_tu_ct, Ly.k_tu_bk, Ly.k_tu_rt, Ly.v_lc, Ly.k_lc, Ly.v_augI, Ly.k_ag, Ly.k_ag2, Ly.k_ag3, Ly.k_ag4, Ly.k_ag5, Ly.v_del, Ly.k_dl, Ly.k_dl2, Ly.v_setd, Ly.v_pop2, Ly.k_d3, Ly.k_d32, Ly.k_d33, Ly.v_get1, Ly.k_g1, Ly.k_g12, Ly.v_rg1, Ly.k_rg, Ly.v_rg2, Ly.k_rg2, Ly.k_rg22, Ly.v_dicK, Ly.v_dicT, Ly.v_dc, Ly.k_dc, List.getElem?_cons_zero, List.getElem?_cons_succ, List.set_cons_zero, List.set_cons_succ, List.length_cons, List.length_nil, List.map_cons, List.map_nil, List.cons_append, List.nil_append, List.replicate, if_true, if_false, Bool.false_eq_true, Bool.not_true, Bool.not_false, Bool.true_and, Bool.false_and, decide_true, decide_false, decide_eq_true_eq, Nat.zero_add, Nat.reduceAdd, Nat.reduceLeDiff, true_and, and_true, $ls,*])
noncomputable def b_nextD : MS := (mSeq (mSet 2 (mBin oIx (mVar 0) (mC (.str "at"))))
    (mSeq (mAsg (mBin oAdd (mVar 2) (mC (.int 1))) (gSb (mVar 0) (mC (.str "at"))))
    (mSeq (mIfS (mCmp oLt (mVar 2) (mCall bLen (lCons (mBin oIx (mVar 0) (mC (.str "row"))) lNil))) (mRet (mBin oMod (mCall bInt (lCons (mBin oIx (mBin oIx (mVar 0) (mC (.str "row"))) (mVar 2)) lNil)) (mVar 1))) mPass)
    (mSeq (mSet 3 (mBin oMod (mCall bInt (lCons (mBin oMul (mBin oAdd (mBin oAdd (mBin oIx (mVar 0) (mC (.str "seed"))) (mBin oMul (mC (.int 17)) (mVar 2))) (mC (.int 3))) (mC (.int 48271))) lNil)) (mC (.int 2147483647))))
    (mRet (mBin oMod (mBin oFdiv (mBin oMod (mCall bInt (lCons (mBin oAdd (mBin oMul (mVar 3) (mVar 3)) (mVar 2)) lNil)) (mC (.int 2147483629))) (mC (.int 7))) (mVar 1)))))))
noncomputable def m_nextD : MD := mDef 2 2 b_nextD
def DrwN (S : Hs) (i j : Nat) : Prop := ∃ row a sd, Drw S i j row a sd
section
variable {S S' g : Hs} {i j : Nat} {many : Int}
theorem DrwN.kp {A : List Nat} (h : DrwN S i j) (k : Kp A S S') (hi : i ∉ A) (hj : j ∉ A) : DrwN S' i j := by
  obtain ⟨row, a, sd, h⟩ := h
  exact ⟨row, a, sd, k.get h.d hi, k.get h.r hj, h.ne, h.nn⟩
theorem DrwN.kp0 (h : DrwN S i j) (k : Kp [] S S') : DrwN S' i j := h.kp k (by simp) (by simp)
theorem DrwN.new (h : DrwN S i j) : DrwN (S ++ g) i j := h.kp0 Kp.new
theorem DrwN.lt (h : DrwN S i j) : i < S.length := by obtain ⟨row, a, sd, h⟩ := h; exact Real.lt h.d
theorem DrwN.ltj (h : DrwN S i j) : j < S.length := by obtain ⟨row, a, sd, h⟩ := h; exact Real.lt h.r
theorem DrwN.ne (h : DrwN S i j) : i ≠ j := by obtain ⟨row, a, sd, h⟩ := h; exact h.ne
theorem nextD_ok (h : DrwN S i j) (hm : 0 < many) : Wp NoX (m_nextD [.ref i, .int many] S) fun v S' => ∃ x : Nat, v = nD x ∧ (x : Int) < many ∧ DrwN S' i j ∧ Kp [i] S S' ∧ S'.length = S.length := by
  obtain ⟨row, a, sd, h⟩ := h
  have nat : ∀ z : Int, 0 ≤ z → z < many → ∃ x : Nat, D.int z = nD x ∧ (x : Int) < many := fun z h0 h1 => ⟨z.toNat, by simp only [nD]; rw [Int.toNat_of_nonneg h0], by omega⟩
  have hd := h.d
  have d0 : S[i]? = some (.dic (drawsK (.ref j) (.int a) (.int sd))) := hd
  have nn := h.nn
  have h2 : (S.set i (drawsO j (a + 1) sd))[i]? = some (.dic (drawsK (.ref j) (.int (a + 1)) (.int sd))) := get_put hd
  have hr2 : (S.set i (drawsO j (a + 1) sd))[j]? = some (.lst (row.map D.int)) := by rw [List.getElem?_set_ne h.ne]; exact h.r
  have hK : Kp [i] S (S.set i (drawsO j (a + 1) sd)) := Kp.set (by simp)
  have hN : DrwN (S.set i (drawsO j (a + 1) sd)) i j := ⟨row, a + 1, sd, h2, hr2, h.ne, by omega⟩
  have hrest : (S.set i (drawsO j (a + 1) sd)).length = S.length := by simp
  have e3 : oSet (.ref i) (.str "at") (.int (a + 1)) S = .ok () (S.set i (drawsO j (a + 1) sd)) := by
    rw [oSet_dic d0 key_str (by rw [drawsK_len]; decide), drawsK_set]; rfl
  refine wp_def0 rfl ?_
  unfold b_nextD
  simp_arith [oIx_dic d0 key_str (drawsK_at _ _ _), oAdd_int, e3, oIx_dic h2 key_str (drawsK_row _ _ _), oIx_dic h2 key_str (drawsK_seed _ _ _), bLen_lst hr2, oLt_int, List.length_map]
  by_cases hl : a < (row.length : Int)
  · have hx : oIx (.ref j) (.int a) (S.set i (drawsO j (a + 1) sd)) = .ok (.int (row.getD a.toNat 0)) (S.set i (drawsO j (a + 1) sd)) := by
      have : a.toNat < row.length := by omega
      exact oIx_lst hr2 nn (by simpa using hl) (by simp [List.getD, List.getElem?_eq_getElem this])
    simp_arith [hl, hx, bInt_int, oMod_int hm]
    obtain ⟨x, e, hx⟩ := nat _ (Int.emod_nonneg _ (by omega)) (Int.emod_lt_of_pos _ hm)
    exact ⟨x, e, hx, hN, hK, hrest⟩
  · have m1 : IntMulOk 17 a := mulok_l (by decide)
    have m2 : ∀ c : Int, IntMulOk c 48271 := fun c => mulok_r (by decide)
    have m3 : ∀ c : Int, IntMulOk (c % 2147483647) (c % 2147483647) := fun c => mulok_r (by omega)
    simp_arith [hl, oMul_int m1, oMul_int (m2 _), oMod_int (show (0:Int) < 2147483647 by decide), bInt_int, oMul_int (m3 _), oMod_int (show (0:Int) < 2147483629 by decide), oFdiv_int (show (0:Int) < 7 by decide) (show Nat.log2 7 < 9000 by decide), oMod_int hm, oAdd_int]
    obtain ⟨x, e, hx⟩ := nat _ (Int.emod_nonneg _ (by omega)) (Int.emod_lt_of_pos _ hm)
    exact ⟨x, e, hx, hN, hK, hrest⟩
end
theorem cutD_from {ds : List D} {k : Nat} : cutD ds (some (k : Int)) none = ds.drop k := by
  unfold cutD
  rw [HT.sIx_nat, HT.sIx_none]
  by_cases h : k ≤ ds.length
  · rw [Nat.min_eq_left h, List.take_of_length_le (by simp)]
  · rw [Nat.min_eq_right (by omega), List.drop_of_length_le (Nat.le_refl _), List.drop_of_length_le (by omega)]; simp
theorem oSl_lst {S : Hs} {i : Nat} {ds : List D} {a b : Option Int} (h : S[i]? = some (.lst ds)) : oSl (.ref i) a b S = .ok (.ref S.length) (S ++ [.lst (cutD ds a b)]) := by simp [oSl, h]
theorem tix0 {xs : List D} {d : D} {S : Hs} : oIx (.tup (d :: xs)) (.int 0) S = .ok d S := by simp [oIx, L2.atI, L2.ixN]
theorem tix1 {xs : List D} {d e : D} {S : Hs} : oIx (.tup (d :: e :: xs)) (.int 1) S = .ok e S := by
  have : (1 : Int) < ((d :: e :: xs).length : Int) := by simp only [List.length_cons]; omega
  simp only [oIx, L2.atI, L2.ixN]; rw [if_pos (by decide), if_pos this]; rfl
end Ly
set_option Elab.async false
set_option linter.all false
set_option maxRecDepth 100000
namespace Ly
open PySem PySem.Spec L2
open PyProof.Rows hiding St
local macro_rules | `(tactic| simp_arith [$ls,*]) => `(tactic| simp only [Ly.line_le, Ly.atX_no, Ly.v_ok, Ly.v_bad, Ly.v_bind, Ly.k_bd, Ly.v_at, Ly.v_bin, Ly.k_bi, Ly.k_bi2, Ly.v_var, Ly.v_c, Ly.v_un, Ly.k_un, Ly.v_if, Ly.k_ife, Ly.v_and, Ly.k_and, Ly.k_and2, Ly.v_or, Ly.k_or, Ly.k_or2, Ly.v_tup, Ly.k_tup, Ly.v_lst, Ly.k_lst, Ly.v_call, Ly.k_ca, Ly.v_fn, Ly.k_fn, Ly.v_bm, Ly.k_bm, Ly.k_bm2, Ly.v_sl, Ly.k_sl, Ly.k_sl2, Ly.k_sl3, Ly.v_ixK, Ly.k_ixk, Ly.v_inK, Ly.k_ink, Ly.v_notinK, Ly.k_nink, Ly.v_getK2, Ly.k_gk2, Ly.k_gk, Ly.v_get2, Ly.k_g2, Ly.k_g22, Ly.k_g23, Ly.v_nil, Ly.v_cons, Ly.k_co, Ly.k_co2, Ly.v_no, Ly.v_some, Ly.k_so, Ly.k_cm, Ly.v_cmp, Ly.v_tru, Ly.k_tr, Ly.v_notB, Ly.k_no, Ly.v_andB, Ly.k_an, Ly.v_orB, Ly.k_orb, Ly.v_yes, Ly.v_inKB, Ly.k_inkB, Ly.v_notinKB, Ly.k_ninkB, Ly.v_set, Ly.k_st, Ly.v_expr, Ly.k_ex, Ly.v_ret, Ly.k_re, Ly.v_retN, Ly.v_pass, Ly.v_brk, Ly.v_cnt, Ly.v_seq, Ly.k_sq_nx, Ly.k_sq_rt, Ly.k_sq_bk, Ly.k_sq_ct, Ly.v_ifS, Ly.k_ifs, Ly.v_asg, Ly.k_as, Ly.k_as2, Ly.v_aug, Ly.k_au, Ly.v_for, Ly.k_fo, Ly.v_it, Ly.k_it, Ly.k_ij, Ly.v_rng1, Ly.v_rng2, Ly.v_enum, Ly.v_zip, Ly.v_ez, Ly.v_gN, Ly.v_gsN, Ly.v_gsC, Ly.k_gc, Ly.v_gT, Ly.v_gTw, Ly.v_gSb, Ly.k_gsb, Ly.k_gsb2, Ly.k_gsb3, Ly.k_en_rt, Ly.k_en_nx, Ly.k_tu_nx, Ly.k_tu_ct, Ly.k_tu_bk, Ly.k_tu_rt, Ly.v_lc, Ly.k_lc, Ly.v_augI, Ly.k_ag, Ly.k_ag2, Ly.k_ag3, Ly.k_ag4, Ly.k_ag5, Ly.v_del, Ly.k_dl, Ly.k_dl2, Ly.v_setd, Ly.v_pop2, Ly.k_d3, Ly.k_d32, Ly.k_d33, Ly.v_get1, Ly.k_g1, Ly.k_g12, Ly.v_rg1, Ly.k_rg, Ly.v_rg2, Ly.k_rg2, Ly.k_rg22, Ly.v_dicK, Ly.v_dicT, Ly.v_dc, Ly.k_dc, List.getElem?_cons_zero, List.getElem?_cons_succ, List.set_cons_zero, List.set_cons_succ, List.length_cons, List.length_nil, List.map_cons, List.map_nil, List.cons_append, List.nil_append, List.replicate, if_true, if_false, Bool.false_eq_true, Bool.not_true, Bool.not_false, Bool.true_and, Bool.false_and, decide_true, decide_false, decide_eq_true_eq, Nat.zero_add, Nat.reduceAdd, Nat.reduceLeDiff, true_and, and_true, $ls,*])
def opN (s : Str) (a b : Nat) : Nat :=
  if s = "+" then (a + b) % 4294967296
  else if s = "-" then (a + 4294967296 - b) % 4294967296
  else if s = "*" then a * b % 4294967296
  else if s = "&" then a &&& b
  else if s = "|" then a ||| b
  else if s = "^" then a ^^^ b
  else if s = "<<" then a * 2 ^ (b % 32) % 4294967296
  else if s = ">>" then a / 2 ^ (b % 32)
  else if s = "==" then (if a = b then 1 else 0)
  else if s = "<" then (if a < b then 1 else 0)
  else if s = "<=" then (if a ≤ b then 1 else 0)
  else if s = "div" then a / b
  else a % b
abbrev gw : D := .int 4294967295
section
variable {a b : Nat} {S : Hs}
end
end Ly
set_option Elab.async false
set_option linter.all false
set_option maxRecDepth 100000
namespace Ly
open PySem PySem.Spec L2
open PyProof.Rows hiding St
local macro_rules | `(tactic| simp_arith [$ls,*]) => `(tactic| simp only [Ly.line_le, Ly.atX_no, Ly.v_ok, Ly.v_bad, Ly.v_bind, Ly.k_bd, Ly.v_at, Ly.v_bin, Ly.k_bi, Ly.k_bi2, Ly.v_var, Ly.v_c, Ly.v_un, Ly.k_un, Ly.v_if, Ly.k_ife, Ly.v_and, Ly.k_and, Ly.k_and2, Ly.v_or, Ly.k_or, Ly.k_or2, Ly.v_tup, Ly.k_tup, Ly.v_lst, Ly.k_lst, Ly.v_call, Ly.k_ca, Ly.v_fn, Ly.k_fn, Ly.v_bm, Ly.k_bm, Ly.k_bm2, Ly.v_sl, Ly.k_sl, Ly.k_sl2, Ly.k_sl3, Ly.v_ixK, Ly.k_ixk, Ly.v_inK, Ly.k_ink, Ly.v_notinK, Ly.k_nink, Ly.v_getK2, Ly.k_gk2, Ly.k_gk, Ly.v_get2, Ly.k_g2, Ly.k_g22, Ly.k_g23, Ly.v_nil, Ly.v_cons, Ly.k_co, Ly.k_co2, Ly.v_no, Ly.v_some, Ly.k_so, Ly.k_cm, Ly.v_cmp, Ly.v_tru, Ly.k_tr, Ly.v_notB, Ly.k_no, Ly.v_andB, Ly.k_an, Ly.v_orB, Ly.k_orb, Ly.v_yes, Ly.v_inKB, Ly.k_inkB, Ly.v_notinKB, Ly.k_ninkB, Ly.v_set, Ly.k_st, Ly.v_expr, Ly.k_ex, Ly.v_ret, Ly.k_re, Ly.v_retN, Ly.v_pass, Ly.v_brk, Ly.v_cnt, Ly.v_seq, Ly.k_sq_nx, Ly.k_sq_rt, Ly.k_sq_bk, Ly.k_sq_ct, Ly.v_ifS, Ly.k_ifs, Ly.v_asg, Ly.k_as, Ly.k_as2, Ly.v_aug, Ly.k_au, Ly.v_for, Ly.k_fo, Ly.v_it, Ly.k_it, Ly.k_ij, Ly.v_rng1, Ly.v_rng2, Ly.v_enum, Ly.v_zip, Ly.v_ez, Ly.v_gN, Ly.v_gsN, Ly.v_gsC, Ly.k_gc, Ly.v_gT, Ly.v_gTw, Ly.v_gSb, Ly.k_gsb, Ly.k_gsb2, Ly.k_gsb3, Ly.k_en_rt, Ly.k_en_nx, Ly.k_tu_nx, Ly.k_tu_ct, Ly.k_tu_bk, Ly.k_tu_rt, Ly.v_lc, Ly.k_lc, Ly.v_augI, Ly.k_ag, Ly.k_ag2, Ly.k_ag3, Ly.k_ag4, Ly.k_ag5, Ly.v_del, Ly.k_dl, Ly.k_dl2, Ly.v_setd, Ly.v_pop2, Ly.k_d3, Ly.k_d32, Ly.k_d33, Ly.v_get1, Ly.k_g1, Ly.k_g12, Ly.v_rg1, Ly.k_rg, Ly.v_rg2, Ly.k_rg2, Ly.k_rg22, Ly.v_dicK, Ly.v_dicT, Ly.v_dc, Ly.k_dc, List.getElem?_cons_zero, List.getElem?_cons_succ, List.set_cons_zero, List.set_cons_succ, List.length_cons, List.length_nil, List.map_cons, List.map_nil, List.cons_append, List.nil_append, List.replicate, if_true, if_false, Bool.false_eq_true, Bool.not_true, Bool.not_false, Bool.true_and, Bool.false_and, decide_true, decide_false, decide_eq_true_eq, Nat.zero_add, Nat.reduceAdd, Nat.reduceLeDiff, true_and, and_true, $ls,*])
def d_CODE_FORMSM : List (Str × D) := [("const", (.wt [(.str "write"), (.str "word")])), ("op", (.wt [(.str "sign"), (.str "write"), (.str "read"), (.str "read")])), ("select", (.wt [(.str "write"), (.str "read"), (.str "read"), (.str "read")])), ("load", (.wt [(.str "write"), (.str "read"), (.str "base"), (.str "mask")])), ("store", (.wt [(.str "read"), (.str "base"), (.str "mask"), (.str "read")])), ("out", (.wt [(.str "read")])), ("jump", (.wt [(.str "target")])), ("branch", (.wt [(.str "read"), (.str "target")])), ("stop", (.wt [(.str "read")]))]
def d_REGISTERSM : D := (.int 16)
noncomputable def lb_writes_0M : MS := (mIfS (mCmp oEq (mVar 2) (mC (.str "write"))) (mRet (mVar 1)) mPass)
noncomputable def b_writesM : MS := (mSeq (mFor (mZip (lCons (mSl (mVar 0) (oSome (mC (.int 1))) oNo) (lCons (mIxK d_CODE_FORMSM (mBin oIx (mVar 0) (mC (.int 0)))) lNil))) (gT 2 (gsC (gN 1) (gsC (gN 2) gsN))) lb_writes_0M)
    (mRet (mUn oNeg (mC (.int 1)))))
noncomputable def m_writesM : MD := mDef 1 2 b_writesM
inductive MRow where
  | const (d n : Nat) | op (s : Str) (d a b : Nat) | select (d c a b : Nat) | load (d a base mask : Nat) | store (a base mask v : Nat) | out (a : Nat) | jump (t : Nat) | branch (a t : Nat) | stop (a : Nat)
def MRow.D : MRow → D
  | .const d n => .tup [.str "const", nD d, nD n]
  | .op s d a b => .tup [.str "op", .str s, nD d, nD a, nD b]
  | .select d c a b => .tup [.str "select", nD d, nD c, nD a, nD b]
  | .load d a base mask => .tup [.str "load", nD d, nD a, nD base, nD mask]
  | .store a base mask v => .tup [.str "store", nD a, nD base, nD mask, nD v]
  | .out a => .tup [.str "out", nD a]
  | .jump t => .tup [.str "jump", nD t]
  | .branch a t => .tup [.str "branch", nD a, nD t]
  | .stop a => .tup [.str "stop", nD a]
def MRow.ok (many : Nat) : MRow → Prop
  | .const d n => d < 16 ∧ n < 4294967296
  | .op s d a b => s ∈ signsL ∧ d < 16 ∧ a < 16 ∧ b < 16
  | .select d c a b => d < 16 ∧ c < 16 ∧ a < 16 ∧ b < 16
  | .load d a base mask => d < 16 ∧ a < 16 ∧ base ≤ 1000000 ∧ mask < 4294967296
  | .store a base mask v => a < 16 ∧ base ≤ 1000000 ∧ mask < 4294967296 ∧ v < 16
  | .out a => a < 16
  | .jump t => t < many
  | .branch a t => a < 16 ∧ t < many
  | .stop a => a < 16
def MRow.last : MRow → Bool
  | .jump _ => true
  | .stop _ => true
  | _ => false
structure Rg where
  base : Nat
  size : Nat
  label : Str
def Rg.D (r : Rg) : D := .tup [nD r.base, nD r.size, .str r.label]
def Contig : Nat → List Rg → Prop
  | _, [] => True
  | b, r :: rs => r.base = b ∧ 0 < r.size ∧ Contig (b + r.size) rs
def sizes (rs : List Rg) : Nat := (rs.map (·.size)).sum
structure CodeOk (regs : List Rg) (rows : List MRow) : Prop where
  cg : Contig 0 regs
  small : sizes regs ≤ 5000000
  ok : ∀ r ∈ rows, r.ok rows.length
  ne : 0 < rows.length
  len : rows.length ≤ 100000
  fin : ∀ r, rows[rows.length - 1]? = some r → r.last = true
def codeD (regs : List Rg) (rows : List MRow) : D := .tup [.tup (regs.map Rg.D), .tup (rows.map MRow.D)]
structure ContOk (regs : List Rg) (cs : List (List Nat)) : Prop where
  len : cs.map (·.length) = regs.map (·.size)
  lt : ∀ c ∈ cs, ∀ w ∈ c, w < 4294967296
abbrev Mem := Nat → Option Nat
def Mem.get (f : Mem) (a : Nat) : Nat := (f a).getD 0
def Mem.put (f : Mem) (a v : Nat) : Mem := fun x => if x = a then some v else f x
def mem0 (cs : List (List Nat)) : Mem := fun a => cs.flatten[a]?
structure PS where
  held : List Nat
  mem : Mem
  outs : List Nat
  pc : Nat
def PS.h (s : PS) (a : Nat) : Nat := s.held.getD a 0
def MRow.word (r : MRow) (h : Nat → Nat) : Nat := match r with
  | .const _ n => n
  | .op s _ a b => opN s (h a) (h b)
  | .select _ c a b => if h c ≠ 0 then h a else h b
  | _ => 0
structure PSOk (many : Nat) (s : PS) : Prop where
  len : s.held.length = 16
  lt : ∀ w ∈ s.held, w < 4294967296
  mlt : ∀ a v, s.mem a = some v → v < 4294967296
  pc : s.pc < many
section
variable {s : PS} {r : MRow} {many : Nat} {rows : List MRow} {regs : List Rg}
theorem PSOk.set (h : PSOk many s) {d w pc : Nat} (hw : w < 4294967296) (hp : pc < many) : PSOk many { s with held := s.held.set d w, pc := pc } :=
  ⟨by simp [h.len], fun x hx => by rcases List.mem_or_eq_of_mem_set hx with h1 | h1; exact h.lt x h1; omega, h.mlt, hp⟩
theorem CodeOk.row (c : CodeOk regs rows) {pc : Nat} (h : pc < rows.length) : rows[pc]? = some (rows.getD pc (.stop 0)) ∧ (rows.getD pc (.stop 0)).ok rows.length ∧ ((rows.getD pc (.stop 0)).last = false → pc + 1 < rows.length) := by
  have e : rows[pc]? = some (rows.getD pc (.stop 0)) := by simp [List.getD, List.getElem?_eq_getElem h]
  refine ⟨e, c.ok _ (List.mem_of_getElem? e), fun hl => ?_⟩
  apply Classical.byContradiction
  intro hc
  have : pc = rows.length - 1 := by omega
  subst this
  rw [c.fin _ e] at hl; cases hl
end
theorem getK_setK {kvs : List (Key × D)} {k k' : Key} {v : D} : getK (setK kvs k v) k' = if k' = k then some v else getK kvs k' := by
  unfold setK
  split
  · rename_i h
    induction kvs with
    | nil => simp at h
    | cons x kvs ih =>
      unfold getK at ih ⊢
      simp only [List.map_cons, List.find?_cons]
      by_cases hx : x.1 = k
      · rw [if_pos hx]
        by_cases hk : k' = k
        · have : decide (x.1 = k') = true := by simp [hx, hk]
          simp only [this, if_pos hk]; rfl
        · have h1 : decide (x.1 = k') = false := by simp [hx]; exact fun e => hk e.symm
          simp only [h1, if_neg hk]
          by_cases ha : (kvs.any fun kv => decide (kv.1 = k)) = true
          · have := ih ha
            rw [if_neg hk] at this; exact this
          · have e : kvs.map (fun kv => if kv.1 = k then (kv.1, v) else kv) = kvs := by
              have : ∀ kv ∈ kvs, ¬ kv.1 = k := fun kv hm e => ha (List.any_eq_true.mpr ⟨kv, hm, by simp [e]⟩)
              conv => rhs; rw [← List.map_id kvs]
              exact List.map_congr_left fun kv hm => by rw [if_neg (this kv hm)]; rfl
            rw [e]
      · rw [if_neg hx]
        have ha : (kvs.any fun kv => decide (kv.1 = k)) = true := by
          simp only [List.any_cons, Bool.or_eq_true, decide_eq_true_eq] at h
          exact h.resolve_left hx
        by_cases hk' : x.1 = k'
        · have : decide (x.1 = k') = true := by simp [hk']
          have hkk : ¬ k' = k := fun e => hx (hk'.trans e)
          simp only [this, if_neg hkk]
        · have : decide (x.1 = k') = false := by simp [hk']
          simp only [this]
          exact ih ha
  · rename_i h
    unfold getK
    rw [List.find?_append]
    by_cases hk : k' = k
    · rw [if_pos hk]
      have : kvs.find? (fun kv => decide (kv.1 = k')) = none := by
        rw [List.find?_eq_none]
        intro x hx e
        refine h (List.any_eq_true.mpr ⟨x, hx, ?_⟩)
        rw [← hk]; exact e
      rw [this]; simp [hk]
    · rw [if_neg hk]
      have : decide (k = k') = false := by simp; exact fun e => hk e.symm
      simp [this]
theorem setK_len {kvs : List (Key × D)} {k : Key} {v : D} : (setK kvs k v).length ≤ kvs.length + 1 := by
  unfold setK; split <;> simp
structure MemAt (S : Hs) (q : Nat) (f : Mem) (N : Nat) : Prop where
  ex : ∃ kvs : List (Key × D), S[q]? = some (.dic kvs) ∧ kvs.length ≤ N ∧ ∀ a : Nat, getK kvs (.inl (a : Int)) = (f a).map nD
section
variable {S S' : Hs} {q N : Nat} {f : Mem} {B : List Nat}
theorem MemAt.kp (h : MemAt S q f N) (k : Kp B S S') (hq : q ∉ B) : MemAt S' q f N := by
  obtain ⟨kvs, h1, h2⟩ := h.ex; exact ⟨kvs, k.get h1 hq, h2⟩
theorem MemAt.lt (h : MemAt S q f N) : q < S.length := by obtain ⟨kvs, h1, _⟩ := h.ex; exact Real.lt h1
theorem MemAt.put (h : MemAt S q f N) (hN : N ≤ 10000000) (a v : Nat) : ∃ o, oSet (.ref q) (nD a) (nD v) S = .ok () (S.set q o) ∧ MemAt (S.set q o) q (f.put a v) (N + 1) := by
  obtain ⟨kvs, h1, h2, h3⟩ := h.ex
  refine ⟨.dic (setK kvs (.inl (a : Int)) (nD v)), oSet_dic h1 key_int (Nat.lt_of_le_of_lt (Nat.le_trans h2 hN) (by decide)), ⟨_, get_put h1, Nat.le_trans setK_len (by omega), fun x => ?_⟩⟩
  rw [getK_setK, h3]
  unfold Mem.put
  by_cases hx : x = a
  · subst hx; simp
  · have : ¬ ((.inl (x : Int) : Key) = .inl (a : Int)) := by intro e; have := Sum.inl.inj e; omega
    rw [if_neg this, if_neg hx]
theorem MemAt.ix (h : MemAt S q f N) {a v : Nat} (ha : f a = some v) : oIx (.ref q) (nD a) S = .ok (nD v) S := by
  obtain ⟨kvs, h1, h2, h3⟩ := h.ex
  exact oIx_dic h1 key_int (by rw [h3, ha]; rfl)
theorem MemAt.ty (h : MemAt S q f N) : hasTy "dict" (.ref q) S = true := by
  obtain ⟨kvs, h1, h2, h3⟩ := h.ex
  simp [hasTy, h1]
end
theorem contig_bound : ∀ {regs : List Rg} {b : Nat}, Contig b regs → ∀ r ∈ regs, b ≤ r.base ∧ r.base + r.size ≤ b + sizes regs
  | [], _, _, r, hr => by simp at hr
  | x :: xs, b, h, r, hr => by
    obtain ⟨h1, h2, h3⟩ := h
    have e : sizes (x :: xs) = x.size + sizes xs := by simp [sizes]
    rcases List.mem_cons.mp hr with rfl | hr
    · omega
    · have := contig_bound h3 r hr; omega
section
variable {S : Hs} {q N : Nat} {f : Mem} {regs : List Rg}
end
section
variable {S : Hs} {q many : Nat} {s : PS} {r : MRow} {fA : Nat → Addr}
def MRow.wr : MRow → Nat
  | .const d _ => d
  | .op _ d _ _ => d
  | .select d _ _ _ => d
  | .load d _ _ _ => d
  | _ => 0
end
theorem ContOk.flat {cs : List (List Nat)} {regs : List Rg} (hc : ContOk regs cs) : cs.flatten.length = sizes regs := by
  rw [List.length_flatten, hc.len]; rfl
theorem ContOk.dom {cs : List (List Nat)} {regs : List Rg} (hc : ContOk regs cs) : ∀ a, a < sizes regs → (mem0 cs a).isSome = true := fun a ha => by
  unfold mem0; rw [List.getElem?_eq_getElem (by rw [hc.flat]; exact ha)]; rfl
structure Run (many : Nat) (regs : List Rg) (qm qh qo N k : Nat) (s : PS) (S : Hs) : Prop where
  ok : PSOk many s
  mem : MemAt S qm s.mem (N + k)
  held : S[qh]? = some (.lst (s.held.map nD))
  outs : S[qo]? = some (.lst (s.outs.map nD))
  short : s.outs.length ≤ k
  dom : ∀ a, a < sizes regs → (s.mem a).isSome = true
section
variable {S S' : Hs} {many qm qh qo N k : Nat} {s : PS} {r : MRow} {fA : Nat → Addr} {regs : List Rg} {rows : List MRow} {cs : List (List Nat)}
theorem Run.kp {B : List Nat} (h : Run many regs qm qh qo N k s S) (hk : Kp B S S') (b1 : qm ∉ B) (b2 : qh ∉ B) (b3 : qo ∉ B) : Run many regs qm qh qo N k s S' :=
  ⟨h.ok, h.mem.kp hk b1, hk.get h.held b2, hk.get h.outs b3, h.short, h.dom⟩
theorem MemAt.more {f : Mem} {M : Nat} (h : MemAt S qm f N) (hn : N ≤ M) : MemAt S qm f M := by
  obtain ⟨kvs, h1, h2, h3⟩ := h.ex; exact ⟨kvs, h1, by omega, h3⟩
theorem MemAt.set {f : Mem} {o : O} (h : MemAt S qm f N) (hn : qm ≠ qh) : MemAt (S.set qh o) qm f N :=
  h.kp (B := [qh]) (Kp.set (by simp)) (by simpa using hn)
theorem get_set_ne {o o' : O} {i j : Nat} (h : S[i]? = some o) (hn : i ≠ j) : (S.set j o')[i]? = some o := by
  rw [List.getElem?_set_ne (fun e => hn e.symm)]; exact h
theorem Run.pc (h : Run many regs qm qh qo N k s S) {pc : Nat} (hp : pc < many) : Run many regs qm qh qo N (k + 1) { s with pc := pc } S :=
  ⟨⟨h.ok.len, h.ok.lt, h.ok.mlt, hp⟩, h.mem.more (by omega), h.held, h.outs, by have := h.short; show s.outs.length ≤ k + 1; omega, h.dom⟩
theorem Run.out (h : Run many regs qm qh qo N k s S) (hd1 : qm ≠ qo) (hd2 : qh ≠ qo) {w pc : Nat} (hp : pc < many) :
    Run many regs qm qh qo N (k + 1) { s with outs := s.outs ++ [w], pc := pc } (S.set qo (.lst (s.outs.map nD ++ [nD w]))) :=
  ⟨⟨h.ok.len, h.ok.lt, h.ok.mlt, hp⟩, (h.mem.more (by omega)).set hd1, get_set_ne h.held hd2, by rw [get_put h.outs]; simp, by have := h.short; simp; omega, h.dom⟩
theorem Run.put (h : Run many regs qm qh qo N k s S) (hN : N + k ≤ 10000000) (hd1 : qh ≠ qm) (hd2 : qo ≠ qm) {a w pc : Nat} (hw : w < 4294967296) (hp : pc < many) :
    ∃ o, oSet (.ref qm) (nD a) (nD w) S = .ok () (S.set qm o) ∧ Run many regs qm qh qo N (k + 1) { s with mem := s.mem.put a w, pc := pc } (S.set qm o) := by
  obtain ⟨o, h1, h2⟩ := h.mem.put hN a w
  refine ⟨o, h1, ⟨⟨h.ok.len, h.ok.lt, fun x y e => ?_, hp⟩, h2.more (by omega), get_set_ne h.held hd1, get_set_ne h.outs hd2, by have := h.short; show s.outs.length ≤ k + 1; omega, fun x hx => ?_⟩⟩
  · simp only [Mem.put] at e
    split at e
    · cases e; exact hw
    · exact h.ok.mlt x y e
  · show (s.mem.put a w x).isSome = true
    unfold Mem.put
    split
    · rfl
    · exact h.dom x hx
end
end Ly
set_option Elab.async false
set_option linter.all false
set_option maxRecDepth 100000
namespace Ly
open PySem PySem.Spec L2
open PyProof.Rows hiding St
local macro_rules | `(tactic| simp_arith [$ls,*]) => `(tactic| simp only [Ly.line_le, Ly.atX_no, Ly.v_ok, Ly.v_bad, Ly.v_bind, Ly.k_bd, Ly.v_at, Ly.v_bin, Ly.k_bi, Ly.k_bi2, Ly.v_var, Ly.v_c, Ly.v_un, Ly.k_un, Ly.v_if, Ly.k_ife, Ly.v_and, Ly.k_and, Ly.k_and2, Ly.v_or, Ly.k_or, Ly.k_or2, Ly.v_tup, Ly.k_tup, Ly.v_lst, Ly.k_lst, Ly.v_call, Ly.k_ca, Ly.v_fn, Ly.k_fn, Ly.v_bm, Ly.k_bm, Ly.k_bm2, Ly.v_sl, Ly.k_sl, Ly.k_sl2, Ly.k_sl3, Ly.v_ixK, Ly.k_ixk, Ly.v_inK, Ly.k_ink, Ly.v_notinK, Ly.k_nink, Ly.v_getK2, Ly.k_gk2, Ly.k_gk, Ly.v_get2, Ly.k_g2, Ly.k_g22, Ly.k_g23, Ly.v_nil, Ly.v_cons, Ly.k_co, Ly.k_co2, Ly.v_no, Ly.v_some, Ly.k_so, Ly.k_cm, Ly.v_cmp, Ly.v_tru, Ly.k_tr, Ly.v_notB, Ly.k_no, Ly.v_andB, Ly.k_an, Ly.v_orB, Ly.k_orb, Ly.v_yes, Ly.v_inKB, Ly.k_inkB, Ly.v_notinKB, Ly.k_ninkB, Ly.v_set, Ly.k_st, Ly.v_expr, Ly.k_ex, Ly.v_ret, Ly.k_re, Ly.v_retN, Ly.v_pass, Ly.v_brk, Ly.v_cnt, Ly.v_seq, Ly.k_sq_nx, Ly.k_sq_rt, Ly.k_sq_bk, Ly.k_sq_ct, Ly.v_ifS, Ly.k_ifs, Ly.v_asg, Ly.k_as, Ly.k_as2, Ly.v_aug, Ly.k_au, Ly.v_for, Ly.k_fo, Ly.v_it, Ly.k_it, Ly.k_ij, Ly.v_rng1, Ly.v_rng2, Ly.v_enum, Ly.v_zip, Ly.v_ez, Ly.v_gN, Ly.v_gsN, Ly.v_gsC, Ly.k_gc, Ly.v_gT, Ly.v_gTw, Ly.v_gSb, Ly.k_gsb, Ly.k_gsb2, Ly.k_gsb3, Ly.k_en_rt, Ly.k_en_nx, Ly.k_tu_nx, Ly.k_tu_ct, Ly.k_tu_bk, Ly.k_tu_rt, Ly.v_lc, Ly.k_lc, Ly.v_augI, Ly.k_ag, Ly.k_ag2, Ly.k_ag3, Ly.k_ag4, Ly.k_ag5, Ly.v_del, Ly.k_dl, Ly.k_dl2, Ly.v_setd, Ly.v_pop2, Ly.k_d3, Ly.k_d32, Ly.k_d33, Ly.v_get1, Ly.k_g1, Ly.k_g12, Ly.v_rg1, Ly.k_rg, Ly.v_rg2, Ly.k_rg2, Ly.k_rg22, Ly.v_dicK, Ly.v_dicT, Ly.v_dc, Ly.k_dc, List.getElem?_cons_zero, List.getElem?_cons_succ, List.set_cons_zero, List.set_cons_succ, List.length_cons, List.length_nil, List.map_cons, List.map_nil, List.cons_append, List.nil_append, List.replicate, if_true, if_false, Bool.false_eq_true, Bool.not_true, Bool.not_false, Bool.true_and, Bool.false_and, decide_true, decide_false, decide_eq_true_eq, Nat.zero_add, Nat.reduceAdd, Nat.reduceLeDiff, true_and, and_true, $ls,*])
section
variable {X : XP} {S : Hs} {i j : Nat}
theorem nx {many : Int} {Q : D → Hs → Prop} (d : DrwN S i j) (hm : 0 < many) (h : ∀ (x : Nat) S', (x : Int) < many → DrwN S' i j → Kp [i] S S' → S'.length = S.length → Q (nD x) S') : Wp X (m_nextD [.ref i, .int many] S) Q := by
  refine Wp.call (nextD_ok d hm) ?_
  rintro _ S' ⟨x, rfl, h1, h2, h3, h4⟩
  exact h x S' h1 h2 h3 h4
structure CodeN (regs : List Rg) (rows : List MRow) : Prop where
  ok : CodeOk regs rows
  sz : sizes regs ≤ 150
  pos : 0 < regs.length
  few : regs.length ≤ 4
  short : rows.length ≤ 60
end
section
variable {S : Hs} {a b : Nat}
end
end Ly
set_option Elab.async false
set_option linter.all false
set_option maxRecDepth 100000
namespace Ly
open PySem PySem.Spec L2
open PyProof.Rows hiding St
local macro_rules | `(tactic| simp_arith [$ls,*]) => `(tactic| simp only [Ly.line_le, Ly.atX_no, Ly.v_ok, Ly.v_bad, Ly.v_bind, Ly.k_bd, Ly.v_at, Ly.v_bin, Ly.k_bi, Ly.k_bi2, Ly.v_var, Ly.v_c, Ly.v_un, Ly.k_un, Ly.v_if, Ly.k_ife, Ly.v_and, Ly.k_and, Ly.k_and2, Ly.v_or, Ly.k_or, Ly.k_or2, Ly.v_tup, Ly.k_tup, Ly.v_lst, Ly.k_lst, Ly.v_call, Ly.k_ca, Ly.v_fn, Ly.k_fn, Ly.v_bm, Ly.k_bm, Ly.k_bm2, Ly.v_sl, Ly.k_sl, Ly.k_sl2, Ly.k_sl3, Ly.v_ixK, Ly.k_ixk, Ly.v_inK, Ly.k_ink, Ly.v_notinK, Ly.k_nink, Ly.v_getK2, Ly.k_gk2, Ly.k_gk, Ly.v_get2, Ly.k_g2, Ly.k_g22, Ly.k_g23, Ly.v_nil, Ly.v_cons, Ly.k_co, Ly.k_co2, Ly.v_no, Ly.v_some, Ly.k_so, Ly.k_cm, Ly.v_cmp, Ly.v_tru, Ly.k_tr, Ly.v_notB, Ly.k_no, Ly.v_andB, Ly.k_an, Ly.v_orB, Ly.k_orb, Ly.v_yes, Ly.v_inKB, Ly.k_inkB, Ly.v_notinKB, Ly.k_ninkB, Ly.v_set, Ly.k_st, Ly.v_expr, Ly.k_ex, Ly.v_ret, Ly.k_re, Ly.v_retN, Ly.v_pass, Ly.v_brk, Ly.v_cnt, Ly.v_seq, Ly.k_sq_nx, Ly.k_sq_rt, Ly.k_sq_bk, Ly.k_sq_ct, Ly.v_ifS, Ly.k_ifs, Ly.v_asg, Ly.k_as, Ly.k_as2, Ly.v_aug, Ly.k_au, Ly.v_for, Ly.k_fo, Ly.v_it, Ly.k_it, Ly.k_ij, Ly.v_rng1, Ly.v_rng2, Ly.v_enum, Ly.v_zip, Ly.v_ez, Ly.v_gN, Ly.v_gsN, Ly.v_gsC, Ly.k_gc, Ly.v_gT, Ly.v_gTw, Ly.v_gSb, Ly.k_gsb, Ly.k_gsb2, Ly.k_gsb3, Ly.k_en_rt, Ly.k_en_nx, Ly.k_tu_nx, Ly.k_tu_ct, Ly.k_tu_bk, Ly.k_tu_rt, Ly.v_lc, Ly.k_lc, Ly.v_augI, Ly.k_ag, Ly.k_ag2, Ly.k_ag3, Ly.k_ag4, Ly.k_ag5, Ly.v_del, Ly.k_dl, Ly.k_dl2, Ly.v_setd, Ly.v_pop2, Ly.k_d3, Ly.k_d32, Ly.k_d33, Ly.v_get1, Ly.k_g1, Ly.k_g12, Ly.v_rg1, Ly.k_rg, Ly.v_rg2, Ly.k_rg2, Ly.k_rg22, Ly.v_dicK, Ly.v_dicT, Ly.v_dc, Ly.k_dc, List.getElem?_cons_zero, List.getElem?_cons_succ, List.set_cons_zero, List.set_cons_succ, List.length_cons, List.length_nil, List.map_cons, List.map_nil, List.cons_append, List.nil_append, List.replicate, if_true, if_false, Bool.false_eq_true, Bool.not_true, Bool.not_false, Bool.true_and, Bool.false_and, decide_true, decide_false, decide_eq_true_eq, Nat.zero_add, Nat.reduceAdd, Nat.reduceLeDiff, true_and, and_true, $ls,*])
def polsL : List Str := ["lru", "fifo", "plru"]
structure CS where
  e : Nat
  w : Nat
  l : Nat
  p : Str
def CS.D (c : CS) : D := .tup [nD (2 ^ c.e), nD (2 ^ c.w), nD (2 ^ c.l), .str c.p]
structure CS.ok (c : CS) : Prop where
  e : c.e ≤ 6
  w : c.w ≤ 3
  l : c.l ≤ 4
  p : c.p ∈ polsL
inductive PD where
  | taken | two (k : Nat) | hist (n : Nat)
def PD.D : PD → D
  | .taken => .tup [.str "taken"]
  | .two k => .tup [.str "two", nD (2 ^ k)]
  | .hist n => .tup [.str "history", nD n]
def PD.ok : PD → Prop
  | .taken => True
  | .two k => k ≤ 6
  | .hist n => 1 ≤ n ∧ n ≤ 6
inductive Prep where
  | data (a : Nat) | fetch (a : Nat) | branch (a : Nat) (t : Bool)
def Prep.D : Prep → D
  | .data a => .tup [.str "data", nD a]
  | .fetch a => .tup [.str "fetch", nD a]
  | .branch a t => .tup [.str "branch", nD a, .bl t]
def Prep.ok : Prep → Prop
  | .data a => a ≤ 10000
  | .fetch a => a ≤ 10000
  | .branch a _ => a ≤ 10000
structure Vis where
  n : Nat
  touch : Bool
  a : Nat
def Vis.D (v : Vis) : D := .tup [nD v.n, .str (if v.touch = true then "touch" else "drop"), nD v.a]
def Sorted : Nat → List Vis → Prop
  | _, [] => True
  | m, v :: vs => m ≤ v.n ∧ Sorted v.n vs
structure SS where
  data : CS
  fetch : CS
  pr : PD
  depth : Nat
  miss : Nat
  wrong : Nat
  before : List Prep
  visits : List Vis
def SS.D (s : SS) : D := .tup [s.data.D, s.fetch.D, s.pr.D, nD s.depth, .tup [nD s.miss, nD s.wrong], .tup (s.before.map Prep.D), .tup (s.visits.map Vis.D)]
structure SS.ok (s : SS) (N : Nat := 10) (M : Nat := 12) : Prop where
  data : s.data.ok
  fetch : s.fetch.ok
  pr : s.pr.ok
  depth : s.depth ≤ 64
  miss : s.miss ≤ 100
  wrong1 : 1 ≤ s.wrong
  wrong : s.wrong ≤ 100
  before : ∀ b ∈ s.before, b.ok
  beforeN : s.before.length ≤ M
  visits : ∀ v ∈ s.visits, v.n ≤ 100 ∧ v.a ≤ 10000
  sorted : Sorted 0 s.visits
  visitsN : s.visits.length ≤ N
section
variable {X : XP} {S : Hs} {i j : Nat}
end
end Ly
set_option Elab.async false
set_option linter.all false
set_option maxRecDepth 100000
namespace Ly
open PySem PySem.Spec L2
open PyProof.Rows hiding St
inductive Dt (m : Nat) : Nat → D → Prop
  | non {n : Nat} : Dt m n .non
  | bl {n : Nat} (b : Bool) : Dt m n (.bl b)
  | int {n : Nat} (i : Int) : Dt m n (.int i)
  | str {n : Nat} {x : Str} (h : PyData.strOk x = true) : Dt m n (.str x)
  | tup {n : Nat} {xs : List D} : xs.length ≤ m → (∀ x ∈ xs, Dt m n x) → Dt m (n + 1) (.tup xs)
theorem Dt.up {m m' : Nat} (hm : m ≤ m') : ∀ {n n' : Nat} {d : D}, Dt m n d → n ≤ n' → Dt m' n' d := by
  intro n
  induction n with
  | zero => intro n' d h _; cases h <;> constructor <;> assumption
  | succ n ih =>
    intro n' d h hn
    cases h with
    | non => exact .non
    | bl b => exact .bl b
    | int i => exact .int i
    | str x => exact .str x
    | tup hl hx =>
      obtain ⟨k, rfl⟩ : ∃ k, n' = k + 1 := ⟨n' - 1, by omega⟩
      exact .tup (Nat.le_trans hl hm) fun x hx' => ih (hx x hx') (by omega)
theorem Dt.part {m n : Nat} {xs : List D} (h : Dt m n (.tup xs)) : ∀ x ∈ xs, Dt m n x := by
  cases h with | tup hl hx => exact fun x h => (hx x h).up (Nat.le_refl _) (Nat.le_succ _)
theorem Dt.plain {m : Nat} : ∀ {n : Nat} {d : D}, Dt m n d → d.plain = true ∧ d.toP.depth ≤ n + 1 := by
  intro n
  induction n with
  | zero => intro d h; cases h <;> refine ⟨by first | rfl | (simp only [D.plain]; assumption), ?_⟩ <;> simp [D.toP, PyData.depth]
  | succ n ih =>
    intro d h
    cases h with
    | non => refine ⟨rfl, ?_⟩; simp [D.toP, PyData.depth]
    | bl b => refine ⟨rfl, ?_⟩; simp [D.toP, PyData.depth]
    | int i => refine ⟨rfl, ?_⟩; simp [D.toP, PyData.depth]
    | str x => refine ⟨x, ?_⟩; simp [D.toP, PyData.depth]
    | tup hl hx =>
      refine ⟨?_, ?_⟩
      · simp only [D.plain]; rw [plains_mem]; exact fun x h => (ih (hx x h)).1
      · simp only [D.toP, PyData.depth]
        have := depthAll_mem _ fun x h => (ih (hx x h)).2
        omega
def isT : D → Bool | .tup _ => true | _ => false
section
variable {m n : Nat} {d : D} {S : Hs}
theorem it (h : Dt m n d) : oIsi "tuple" d S = .ok (.bl (isT d)) S := by cases h <;> rfl
end
def nmB (lo hi : Int) : D → Bool | .int i => decide (lo ≤ i ∧ i ≤ hi) | _ => false
section
variable {X : XP} {op op' : D → D → Hs → R D} {f g h : M} {l : Ls} {S : Hs} {Q : D → Hs → Prop} {x y : D}
def chK (X : XP) (op op' : D → D → Hs → R D) (g h : M) (l : Ls) (Q : D → Hs → Prop) : D → Hs → Prop := fun x S => Wp X (g l S) fun y S2 => Wp X (op x y S2) fun d S3 => match d with
  | .bl true => Wp X (h l S3) fun z S4 => Wp X (op' y z S4) Q
  | .bl false => Q (.bl false) S3
  | _ => False
def chK2 (X : XP) (op op' : D → D → Hs → R D) (h : M) (l : Ls) (x : D) (Q : D → Hs → Prop) : D → Hs → Prop := fun y S2 => Wp X (op x y S2) fun d S3 => match d with
  | .bl true => Wp X (h l S3) fun z S4 => Wp X (op' y z S4) Q
  | .bl false => Q (.bl false) S3
  | _ => False
def chK3 (X : XP) (op' : D → D → Hs → R D) (h : M) (l : Ls) (y : D) (Q : D → Hs → Prop) : D → Hs → Prop := fun d S3 => match d with
  | .bl true => Wp X (h l S3) fun z S4 => Wp X (op' y z S4) Q
  | .bl false => Q (.bl false) S3
  | _ => False
theorem v_chn : Wp X (mChn op op' f g h l S) Q = Wp X (f l S) (chK X op op' g h l Q) := by
  unfold mChn; rw [v_bind]; congr 1; funext x S1; unfold bdK chK; rw [v_bind]; congr 1; funext y S2; unfold bdK; rw [v_bind]; congr 1; funext d S3; unfold bdK
  cases d with
  | bl b =>
    cases b with
    | true => simp only [v_bind]; rfl
    | false => exact v_ok
  | _ => exact v_bad
theorem k_ch : chK X op op' g h l Q x S = Wp X (g l S) (chK2 X op op' h l x Q) := nr rfl
theorem k_ch2 : chK2 X op op' h l x Q y S = Wp X (op x y S) (chK3 X op' h l y Q) := nr rfl
theorem k_ch3 {b : Bool} : chK3 X op' h l y Q (.bl b) S = if b = true then Wp X (h l S) (biK2 X op' y Q) else Q (.bl false) S := by cases b <;> rfl
end
theorem tb {x : Bool} {S : Hs} : oTru (.bl x) S = .ok x S := nr rfl
theorem nt {x : Bool} {S : Hs} : oNot (.bl x) S = .ok (.bl (!x)) S := nr rfl
end Ly
set_option Elab.async false
set_option linter.all false
set_option maxRecDepth 100000
namespace Ly
open PySem PySem.Spec L2
open PyProof.Rows hiding St
local macro_rules | `(tactic| simp_arith [$ls,*]) => `(tactic| simp only [Ly.line_le, Ly.atX_no, Ly.v_ok, Ly.v_bad, Ly.v_bind, Ly.k_bd, Ly.v_at, Ly.v_bin, Ly.k_bi, Ly.k_bi2, Ly.v_var, Ly.v_c, Ly.v_un, Ly.k_un, Ly.v_if, Ly.k_ife, Ly.v_and, Ly.k_and, Ly.k_and2, Ly.v_or, Ly.k_or, Ly.k_or2, Ly.v_tup, Ly.k_tup, Ly.v_lst, Ly.k_lst, Ly.v_call, Ly.k_ca, Ly.v_fn, Ly.k_fn, Ly.v_bm, Ly.k_bm, Ly.k_bm2, Ly.v_sl, Ly.k_sl, Ly.k_sl2, Ly.k_sl3, Ly.v_ixK, Ly.k_ixk, Ly.v_inK, Ly.k_ink, Ly.v_notinK, Ly.k_nink, Ly.v_getK2, Ly.k_gk2, Ly.k_gk, Ly.v_get2, Ly.k_g2, Ly.k_g22, Ly.k_g23, Ly.v_nil, Ly.v_cons, Ly.k_co, Ly.k_co2, Ly.v_no, Ly.v_some, Ly.k_so, Ly.k_cm, Ly.v_cmp, Ly.v_tru, Ly.k_tr, Ly.v_notB, Ly.k_no, Ly.v_andB, Ly.k_an, Ly.v_orB, Ly.k_orb, Ly.v_yes, Ly.v_inKB, Ly.k_inkB, Ly.v_notinKB, Ly.k_ninkB, Ly.v_set, Ly.k_st, Ly.v_expr, Ly.k_ex, Ly.v_ret, Ly.k_re, Ly.v_retN, Ly.v_pass, Ly.v_brk, Ly.v_cnt, Ly.v_seq, Ly.k_sq_nx, Ly.k_sq_rt, Ly.k_sq_bk, Ly.k_sq_ct, Ly.v_ifS, Ly.k_ifs, Ly.v_asg, Ly.k_as, Ly.k_as2, Ly.v_aug, Ly.k_au, Ly.v_for, Ly.k_fo, Ly.v_it, Ly.k_it, Ly.k_ij, Ly.v_rng1, Ly.v_rng2, Ly.v_enum, Ly.v_zip, Ly.v_ez, Ly.v_gN, Ly.v_gsN, Ly.v_gsC, Ly.k_gc, Ly.v_gT, Ly.v_gTw, Ly.v_gSb, Ly.k_gsb, Ly.k_gsb2, Ly.k_gsb3, Ly.k_en_rt, Ly.k_en_nx, Ly.k_tu_nx, Ly.k_tu_ct, Ly.k_tu_bk, Ly.k_tu_rt, Ly.v_lc, Ly.k_lc, Ly.v_augI, Ly.k_ag, Ly.k_ag2, Ly.k_ag3, Ly.k_ag4, Ly.k_ag5, Ly.v_del, Ly.k_dl, Ly.k_dl2, Ly.v_setd, Ly.v_pop2, Ly.k_d3, Ly.k_d32, Ly.k_d33, Ly.v_get1, Ly.k_g1, Ly.k_g12, Ly.v_rg1, Ly.k_rg, Ly.v_rg2, Ly.k_rg2, Ly.k_rg22, Ly.v_dicK, Ly.v_dicT, Ly.v_dc, Ly.k_dc, List.getElem?_cons_zero, List.getElem?_cons_succ, List.set_cons_zero, List.set_cons_succ, List.length_cons, List.length_nil, List.map_cons, List.map_nil, List.cons_append, List.nil_append, List.replicate, if_true, if_false, Bool.false_eq_true, Bool.not_true, Bool.not_false, Bool.true_and, Bool.false_and, decide_true, decide_false, decide_eq_true_eq, Nat.zero_add, Nat.reduceAdd, Nat.reduceLeDiff, true_and, and_true, $ls,*])
def DrwS (S : Hs) (i j : Nat) : Prop := ∃ row sd, DrwA S i j row sd
section
variable {S S' g : Hs} {i j : Nat} {many : Int} {X : XP}
theorem DrwS.new (d : DrwS S i j) : DrwS (S ++ g) i j := by obtain ⟨r, s, d⟩ := d; exact ⟨r, s, d.new⟩
theorem DrwS.kp0 (d : DrwS S i j) (k : Kp [] S S') : DrwS S' i j := by obtain ⟨r, s, d⟩ := d; exact ⟨r, s, d.kp k⟩
theorem DrwS.lt (d : DrwS S i j) : i < S.length := by obtain ⟨r, s, d⟩ := d; exact d.lt
theorem DrwS.ltj (d : DrwS S i j) : j < S.length := by obtain ⟨r, s, a, d⟩ := d; exact Real.lt d.r
theorem DrwS.kp {A : List Nat} (d : DrwS S i j) (k : Kp A S S') (hi : i ∉ A) (hj : j ∉ A) : DrwS S' i j := by
  obtain ⟨r, s, a, d⟩ := d
  exact ⟨r, s, a, k.get d.d hi, k.get d.r hj, d.ne, d.nn⟩
end
section
variable {m n : Nat} {d : D} {S : Hs}
theorem wp_zipA {X : XP} {xs ys : List D} {gg : MG} {b : MS} {l : Ls} {S : Hs} {Q : F → Hs → Prop} (Inv : Nat → Ls → Hs → Prop) (hl : xs.length = ys.length) (h0 : Inv 0 l S)
    (hs : ∀ k l S x y, xs[k]? = some x → ys[k]? = some y → Inv k l S → Wp X (gg (.tup [x, y]) l S) fun l1 S1 => Wp X (b l1 S1) (tuK (Inv (k + 1)) Q)) (hd : ∀ l S, Inv xs.length l S → Q (.nx l) S) : Wp X (fLoop (.zip (.t xs) (.t ys)) gg b 0 l S) Q := by
  refine wp_fLoop xs.length Inv (fun l S h => ?_) (fun k l S hk h => ?_) hd xs.length 0 l S (by omega) h0
  · simp [itGo, Sq.at, hl]
  · have e1 : xs[k]? = some xs[k] := List.getElem?_eq_getElem hk
    have e2 : ys[k]? = some ys[k] := List.getElem?_eq_getElem (by omega)
    exact ⟨.tup [xs[k], ys[k]], by simp [itGo, Sq.at, e1, e2]; omega, hs k l S _ _ e1 e2 h⟩
theorem tixA {d : D} {ds : List D} {S : Hs} : oIx (.tup (d :: ds)) (.int 0) S = .ok d S := oIx_tup (n := 0) rfl
noncomputable def b_isNum : MS := (mRet (mAnd (mUn (oIsi "int") (mVar 0)) (mAnd (mUn oNot (mUn (oIsi "bool") (mVar 0))) (mChn oLe oLe (mVar 1) (mVar 0) (mVar 2)))))
noncomputable def m_isNum : MD := mDef 3 0 b_isNum
theorem isNum_ok {lo hi : Int} (h : Dt m n d) : Wp NoX (m_isNum [d, .int lo, .int hi] S) fun v S' => v = .bl (nmB lo hi d) ∧ S' = S := by
  refine wp_def0 rfl ?_
  unfold b_isNum
  cases h with
  | int i =>
    simp_arith [show oIsi "int" (.int i) S = .ok (.bl true) S from rfl, show oIsi "bool" (.int i) S = .ok (.bl false) S from rfl, tb, nt, v_chn, k_ch, k_ch2, k_ch3, oLe_int, nmB]
    by_cases h1 : lo ≤ i
    · simp_arith [h1, oLe_int]
    · simp_arith [h1, false_and]
  | bl b => simp_arith [show oIsi "int" (.bl b) S = .ok (.bl true) S from rfl, show oIsi "bool" (.bl b) S = .ok (.bl true) S from rfl, tb, nt, nmB]
  | non => simp_arith [show oIsi "int" .non S = .ok (.bl false) S from rfl, tb, nt, nmB]
  | str x => simp_arith [show ∀ x, oIsi "int" (.str x) S = .ok (.bl false) S from fun _ => rfl, tb, nt, nmB]
  | tup hl hx => simp_arith [show ∀ xs, oIsi "int" (.tup xs) S = .ok (.bl false) S from fun _ => rfl, tb, nt, nmB]
theorem in_lit2 {x : Str} {S : Hs} {a b : Str} : oIn (.str x) (.tup [.str a, .str b]) S = .ok (.bl (decide (x ∈ [a, b]))) S := oIn_strs (xs := [a, b]) (.inl rfl)
theorem notin_lit2 {x : Str} {S : Hs} {a b : Str} : oNotIn (.str x) (.tup [.str a, .str b]) S = .ok (.bl (!decide (x ∈ [a, b]))) S := by
  have := in_lit2 (x := x) (S := S) (a := a) (b := b)
  unfold oIn at this; unfold oNotIn
  cases hc : cIn (D.str x) (.tup [.str a, .str b]) S with
  | none => rw [hc] at this; cases this
  | some b => rw [hc] at this; injection this with h1 h2; injection h1 with h1; subst h1; rfl
end
end Ly
set_option Elab.async false
set_option linter.all false
set_option maxRecDepth 100000
namespace Ly
open PySem PySem.Spec L2
open PyProof.Rows hiding St
noncomputable def lb_is_paper_0J : MS := (mSeq (mIfS (mNotB (mTru (mFn m_isNum (lCons (mVar 4) (lCons (mVar 3) (lCons (mBin oSub (mC d_REGISTERSM) (mC (.int 1))) lNil)))))) (mRet (mC (.bl false))) mPass)
    (mSet 3 (mBin oAdd (mVar 4) (mC (.int 1)))))
noncomputable def lb_is_paper_1J : MS := (mSeq (mIfS (mNotB (mTru (mUn (oIsi "tuple") (mVar 2)))) (mRet (mC (.bl false))) mPass)
    (mSeq (mSet 3 (mC (.int 0)))
    (mFor (mIt (mVar 2)) (gN 4) lb_is_paper_0J)))
noncomputable def b_is_paperJ : MS := (mSeq (mIfS (mOrB (mNotB (mTru (mUn (oIsi "tuple") (mVar 1)))) (mCmp oNe (mCall bLen (lCons (mVar 1) lNil)) (mCall bLen (lCons (mBin oIx (mVar 0) (mC (.int 1))) lNil)))) (mRet (mC (.bl false))) mPass)
    (mSeq (mFor (mIt (mVar 1)) (gN 2) lb_is_paper_1J)
    (mRet (mC (.bl true)))))
noncomputable def m_is_paperJ : MD := mDef 2 3 b_is_paperJ
noncomputable def b_waysJ : MS := (mSeq (mSet 2 (mBin oIx (mBin oIx (mVar 0) (mC (.int 1))) (mVar 1)))
    (mSeq (mSet 3 mDicK)
    (mSeq (mIfS (mCmp oNotIn (mBin oIx (mVar 2) (mC (.int 0))) (mTup (lCons (mC (.str "jump")) (lCons (mC (.str "stop")) lNil)))) (mAsg (mC (.bl true)) (gSb (mVar 3) (mBin oAdd (mVar 1) (mC (.int 1))))) mPass)
    (mSeq (mIfS (mCmp oIn (mBin oIx (mVar 2) (mC (.int 0))) (mTup (lCons (mC (.str "jump")) (lCons (mC (.str "branch")) lNil)))) (mAsg (mC (.bl true)) (gSb (mVar 3) (mBin oIx (mVar 2) (mUn oNeg (mC (.int 1)))))) mPass)
    (mRet (mCall bTuple (lCons (mCall bSorted (lCons (mVar 3) lNil)) lNil)))))))
noncomputable def m_waysJ : MD := mDef 2 2 b_waysJ
noncomputable def b_readsJ : MS := (mSeq (mSet 1 (mDc (mZip (lCons (mSl (mVar 0) (oSome (mC (.int 1))) oNo) (lCons (mIxK d_CODE_FORMSM (mBin oIx (mVar 0) (mC (.int 0)))) lNil))) (cT [2, 3]) (mCmp oEq (mVar 3) (mC (.str "read"))) (mVar 2) (mC (.bl true)) [2, 3]))
    (mRet (mCall bTuple (lCons (mCall bSorted (lCons (mVar 1) lNil)) lNil))))
noncomputable def m_readsJ : MD := mDef 1 3 b_readsJ
noncomputable def c_region_of_0J : MB := (mCmp oLt (mBin oAdd (mVar 3) (mC (.int 1))) (mVar 4))
noncomputable def lb_region_of_1J : MS := (mSeq (mSet 5 (mBin oFdiv (mBin oAdd (mVar 3) (mVar 4)) (mC (.int 2))))
    (mIfS (mCmp oLe (mBin oIx (mBin oIx (mVar 0) (mVar 5)) (mC (.int 0))) (mVar 1)) (mSet 3 (mVar 5)) (mSet 4 (mVar 5))))
noncomputable def b_region_ofJ : MS := (mSeq (mSet 3 (mC (.int 0)))
    (mSeq (mSet 4 (mCall bLen (lCons (mVar 0) lNil)))
    (mSeq (mWhile c_region_of_0J lb_region_of_1J)
    (mSeq (mIfS (mCmp oEq (mVar 4) (mC (.int 0))) (mRet (mUn oNeg (mC (.int 1)))) mPass)
    (mRet (mIf (mCmp oLt (mBin oAdd (mVar 1) (mVar 2)) (mBin oAdd (mBin oIx (mBin oIx (mVar 0) (mVar 3)) (mC (.int 0))) (mBin oIx (mBin oIx (mVar 0) (mVar 3)) (mC (.int 1))))) (mVar 3) (mUn oNeg (mC (.int 1)))))))))
noncomputable def m_region_ofJ : MD := mDef 3 3 b_region_ofJ
noncomputable def lb__makes_public_0J : MS := (mIfS (mCmp oNotIn (mVar 4) (mVar 2)) (mRet (mC (.bl false))) mPass)
noncomputable def b__makes_publicJ : MS := (mSeq (mIfS (mCmp oEq (mBin oIx (mVar 1) (mC (.int 0))) (mC (.str "load"))) (mSeq (mSet 3 (mFn m_region_ofJ (lCons (mVar 0) (lCons (mBin oIx (mVar 1) (mC (.int 3))) (lCons (mBin oIx (mVar 1) (mC (.int 4))) lNil)))))
    (mRet (mAnd (mBin oGe (mVar 3) (mC (.int 0))) (mBin oEq (mBin oIx (mBin oIx (mVar 0) (mVar 3)) (mC (.int 2))) (mC (.str "public")))))) mPass)
    (mSeq (mFor (mIt (mFn m_readsJ (lCons (mVar 1) lNil))) (gN 4) lb__makes_public_0J)
    (mRet (mC (.bl true)))))
noncomputable def m__makes_publicJ : MD := mDef 3 2 b__makes_publicJ
noncomputable def b_public_behindJ : MS := (mSeq (mSet 3 (mBin oIx (mBin oIx (mVar 0) (mC (.int 1))) (mVar 1)))
    (mSeq (mSet 4 (mFn m_writesM (lCons (mVar 3) lNil)))
    (mSeq (mIfS (mCmp oLt (mVar 4) (mC (.int 0))) (mRet (mCall bTuple (lCons (mVar 2) lNil))) mPass)
    (mSeq (mSet 5 (mDc (mIt (mVar 2)) (cN 6) mYes (mVar 6) (mC (.bl true)) [6]))
    (mSeq (mAsg (mFn m__makes_publicJ (lCons (mBin oIx (mVar 0) (mC (.int 0))) (lCons (mVar 3) (lCons (mVar 5) lNil)))) (gSb (mVar 5) (mVar 4)))
    (mRet (mCall bTuple (lCons (mLc (mIt (mCall bSorted (lCons (mVar 5) lNil))) (cN 6) (mTru (mBin oIx (mVar 5) (mVar 6))) (mVar 6) [6]) lNil))))))))
noncomputable def m_public_behindJ : MD := mDef 3 4 b_public_behindJ
noncomputable def lb_holds_0J : MS := (mIfS (mCmp oNotIn (mVar 6) (mVar 4)) (mRet (mC (.bl false))) mPass)
noncomputable def lb_holds_1J : MS := (mFor (mIt (mBin oIx (mVar 1) (mVar 5))) (gN 6) lb_holds_0J)
noncomputable def lb_holds_2J : MS := (mSeq (mSet 4 (mDc (mIt (mFn m_public_behindJ (lCons (mVar 0) (lCons (mVar 2) (lCons (mVar 3) lNil))))) (cN 6) mYes (mVar 6) (mC (.bl true)) [6]))
    (mFor (mIt (mFn m_waysJ (lCons (mVar 0) (lCons (mVar 2) lNil)))) (gN 5) lb_holds_1J))
noncomputable def b_holdsJ : MS := (mSeq (mIfS (mNotB (mTru (mFn m_is_paperJ (lCons (mVar 0) (lCons (mVar 1) lNil))))) (mRet (mC (.bl false))) mPass)
    (mSeq (mFor (mEnum (lCons (mVar 1) lNil)) (gT 2 (gsC (gN 2) (gsC (gN 3) gsN))) lb_holds_2J)
    (mRet (mC (.bl true)))))
noncomputable def m_holdsJ : MD := mDef 2 5 b_holdsJ
noncomputable def lb_greatest_paper_0J : MS := (mSeq (mSet 6 (mCall bTuple (lCons (mLc (mIt (mBin oIx (mVar 1) (mVar 5))) (cN 7) (mCmp oIn (mVar 7) (mVar 4)) (mVar 7) [7]) lNil)))
    (mIfS (mCmp oNe (mVar 6) (mBin oIx (mVar 1) (mVar 5))) (mSeq (mAsg (mVar 6) (gSb (mVar 1) (mVar 5)))
    (mExpr (mBM "list" oAppend (mVar 2) (lCons (mVar 5) lNil)))) mPass))
noncomputable def c_greatest_paper_1J : MB := (mTru (mVar 2))
noncomputable def lb_greatest_paper_2J : MS := (mSeq (mSet 3 (mBM "list" oPop (mVar 2) lNil))
    (mSeq (mSet 4 (mFn m_public_behindJ (lCons (mVar 0) (lCons (mVar 3) (lCons (mBin oIx (mVar 1) (mVar 3)) lNil)))))
    (mFor (mIt (mFn m_waysJ (lCons (mVar 0) (lCons (mVar 3) lNil)))) (gN 5) lb_greatest_paper_0J)))
noncomputable def b_greatest_paperJ : MS := (mSeq (mSet 1 (mBin oMul (mLst (lCons (mRg1 oTRg (mC d_REGISTERSM)) lNil)) (mCall bLen (lCons (mBin oIx (mVar 0) (mC (.int 1))) lNil))))
    (mSeq (mSet 2 (mRg1 oLRgR (mCall bLen (lCons (mBin oIx (mVar 0) (mC (.int 1))) lNil))))
    (mSeq (mWhile c_greatest_paper_1J lb_greatest_paper_2J)
    (mRet (mCall bTuple (lCons (mVar 1) lNil))))))
noncomputable def m_greatest_paperJ : MD := mDef 1 7 b_greatest_paperJ
end Ly
set_option Elab.async false
set_option linter.all false
set_option maxRecDepth 100000
namespace Ly
open PySem PySem.Spec L2
open PyProof.Rows hiding St
local macro_rules | `(tactic| simp_arith [$ls,*]) => `(tactic| simp only [Ly.line_le, Ly.atX_no, Ly.v_ok, Ly.v_bad, Ly.v_bind, Ly.k_bd, Ly.v_at, Ly.v_bin, Ly.k_bi, Ly.k_bi2, Ly.v_var, Ly.v_c, Ly.v_un, Ly.k_un, Ly.v_if, Ly.k_ife, Ly.v_and, Ly.k_and, Ly.k_and2, Ly.v_or, Ly.k_or, Ly.k_or2, Ly.v_tup, Ly.k_tup, Ly.v_lst, Ly.k_lst, Ly.v_call, Ly.k_ca, Ly.v_fn, Ly.k_fn, Ly.v_bm, Ly.k_bm, Ly.k_bm2, Ly.v_sl, Ly.k_sl, Ly.k_sl2, Ly.k_sl3, Ly.v_ixK, Ly.k_ixk, Ly.v_inK, Ly.k_ink, Ly.v_notinK, Ly.k_nink, Ly.v_getK2, Ly.k_gk2, Ly.k_gk, Ly.v_get2, Ly.k_g2, Ly.k_g22, Ly.k_g23, Ly.v_nil, Ly.v_cons, Ly.k_co, Ly.k_co2, Ly.v_no, Ly.v_some, Ly.k_so, Ly.k_cm, Ly.v_cmp, Ly.v_tru, Ly.k_tr, Ly.v_notB, Ly.k_no, Ly.v_andB, Ly.k_an, Ly.v_orB, Ly.k_orb, Ly.v_yes, Ly.v_inKB, Ly.k_inkB, Ly.v_notinKB, Ly.k_ninkB, Ly.v_set, Ly.k_st, Ly.v_expr, Ly.k_ex, Ly.v_ret, Ly.k_re, Ly.v_retN, Ly.v_pass, Ly.v_brk, Ly.v_cnt, Ly.v_seq, Ly.k_sq_nx, Ly.k_sq_rt, Ly.k_sq_bk, Ly.k_sq_ct, Ly.v_ifS, Ly.k_ifs, Ly.v_asg, Ly.k_as, Ly.k_as2, Ly.v_aug, Ly.k_au, Ly.v_for, Ly.k_fo, Ly.v_it, Ly.k_it, Ly.k_ij, Ly.v_rng1, Ly.v_rng2, Ly.v_enum, Ly.v_zip, Ly.v_ez, Ly.v_gN, Ly.v_gsN, Ly.v_gsC, Ly.k_gc, Ly.v_gT, Ly.v_gTw, Ly.v_gSb, Ly.k_gsb, Ly.k_gsb2, Ly.k_gsb3, Ly.k_en_rt, Ly.k_en_nx, Ly.k_tu_nx, Ly.k_tu_ct, Ly.k_tu_bk, Ly.k_tu_rt, Ly.v_lc, Ly.k_lc, Ly.v_augI, Ly.k_ag, Ly.k_ag2, Ly.k_ag3, Ly.k_ag4, Ly.k_ag5, Ly.v_del, Ly.k_dl, Ly.k_dl2, Ly.v_setd, Ly.v_pop2, Ly.k_d3, Ly.k_d32, Ly.k_d33, Ly.v_get1, Ly.k_g1, Ly.k_g12, Ly.v_rg1, Ly.k_rg, Ly.v_rg2, Ly.k_rg2, Ly.k_rg22, Ly.v_dicK, Ly.v_dicT, Ly.v_dc, Ly.k_dc, List.getElem?_cons_zero, List.getElem?_cons_succ, List.set_cons_zero, List.set_cons_succ, List.length_cons, List.length_nil, List.map_cons, List.map_nil, List.cons_append, List.nil_append, List.replicate, if_true, if_false, Bool.false_eq_true, Bool.not_true, Bool.not_false, Bool.true_and, Bool.false_and, decide_true, decide_false, decide_eq_true_eq, Nat.zero_add, Nat.reduceAdd, Nat.reduceLeDiff, true_and, and_true, $ls,*])
def MRow.wr? : MRow → Option Nat
  | .const d _ => some d | .op _ d _ _ => some d | .select d _ _ _ => some d | .load d _ _ _ => some d | _ => none
def MRow.rds : MRow → List Nat
  | .op _ _ a b => [a, b] | .select _ c a b => [c, a, b] | .load _ a _ _ => [a] | .store a _ _ v => [a, v] | .out a => [a] | .branch a _ => [a] | .stop a => [a] | _ => []
def MRow.ways (k : Nat) : MRow → List Nat
  | .jump t => [t]
  | .stop _ => []
  | .branch _ t => if t = k + 1 then [k + 1] else if t < k + 1 then [t, k + 1] else [k + 1, t]
  | _ => [k + 1]
def rgOf (rs : List Rg) (b m : Nat) : Option Rg := rs.find? fun r => decide (r.base ≤ b ∧ b + m < r.base + r.size)
def isPub (o : Option Rg) : Bool := match o with
  | some r => decide (r.label = "public")
  | none => false
structure AR where
  wr : Option Nat
  ld : Option Bool
  rd : List Nat
  ws : List Nat
  deriving DecidableEq
def MRow.ld? (rs : List Rg) : MRow → Option Bool
  | .load _ _ b m => some (isPub (rgOf rs b m))
  | _ => none
def MRow.ar (rs : List Rg) (k : Nat) (r : MRow) : AR := ⟨r.wr?, r.ld? rs, r.rds, r.ways k⟩
def bits16 (f : Nat → Bool) : List Nat := (List.range 16).filter f
def AR.pub (a : AR) (p : List Nat) : Bool := match a.ld with
  | some b => b
  | none => a.rd.all fun x => decide (x ∈ p)
def AR.behind (a : AR) (p : List Nat) : List Nat := match a.wr with
  | none => p
  | some x => bits16 fun y => if y = x then a.pub p else decide (y ∈ p)
structure Mb (p : List Nat) : Prop where
  pw : p.Pairwise (· < ·)
  lt : ∀ a ∈ p, a < 16
theorem mem_bits {f : Nat → Bool} {a : Nat} : a ∈ bits16 f ↔ a < 16 ∧ f a = true := by simp [bits16]
theorem bits_mb {f : Nat → Bool} : Mb (bits16 f) := ⟨List.Pairwise.filter _ List.pairwise_lt_range, fun a h => (mem_bits.mp h).1⟩
theorem Mb.ext {p q : List Nat} (hp : Mb p) (hq : Mb q) (h : ∀ a, a ∈ p ↔ a ∈ q) : p = q := by
  have n1 : p.Nodup := hp.pw.imp (fun h => Nat.ne_of_lt h)
  have n2 : q.Nodup := hq.pw.imp (fun h => Nat.ne_of_lt h)
  exact List.Perm.eq_of_pairwise (fun a b _ _ h1 h2 => absurd (Nat.lt_trans h1 h2) (Nat.lt_irrefl _)) hp.pw hq.pw ((List.perm_ext_iff_of_nodup n1 n2).mpr h)
theorem Mb.bits {p : List Nat} (hp : Mb p) : p = bits16 fun a => decide (a ∈ p) := hp.ext bits_mb fun a => by
  rw [mem_bits]; simp; exact hp.lt a
theorem Mb.nodup {p : List Nat} (hp : Mb p) : p.Nodup := hp.pw.imp (fun h => Nat.ne_of_lt h)
theorem Mb.len {p : List Nat} (hp : Mb p) : p.length ≤ 16 := nodup_len hp.nodup hp.lt
theorem AR.behind_mb {a : AR} {p : List Nat} (h : Mb p) : Mb (a.behind p) := by
  unfold AR.behind; split
  · exact h
  · exact bits_mb
theorem AR.mem_behind {a : AR} {p : List Nat} (h : Mb p) {y : Nat} : y ∈ a.behind p ↔ y < 16 ∧ (match a.wr with | none => y ∈ p | some x => if y = x then a.pub p = true else y ∈ p) := by
  unfold AR.behind
  split
  · exact ⟨fun hy => ⟨h.lt y hy, hy⟩, fun hy => hy.2⟩
  · rw [mem_bits]
    split <;> simp
def wordR2 : MRow → Str
  | .const _ _ => "const" | .op _ _ _ _ => "op" | .select _ _ _ _ => "select" | .load _ _ _ _ => "load" | .store _ _ _ _ => "store" | .out _ => "out" | .jump _ => "jump" | .branch _ _ => "branch" | .stop _ => "stop"
def fldR2 : MRow → List D
  | .const d n => [nD d, nD n]
  | .op s d a b => [.str s, nD d, nD a, nD b]
  | .select d c a b => [nD d, nD c, nD a, nD b]
  | .load d a base mask => [nD d, nD a, nD base, nD mask]
  | .store a base mask v => [nD a, nD base, nD mask, nD v]
  | .out a => [nD a]
  | .jump t => [nD t]
  | .branch a t => [nD a, nD t]
  | .stop a => [nD a]
def ksR2 : MRow → List Str
  | .const _ _ => ["write", "word"] | .op _ _ _ _ => ["sign", "write", "read", "read"] | .select _ _ _ _ => ["write", "read", "read", "read"] | .load _ _ _ _ => ["write", "read", "base", "mask"]
  | .store _ _ _ _ => ["read", "base", "mask", "read"] | .out _ => ["read"] | .jump _ => ["target"] | .branch _ _ => ["read", "target"] | .stop _ => ["read"]
theorem D_R2 (r : MRow) : r.D = .tup (.str (wordR2 r) :: fldR2 r) := by cases r <;> rfl
theorem len_R2 (r : MRow) : (fldR2 r).length = (ksR2 r).length ∧ (ksR2 r).length ≤ 4 := by cases r <;> simp [fldR2, ksR2]
theorem look_R2 (r : MRow) : d_CODE_FORMSM.lookup (wordR2 r) = some (.wt ((ksR2 r).map D.str)) := by cases r <;> simp [d_CODE_FORMSM, wordR2, ksR2, List.lookup, beq_lit]
def firstW2 : List (D × Str) → D
  | [] => .int (-1)
  | (x, z) :: P => if z = "write" then x else firstW2 P
def optD2 : Option Nat → D
  | some n => nD n
  | none => .int (-1)
theorem firstW_R2 (r : MRow) : firstW2 ((fldR2 r).zip (ksR2 r)) = optD2 r.wr? := by cases r <;> simp [firstW2, fldR2, ksR2, MRow.wr?, optD2, ofString_inj]
def rdP2 (p : D × Str) : Option Nat := if p.2 = "read" then (match p.1 with | .int i => some i.toNat | _ => none) else none
theorem rdP_R2 (r : MRow) : ((fldR2 r).zip (ksR2 r)).filterMap rdP2 = r.rds := by cases r <;> simp [rdP2, fldR2, ksR2, MRow.rds, ofString_inj, nD]
theorem rd_nat2 (r : MRow) : ∀ p ∈ (fldR2 r).zip (ksR2 r), p.2 = "read" → ∃ n : Nat, p.1 = nD n := by
  cases r <;> simp [fldR2, ksR2, ofString_inj, nD, Int.natCast_inj]
section
variable {S S' : Hs} {rs : List Rg} {rows : List MRow}
theorem cut1J {x : D} {xs : List D} : Ly.cutD (x :: xs) (some 1) none = xs := cut1
theorem tixJ {x : D} {xs : List D} {S : Hs} : oIx (.tup (x :: xs)) (.int 0) S = .ok x S := tixA
theorem writes_J (r : MRow) : Wp NoX (m_writesM [r.D] S) fun v S' => v = optD2 r.wr? ∧ S' = S := by
  refine wp_def0 rfl ?_
  unfold b_writesM
  have hl := len_R2 r
  have e2 : ∀ S, oSl (.tup (.str (wordR2 r) :: fldR2 r)) (some 1) none S = .ok (.tup (fldR2 r)) S := fun S => by simp only [oSl, cut1J]
  have ez : ∀ S, oZip [.tup (fldR2 r), .wt ((ksR2 r).map D.str)] S = .ok (.zip (.t (fldR2 r)) (.t ((ksR2 r).map D.str))) S := fun S => rfl
  simp_arith [D_R2, e2, tixJ, look_R2, Option.map_some, ez]
  refine wp_zipA (fun k l S' => S' = S ∧ (∃ o1 o2 : Option D, l = [some (.tup (.str (wordR2 r) :: fldR2 r)), o1, o2]) ∧ firstW2 ((fldR2 r).zip (ksR2 r)) = firstW2 (((fldR2 r).zip (ksR2 r)).drop k)) (show (fldR2 r).length = ((ksR2 r).map D.str).length by rw [List.length_map]; exact hl.1) ⟨rfl, ⟨_, _, rfl⟩, by simp⟩ ?_ ?_
  · rintro k l S' x y hx hy ⟨rfl, ⟨o1, o2, rfl⟩, he⟩
    obtain ⟨z, hz, rfl⟩ : ∃ z, (ksR2 r)[k]? = some z ∧ D.str z = y := by simpa using hy
    have hp : ((fldR2 r).zip (ksR2 r))[k]? = some (x, z) := by rw [List.getElem?_zip_eq_some]; exact ⟨hx, hz⟩
    have hd : ((fldR2 r).zip (ksR2 r)).drop k = (x, z) :: ((fldR2 r).zip (ksR2 r)).drop (k + 1) := by
      obtain ⟨h1, h2⟩ := List.getElem?_eq_some_iff.mp hp
      rw [List.drop_eq_getElem_cons h1, h2]
    rw [hd, firstW2] at he
    unfold lb_writes_0M
    simp_arith [v_gT, oEq_str]
    by_cases hw : z = "write"
    · simp_arith [hw]
      rw [if_pos hw] at he
      rw [← firstW_R2, he]
    · simp_arith [hw]
      rw [if_neg hw] at he
      exact ⟨⟨_, _, rfl⟩, he⟩
  · rintro l S' ⟨rfl, ⟨o1, o2, rfl⟩, he⟩
    simp_arith [oNeg_int]
    rw [← firstW_R2, he, List.drop_eq_nil_of_le (by rw [List.length_zip]; omega)]; rfl
theorem addN_leJ : ∀ (L M : List Nat), (L.foldl addN M).length ≤ M.length + L.length
  | [], M => by simp
  | n :: L, M => by
    rw [List.foldl_cons]
    have h := addN_leJ L (addN M n)
    have h2 : (addN M n).length ≤ M.length + 1 := by unfold addN; split <;> simp
    simp only [List.length_cons]; omega
theorem mem_foldN {x : Nat} : ∀ (L M : List Nat), x ∈ L.foldl addN M ↔ x ∈ M ∨ x ∈ L
  | [], M => by simp
  | n :: L, M => by rw [List.foldl_cons, mem_foldN L, mem_addN, List.mem_cons, or_assoc]
def MRow.rdS (r : MRow) : List Nat := sortN (r.rds.foldl addN [])
theorem mem_rdS {r : MRow} {x : Nat} : x ∈ r.rdS ↔ x ∈ r.rds := by
  unfold MRow.rdS; rw [(sortN_perm _).mem_iff, mem_foldN]; simp
theorem reads_J (r : MRow) : Wp NoX (m_readsJ [r.D] S) fun v S' => v = .tup (nDs r.rdS) ∧ Kp [] S S' := by
  refine wp_def0 rfl ?_
  unfold b_readsJ
  have hl := len_R2 r
  have e2 : ∀ S, oSl (.tup (.str (wordR2 r) :: fldR2 r)) (some 1) none S = .ok (.tup (fldR2 r)) S := fun S => by simp only [oSl, cut1J]
  have ez : ∀ S, oZip [.tup (fldR2 r), .wt ((ksR2 r).map D.str)] S = .ok (.zip (.t (fldR2 r)) (.t ((ksR2 r).map D.str))) S := fun S => rfl
  simp_arith [D_R2, e2, tixJ, look_R2, Option.map_some, ez, wipeL]
  refine wp_dcLoop (fldR2 r).length (fun k acc S' => acc = natDic ((((fldR2 r).zip (ksR2 r)).take k).filterMap rdP2 |>.foldl addN []) (.bl true) ∧ S'[S.length]? = some (.dic acc) ∧ Kp [] S S') ?_ ?_ ?_ (fldR2 r).length 0 [] _ (by omega) ⟨rfl, get_end, Kp.new⟩
  · rintro acc S' -
    simp [itGo, Sq.at, hl.1]
  · rintro k acc S' hk ⟨rfl, hq, K⟩
    have hx : (fldR2 r)[k]? = some (fldR2 r)[k] := List.getElem?_eq_getElem hk
    have hz : (ksR2 r)[k]? = some (ksR2 r)[k]  := List.getElem?_eq_getElem (by omega)
    have hp : ((fldR2 r).zip (ksR2 r))[k]? = some ((fldR2 r)[k], (ksR2 r)[k]) := by rw [List.getElem?_zip_eq_some]; exact ⟨hx, hz⟩
    refine ⟨.tup [(fldR2 r)[k], .str (ksR2 r)[k]], ?_, ?_⟩
    · simp [itGo, Sq.at, hl.1, hx, hz]; omega
    · refine ⟨[some (.tup (.str (wordR2 r) :: fldR2 r)), none, some (fldR2 r)[k], some (.str (ksR2 r)[k])], rfl, ?_⟩
      have ht : (((fldR2 r).zip (ksR2 r)).take (k + 1)).filterMap rdP2 = (((fldR2 r).zip (ksR2 r)).take k).filterMap rdP2 ++ (rdP2 ((fldR2 r)[k], (ksR2 r)[k])).toList := by
        rw [take_at hp, List.filterMap_append, List.filterMap_cons]; cases rdP2 ((fldR2 r)[k], (ksR2 r)[k]) <;> rfl
      by_cases hr : (ksR2 r)[k] = "read"
      · obtain ⟨n, hn⟩ := rd_nat2 r _ (List.mem_of_getElem? hp) hr
        have hn' : (fldR2 r)[k] = nD n := hn
        have hrd : rdP2 ((fldR2 r)[k], (ksR2 r)[k]) = some n := by simp [rdP2, hr, hn', nD]
        rw [hrd] at ht
        have hlen : ((((fldR2 r).zip (ksR2 r)).take k).filterMap rdP2 |>.foldl addN []).length < sizeLine := by
          refine line_big (Nat.le_trans (addN_leJ _ []) ?_)
          have h1 := List.length_filterMap_le rdP2 (((fldR2 r).zip (ksR2 r)).take k)
          have h2 : (((fldR2 r).zip (ksR2 r)).take k).length ≤ k := List.length_take_le ..
          have h3 := hl.2
          simp only [List.length_nil]; omega
        simp_arith [oEq_str, hr, hn']
        refine ⟨hq, by simpa [natDic] using hlen, .inl (n : Int), rfl, ?_⟩
        rw [natDic_set]
        refine ⟨?_, get_put hq, K.setNew (Nat.le_refl _)⟩
        rw [ht, List.foldl_append]; rfl
      · have hrd : rdP2 ((fldR2 r)[k], (ksR2 r)[k]) = none := by simp [rdP2, hr]
        rw [hrd] at ht
        have hd : decide ((ksR2 r)[k] = Str.ofString "read") = false := decide_eq_false hr
        simp_arith [oEq_str, hd]
        rw [ht]
        exact ⟨by simp, hq, K⟩
  · rintro acc S' ⟨rfl, hq, K⟩
    rw [List.take_of_length_le (by rw [List.length_zip]; omega), rdP_R2] at hq
    have hn : (r.rds.foldl addN []).length ≤ 4 := Nat.le_trans (addN_leJ _ []) (by cases r <;> simp [MRow.rds])
    simp_arith [bSorted_dic hq (by omega), bTuple_lst get_end]
    exact ⟨rfl, K.app⟩
end
end Ly
set_option Elab.async false
set_option linter.all false
set_option maxRecDepth 100000
namespace Ly
open PySem PySem.Spec L2
open PyProof.Rows hiding St
local macro_rules | `(tactic| simp_arith [$ls,*]) => `(tactic| simp only [Ly.line_le, Ly.atX_no, Ly.v_ok, Ly.v_bad, Ly.v_bind, Ly.k_bd, Ly.v_at, Ly.v_bin, Ly.k_bi, Ly.k_bi2, Ly.v_var, Ly.v_c, Ly.v_un, Ly.k_un, Ly.v_if, Ly.k_ife, Ly.v_and, Ly.k_and, Ly.k_and2, Ly.v_or, Ly.k_or, Ly.k_or2, Ly.v_tup, Ly.k_tup, Ly.v_lst, Ly.k_lst, Ly.v_call, Ly.k_ca, Ly.v_fn, Ly.k_fn, Ly.v_bm, Ly.k_bm, Ly.k_bm2, Ly.v_sl, Ly.k_sl, Ly.k_sl2, Ly.k_sl3, Ly.v_ixK, Ly.k_ixk, Ly.v_inK, Ly.k_ink, Ly.v_notinK, Ly.k_nink, Ly.v_getK2, Ly.k_gk2, Ly.k_gk, Ly.v_get2, Ly.k_g2, Ly.k_g22, Ly.k_g23, Ly.v_nil, Ly.v_cons, Ly.k_co, Ly.k_co2, Ly.v_no, Ly.v_some, Ly.k_so, Ly.k_cm, Ly.v_cmp, Ly.v_tru, Ly.k_tr, Ly.v_notB, Ly.k_no, Ly.v_andB, Ly.k_an, Ly.v_orB, Ly.k_orb, Ly.v_yes, Ly.v_inKB, Ly.k_inkB, Ly.v_notinKB, Ly.k_ninkB, Ly.v_set, Ly.k_st, Ly.v_expr, Ly.k_ex, Ly.v_ret, Ly.k_re, Ly.v_retN, Ly.v_pass, Ly.v_brk, Ly.v_cnt, Ly.v_seq, Ly.k_sq_nx, Ly.k_sq_rt, Ly.k_sq_bk, Ly.k_sq_ct, Ly.v_ifS, Ly.k_ifs, Ly.v_asg, Ly.k_as, Ly.k_as2, Ly.v_aug, Ly.k_au, Ly.v_for, Ly.k_fo, Ly.v_it, Ly.k_it, Ly.k_ij, Ly.v_rng1, Ly.v_rng2, Ly.v_enum, Ly.v_zip, Ly.v_ez, Ly.v_gN, Ly.v_gsN, Ly.v_gsC, Ly.k_gc, Ly.v_gT, Ly.v_gTw, Ly.v_gSb, Ly.k_gsb, Ly.k_gsb2, Ly.k_gsb3, Ly.k_en_rt, Ly.k_en_nx, Ly.k_tu_nx, Ly.k_tu_ct, Ly.k_tu_bk, Ly.k_tu_rt, Ly.v_lc, Ly.k_lc, Ly.v_augI, Ly.k_ag, Ly.k_ag2, Ly.k_ag3, Ly.k_ag4, Ly.k_ag5, Ly.v_del, Ly.k_dl, Ly.k_dl2, Ly.v_setd, Ly.v_pop2, Ly.k_d3, Ly.k_d32, Ly.k_d33, Ly.v_get1, Ly.k_g1, Ly.k_g12, Ly.v_rg1, Ly.k_rg, Ly.v_rg2, Ly.k_rg2, Ly.k_rg22, Ly.v_dicK, Ly.v_dicT, Ly.v_dc, Ly.k_dc, List.getElem?_cons_zero, List.getElem?_cons_succ, List.set_cons_zero, List.set_cons_succ, List.length_cons, List.length_nil, List.map_cons, List.map_nil, List.cons_append, List.nil_append, List.replicate, if_true, if_false, Bool.false_eq_true, Bool.not_true, Bool.not_false, Bool.true_and, Bool.false_and, decide_true, decide_false, decide_eq_true_eq, Nat.zero_add, Nat.reduceAdd, Nat.reduceLeDiff, true_and, and_true, $ls,*])
section
variable {S S' : Hs} {rs : List Rg} {rows : List MRow}
theorem contig_baseJ : ∀ {rs : List Rg} {b i : Nat} {r : Rg}, Contig b rs → rs[i]? = some r → b ≤ r.base ∧ 0 < r.size
  | [], b, i, r, h, e => by simp at e
  | x :: xs, b, 0, r, h, e => by cases e; exact ⟨Nat.le_of_eq h.1.symm, h.2.1⟩
  | x :: xs, b, i + 1, r, h, e => by
    have := contig_baseJ (rs := xs) h.2.2 (by simpa using e)
    omega
theorem contig_ltJ : ∀ {rs : List Rg} {b i j : Nat} {r s : Rg}, Contig b rs → rs[i]? = some r → rs[j]? = some s → i < j → r.base + r.size ≤ s.base
  | [], b, i, j, r, s, h, e, f, hl => by simp at e
  | x :: xs, b, 0, j + 1, r, s, h, e, f, hl => by
    cases e
    have := (contig_baseJ (rs := xs) h.2.2 (by simpa using f)).1
    have := h.1
    omega
  | x :: xs, b, i + 1, j + 1, r, s, h, e, f, hl => contig_ltJ (rs := xs) h.2.2 (by simpa using e) (by simpa using f) (by omega)
def RgAt (rs : List Rg) (b m : Nat) (v : D) : Prop :=
  (∃ k g, v = nD k ∧ rs[k]? = some g ∧ rgOf rs b m = some g) ∨ (v = .int (-1) ∧ rgOf rs b m = none)
theorem rgOf_at (hc : Contig 0 rs) {b m k : Nat} {g : Rg} (h : rs[k]? = some g) (h1 : g.base ≤ b) (h2 : b + m < g.base + g.size) : rgOf rs b m = some g := by
  unfold rgOf
  rw [List.find?_eq_some_iff_getElem]
  refine ⟨by simp [h1, h2], k, (List.getElem?_eq_some_iff.mp h).1, (List.getElem?_eq_some_iff.mp h).2, fun j hj => ?_⟩
  have hjl : j < rs.length := Nat.lt_trans hj (List.getElem?_eq_some_iff.mp h).1
  have := contig_ltJ hc (List.getElem?_eq_getElem hjl) h hj
  simp; omega
theorem rgOf_none {b m : Nat} (h : ∀ g ∈ rs, ¬ (g.base ≤ b ∧ b + m < g.base + g.size)) : rgOf rs b m = none := by
  unfold rgOf
  rw [List.find?_eq_none]
  intro g hg; simpa using h g hg
theorem rgD_base {g : Rg} {S : Hs} : oIx g.D (.int 0) S = .ok (nD g.base) S := tix0
theorem rgD_size {g : Rg} {S : Hs} : oIx g.D (.int 1) S = .ok (nD g.size) S := tix1
theorem rgD_label {g : Rg} {S : Hs} : oIx g.D (.int 2) S = .ok (.str g.label) S := oIx_tup (n := 2) rfl
theorem ixMap {g : Rg} {k : Nat} (h : rs[k]? = some g) {S : Hs} : oIx (.tup (rs.map Rg.D)) (nD k) S = .ok g.D S := oIx_tup (by rw [List.getElem?_map, h]; rfl)
theorem region_J (hc : Contig 0 rs) (hl : rs.length ≤ 100000) {b m : Nat} : Wp NoX (m_region_ofJ [.tup (rs.map Rg.D), nD b, nD m] S) fun v S' => RgAt rs b m v ∧ S' = S := by
  refine wp_def0 rfl ?_
  unfold b_region_ofJ
  simp_arith [Ly.v_fld, Ly.v_meth, Ly.k_me2, Ly.v_make, Ly.k_mk, Ly.v_fldset, Ly.k_fs, Ly.v_fldaug, Ly.k_fa2, Ly.look1, List.mem_cons, List.not_mem_nil, or_false, true_or, or_true, -v_seq]
  rw [v_seq]
  simp_arith [Ly.v_fld, Ly.v_meth, Ly.k_me2, Ly.v_make, Ly.k_mk, Ly.v_fldset, Ly.k_fs, Ly.v_fldaug, Ly.k_fa2, Ly.look1, List.mem_cons, List.not_mem_nil, or_false, true_or, or_true, -v_seq]
  rw [v_seq]
  simp_arith [Ly.v_fld, Ly.v_meth, Ly.k_me2, Ly.v_make, Ly.k_mk, Ly.v_fldset, Ly.k_fs, Ly.v_fldaug, Ly.k_fa2, Ly.look1, List.mem_cons, List.not_mem_nil, or_false, true_or, or_true, bLen_tup, List.length_map, -v_seq]
  rw [v_seq]
  refine wp_while (fun n l S' => ∃ (lo hi : Nat) (o5 : Option D), l = [some (.tup (rs.map Rg.D)), some (nD b), some (nD m), some (nD lo), some (nD hi), o5] ∧ S' = S ∧ lo ≤ hi ∧ hi ≤ rs.length ∧ (rs.length ≠ 0 → lo < hi) ∧ (∀ g, rs[lo]? = some g → g.base ≤ b) ∧ (∀ j g, hi ≤ j → rs[j]? = some g → b < g.base) ∧ n = hi - lo) ?_ rs.length _ _ ⟨0, rs.length, _, rfl, rfl, by omega, by omega, by omega, ?_, ?_, by omega⟩
  · rintro n l S' ⟨lo, hi, o5, rfl, rfl, h1, h2, h3, h4, h5, rfl⟩
    unfold c_region_of_0J
    simp_arith [Ly.v_fld, Ly.v_meth, Ly.k_me2, Ly.v_make, Ly.k_mk, Ly.v_fldset, Ly.k_fs, Ly.v_fldaug, Ly.k_fa2, Ly.look1, List.mem_cons, List.not_mem_nil, or_false, true_or, or_true, oAdd_int, oLt_int]
    by_cases hlt : lo + 1 < hi
    · have e1 : ((lo : Int) + 1 < (hi : Int)) := by omega
      rw [if_pos e1]
      have em : ((lo : Int) + (hi : Int)) / 2 = (((lo + hi) / 2 : Nat) : Int) := by omega
      have hm : (lo + hi) / 2 < rs.length := by omega
      have hg : rs[(lo + hi) / 2]? = some rs[(lo + hi) / 2] := List.getElem?_eq_getElem hm
      unfold lb_region_of_1J
      simp_arith [Ly.v_fld, Ly.v_meth, Ly.k_me2, Ly.v_make, Ly.k_mk, Ly.v_fldset, Ly.k_fs, Ly.v_fldaug, Ly.k_fa2, Ly.look1, List.mem_cons, List.not_mem_nil, or_false, true_or, or_true, oAdd_int, oFdiv_int (show (0 : Int) < 2 by decide) (by decide), em, ixMap hg, rgD_base, oLe_int]
      by_cases hb : rs[(lo + hi) / 2].base ≤ b
      · have : ((rs[(lo + hi) / 2].base : Int) ≤ (b : Int)) := by omega
        simp_arith [Ly.v_fld, Ly.v_meth, Ly.k_me2, Ly.v_make, Ly.k_mk, Ly.v_fldset, Ly.k_fs, Ly.v_fldaug, Ly.k_fa2, Ly.look1, List.mem_cons, List.not_mem_nil, or_false, true_or, or_true, this]
        refine ⟨_, ?_, (lo + hi) / 2, hi, _, rfl, by omega, h2, fun _ => by omega, fun g hg2 => ?_, h5, rfl⟩
        · omega
        · rw [hg] at hg2; cases hg2; exact hb
      · have : ¬ ((rs[(lo + hi) / 2].base : Int) ≤ (b : Int)) := by omega
        simp_arith [Ly.v_fld, Ly.v_meth, Ly.k_me2, Ly.v_make, Ly.k_mk, Ly.v_fldset, Ly.k_fs, Ly.v_fldaug, Ly.k_fa2, Ly.look1, List.mem_cons, List.not_mem_nil, or_false, true_or, or_true, this]
        refine ⟨_, ?_, lo, (lo + hi) / 2, _, rfl, by omega, by omega, fun _ => by omega, h4, fun j g hj hg2 => ?_, rfl⟩
        · omega
        · rcases Nat.eq_or_lt_of_le hj with rfl | hj
          · rw [hg] at hg2; cases hg2; omega
          · have := contig_ltJ hc hg hg2 hj
            omega
    · have e1 : ¬ ((lo : Int) + 1 < (hi : Int)) := by omega
      rw [if_neg e1]
      simp_arith [Ly.v_fld, Ly.v_meth, Ly.k_me2, Ly.v_make, Ly.k_mk, Ly.v_fldset, Ly.k_fs, Ly.v_fldaug, Ly.k_fa2, Ly.look1, List.mem_cons, List.not_mem_nil, or_false, true_or, or_true, oEq_int]
      by_cases h0 : hi = 0
      · have : ((hi : Nat) : Int) = 0 := by omega
        simp_arith [Ly.v_fld, Ly.v_meth, Ly.k_me2, Ly.v_make, Ly.k_mk, Ly.v_fldset, Ly.k_fs, Ly.v_fldaug, Ly.k_fa2, Ly.look1, List.mem_cons, List.not_mem_nil, or_false, true_or, or_true, this, oNeg_int]
        refine .inr ⟨rfl, rgOf_none fun g hg => ?_⟩
        obtain ⟨j, hj⟩ := List.getElem?_of_mem hg
        have := h5 j g (by omega) hj
        omega
      · have hne : ¬ ((hi : Nat) : Int) = 0 := by omega
        have hlo : lo < rs.length := by omega
        have hg : rs[lo]? = some rs[lo] := List.getElem?_eq_getElem hlo
        have hb := h4 _ hg
        simp_arith [Ly.v_fld, Ly.v_meth, Ly.k_me2, Ly.v_make, Ly.k_mk, Ly.v_fldset, Ly.k_fs, Ly.v_fldaug, Ly.k_fa2, Ly.look1, List.mem_cons, List.not_mem_nil, or_false, true_or, or_true, hne, oAdd_int, ixMap hg, rgD_base, rgD_size, oLt_int]
        by_cases hin : b + m < rs[lo].base + rs[lo].size
        · have : ((b : Int) + (m : Int) < (rs[lo].base : Int) + (rs[lo].size : Int)) := by omega
          simp_arith [Ly.v_fld, Ly.v_meth, Ly.k_me2, Ly.v_make, Ly.k_mk, Ly.v_fldset, Ly.k_fs, Ly.v_fldaug, Ly.k_fa2, Ly.look1, List.mem_cons, List.not_mem_nil, or_false, true_or, or_true, this]
          exact .inl ⟨lo, _, rfl, hg, rgOf_at hc hg hb hin⟩
        · have : ¬ ((b : Int) + (m : Int) < (rs[lo].base : Int) + (rs[lo].size : Int)) := by omega
          simp_arith [Ly.v_fld, Ly.v_meth, Ly.k_me2, Ly.v_make, Ly.k_mk, Ly.v_fldset, Ly.k_fs, Ly.v_fldaug, Ly.k_fa2, Ly.look1, List.mem_cons, List.not_mem_nil, or_false, true_or, or_true, this, oNeg_int]
          refine .inr ⟨rfl, rgOf_none fun g hg2 => ?_⟩
          obtain ⟨j, hj⟩ := List.getElem?_of_mem hg2
          rintro ⟨k1, k2⟩
          rcases Nat.lt_trichotomy j lo with h | h | h
          · have := contig_ltJ hc hj hg h; omega
          · subst h; rw [hg] at hj; cases hj; exact hin k2
          · have := h5 j g (by omega) hj; omega
  · intro g hg
    cases rs with
    | nil => simp at hg
    | cons x xs => simp at hg; subst hg; have := hc.1; omega
  · intro j g hj hg
    have := (List.getElem?_eq_some_iff.mp hg).1; omega
theorem makes_J (hc : Contig 0 rs) (hl : rs.length ≤ 100000) {k q : Nat} {r : MRow} {p : List Nat} (hq : S[q]? = some (.dic (natDic p (.bl true)))) : Wp NoX (m__makes_publicJ [.tup (rs.map Rg.D), r.D, .ref q] S) fun v S' => v = .bl ((r.ar rs k).pub p) ∧ Kp [] S S' := by
  refine wp_def0 rfl ?_
  unfold b__makes_publicJ
  have hw : ∀ S, oIx r.D (.int 0) S = .ok (.str (wordR2 r)) S := fun S => by rw [D_R2]; exact tixJ
  have main : r.ld? rs = none → wordR2 r ≠ "load" → Wp NoX ((mSeq (mFor (mIt (mFn m_readsJ (lCons (mVar 1) lNil))) (gN 4) lb__makes_public_0J) (mRet (mC (.bl true)))) [some (.tup (rs.map Rg.D)), some r.D, some (.ref q), none, none] S) (enK fun v S' => v = .bl ((r.ar rs k).pub p) ∧ Kp [] S S') := by
    intro hld hnw
    have hpub : (r.ar rs k).pub p = r.rdS.all fun x => decide (x ∈ p) := by
      have e : (r.ar rs k).pub p = r.rds.all fun x => decide (x ∈ p) := by unfold AR.pub MRow.ar; simp only [hld]
      rw [e, Bool.eq_iff_iff, List.all_eq_true, List.all_eq_true]
      exact ⟨fun h x hx => h x (mem_rdS.mp hx), fun h x hx => h x (mem_rdS.mpr hx)⟩
    rw [v_seq]
    simp_arith [Ly.v_fld, Ly.v_meth, Ly.k_me2, Ly.v_make, Ly.k_mk, Ly.v_fldset, Ly.k_fs, Ly.v_fldaug, Ly.k_fa2, Ly.look1, List.mem_cons, List.not_mem_nil, or_false, true_or, or_true, -v_seq]
    refine Wp.call (reads_J r) ?_
    rintro _ S1 ⟨rfl, k1⟩
    simp_arith [Ly.v_fld, Ly.v_meth, Ly.k_me2, Ly.v_make, Ly.k_mk, Ly.v_fldset, Ly.k_fs, Ly.v_fldaug, Ly.k_fa2, Ly.look1, List.mem_cons, List.not_mem_nil, or_false, true_or, or_true, oIt, -v_seq]
    have hq1 := k1.get hq (by simp)
    refine wp_tup (fun pre l S' => (∃ o4, l = [some (.tup (rs.map Rg.D)), some r.D, some (.ref q), none, o4]) ∧ S' = S1 ∧ ∀ d ∈ pre, ∃ x, d = nD x ∧ x ∈ p) ⟨⟨_, rfl⟩, rfl, by simp⟩ ?_ ?_
    · rintro pre d post l S2 hsp ⟨⟨o4, rfl⟩, rfl, hpre⟩
      have hd : d ∈ nDs r.rdS := by rw [hsp]; simp
      obtain ⟨x, hx, rfl⟩ := List.mem_map.mp hd
      unfold lb__makes_public_0J
      simp_arith [Ly.v_fld, Ly.v_meth, Ly.k_me2, Ly.v_make, Ly.k_mk, Ly.v_fldset, Ly.k_fs, Ly.v_fldaug, Ly.k_fa2, Ly.look1, List.mem_cons, List.not_mem_nil, or_false, true_or, or_true, oNotIn_dic hq1]
      by_cases hp : x ∈ p
      · simp_arith [Ly.v_fld, Ly.v_meth, Ly.k_me2, Ly.v_make, Ly.k_mk, Ly.v_fldset, Ly.k_fs, Ly.v_fldaug, Ly.k_fa2, Ly.look1, List.mem_cons, List.not_mem_nil, or_false, true_or, or_true, hp]
        refine ⟨⟨_, rfl⟩, fun d hd => ?_⟩
        rcases List.mem_append.mp hd with h | h
        · exact hpre d h
        · rw [List.mem_singleton.mp h]; exact ⟨x, rfl, hp⟩
      · simp_arith [Ly.v_fld, Ly.v_meth, Ly.k_me2, Ly.v_make, Ly.k_mk, Ly.v_fldset, Ly.k_fs, Ly.v_fldaug, Ly.k_fa2, Ly.look1, List.mem_cons, List.not_mem_nil, or_false, true_or, or_true, hp]
        refine ⟨?_, k1⟩
        rw [hpub]
        congr 1
        symm
        rw [← Bool.not_eq_true, List.all_eq_true]
        intro h; exact hp (by simpa using h x hx)
    · rintro l S2 ⟨⟨o4, rfl⟩, rfl, hpre⟩
      simp_arith [Ly.v_fld, Ly.v_meth, Ly.k_me2, Ly.v_make, Ly.k_mk, Ly.v_fldset, Ly.k_fs, Ly.v_fldaug, Ly.k_fa2, Ly.look1, List.mem_cons, List.not_mem_nil, or_false, true_or, or_true]
      refine ⟨?_, k1⟩
      rw [hpub]
      congr 1
      symm
      rw [List.all_eq_true]
      intro x hx
      simp only [decide_eq_true_eq]
      obtain ⟨y, e, hy⟩ := hpre (nD x) (List.mem_map.mpr ⟨x, hx, rfl⟩)
      have : x = y := by
        unfold nD at e
        injection e with e; omega
      rw [this]; exact hy
  cases r with
  | load d a base mask =>
    simp_arith [Ly.v_fld, Ly.v_meth, Ly.k_me2, Ly.v_make, Ly.k_mk, Ly.v_fldset, Ly.k_fs, Ly.v_fldaug, Ly.k_fa2, Ly.look1, List.mem_cons, List.not_mem_nil, or_false, true_or, or_true, hw, oEq_str, wordR2, -v_seq]
    rw [v_seq]
    have e3 : ∀ S, oIx (MRow.load d a base mask).D (.int 3) S = .ok (nD base) S := fun S => oIx_tup (n := 3) rfl
    have e4 : ∀ S, oIx (MRow.load d a base mask).D (.int 4) S = .ok (nD mask) S := fun S => oIx_tup (n := 4) rfl
    simp_arith [Ly.v_fld, Ly.v_meth, Ly.k_me2, Ly.v_make, Ly.k_mk, Ly.v_fldset, Ly.k_fs, Ly.v_fldaug, Ly.k_fa2, Ly.look1, List.mem_cons, List.not_mem_nil, or_false, true_or, or_true, hw, oEq_str, wordR2, e3, e4]
    refine Wp.call (region_J hc hl) ?_
    rintro v S1 ⟨hv, rfl⟩
    have hpub : (MRow.ar rs k (.load d a base mask)).pub p = isPub (rgOf rs base mask) := rfl
    rcases hv with ⟨j, g, rfl, hg, hr⟩ | ⟨rfl, hr⟩
    · have : (0 : Int) ≤ (j : Int) := by omega
      simp_arith [Ly.v_fld, Ly.v_meth, Ly.k_me2, Ly.v_make, Ly.k_mk, Ly.v_fldset, Ly.k_fs, Ly.v_fldaug, Ly.k_fa2, Ly.look1, List.mem_cons, List.not_mem_nil, or_false, true_or, or_true, oGe_int, this, tb, ixMap hg, rgD_label, oEq_str]
      exact ⟨by rw [hpub, hr]; simp [isPub], Kp.refl⟩
    · simp_arith [Ly.v_fld, Ly.v_meth, Ly.k_me2, Ly.v_make, Ly.k_mk, Ly.v_fldset, Ly.k_fs, Ly.v_fldaug, Ly.k_fa2, Ly.look1, List.mem_cons, List.not_mem_nil, or_false, true_or, or_true, oGe_int, tb, show ((0 : Int) ≤ -1) = False by simp]
      exact ⟨by rw [hpub, hr]; simp [isPub], Kp.refl⟩
  | const d n => rw [v_seq]; simp_arith [Ly.v_fld, Ly.v_meth, Ly.k_me2, Ly.v_make, Ly.k_mk, Ly.v_fldset, Ly.k_fs, Ly.v_fldaug, Ly.k_fa2, Ly.look1, List.mem_cons, List.not_mem_nil, or_false, true_or, or_true, hw, oEq_str, wordR2, ofString_inj, String.reduceEq, -v_seq]; exact main rfl (by simp [wordR2, ofString_inj])
  | op s d a b => rw [v_seq]; simp_arith [Ly.v_fld, Ly.v_meth, Ly.k_me2, Ly.v_make, Ly.k_mk, Ly.v_fldset, Ly.k_fs, Ly.v_fldaug, Ly.k_fa2, Ly.look1, List.mem_cons, List.not_mem_nil, or_false, true_or, or_true, hw, oEq_str, wordR2, ofString_inj, String.reduceEq, -v_seq]; exact main rfl (by simp [wordR2, ofString_inj])
  | select d c a b => rw [v_seq]; simp_arith [Ly.v_fld, Ly.v_meth, Ly.k_me2, Ly.v_make, Ly.k_mk, Ly.v_fldset, Ly.k_fs, Ly.v_fldaug, Ly.k_fa2, Ly.look1, List.mem_cons, List.not_mem_nil, or_false, true_or, or_true, hw, oEq_str, wordR2, ofString_inj, String.reduceEq, -v_seq]; exact main rfl (by simp [wordR2, ofString_inj])
  | store d c a b => rw [v_seq]; simp_arith [Ly.v_fld, Ly.v_meth, Ly.k_me2, Ly.v_make, Ly.k_mk, Ly.v_fldset, Ly.k_fs, Ly.v_fldaug, Ly.k_fa2, Ly.look1, List.mem_cons, List.not_mem_nil, or_false, true_or, or_true, hw, oEq_str, wordR2, ofString_inj, String.reduceEq, -v_seq]; exact main rfl (by simp [wordR2, ofString_inj])
  | out d => rw [v_seq]; simp_arith [Ly.v_fld, Ly.v_meth, Ly.k_me2, Ly.v_make, Ly.k_mk, Ly.v_fldset, Ly.k_fs, Ly.v_fldaug, Ly.k_fa2, Ly.look1, List.mem_cons, List.not_mem_nil, or_false, true_or, or_true, hw, oEq_str, wordR2, ofString_inj, String.reduceEq, -v_seq]; exact main rfl (by simp [wordR2, ofString_inj])
  | jump d => rw [v_seq]; simp_arith [Ly.v_fld, Ly.v_meth, Ly.k_me2, Ly.v_make, Ly.k_mk, Ly.v_fldset, Ly.k_fs, Ly.v_fldaug, Ly.k_fa2, Ly.look1, List.mem_cons, List.not_mem_nil, or_false, true_or, or_true, hw, oEq_str, wordR2, ofString_inj, String.reduceEq, -v_seq]; exact main rfl (by simp [wordR2, ofString_inj])
  | branch d t => rw [v_seq]; simp_arith [Ly.v_fld, Ly.v_meth, Ly.k_me2, Ly.v_make, Ly.k_mk, Ly.v_fldset, Ly.k_fs, Ly.v_fldaug, Ly.k_fa2, Ly.look1, List.mem_cons, List.not_mem_nil, or_false, true_or, or_true, hw, oEq_str, wordR2, ofString_inj, String.reduceEq, -v_seq]; exact main rfl (by simp [wordR2, ofString_inj])
  | stop d => rw [v_seq]; simp_arith [Ly.v_fld, Ly.v_meth, Ly.k_me2, Ly.v_make, Ly.k_mk, Ly.v_fldset, Ly.k_fs, Ly.v_fldaug, Ly.k_fa2, Ly.look1, List.mem_cons, List.not_mem_nil, or_false, true_or, or_true, hw, oEq_str, wordR2, ofString_inj, String.reduceEq, -v_seq]; exact main rfl (by simp [wordR2, ofString_inj])
end
end Ly
set_option Elab.async false
set_option linter.all false
set_option maxRecDepth 100000
namespace Ly
open PySem PySem.Spec L2
open PyProof.Rows hiding St
local macro_rules | `(tactic| simp_arith [$ls,*]) => `(tactic| simp only [Ly.line_le, Ly.atX_no, Ly.v_ok, Ly.v_bad, Ly.v_bind, Ly.k_bd, Ly.v_at, Ly.v_bin, Ly.k_bi, Ly.k_bi2, Ly.v_var, Ly.v_c, Ly.v_un, Ly.k_un, Ly.v_if, Ly.k_ife, Ly.v_and, Ly.k_and, Ly.k_and2, Ly.v_or, Ly.k_or, Ly.k_or2, Ly.v_tup, Ly.k_tup, Ly.v_lst, Ly.k_lst, Ly.v_call, Ly.k_ca, Ly.v_fn, Ly.k_fn, Ly.v_bm, Ly.k_bm, Ly.k_bm2, Ly.v_sl, Ly.k_sl, Ly.k_sl2, Ly.k_sl3, Ly.v_ixK, Ly.k_ixk, Ly.v_inK, Ly.k_ink, Ly.v_notinK, Ly.k_nink, Ly.v_getK2, Ly.k_gk2, Ly.k_gk, Ly.v_get2, Ly.k_g2, Ly.k_g22, Ly.k_g23, Ly.v_nil, Ly.v_cons, Ly.k_co, Ly.k_co2, Ly.v_no, Ly.v_some, Ly.k_so, Ly.k_cm, Ly.v_cmp, Ly.v_tru, Ly.k_tr, Ly.v_notB, Ly.k_no, Ly.v_andB, Ly.k_an, Ly.v_orB, Ly.k_orb, Ly.v_yes, Ly.v_inKB, Ly.k_inkB, Ly.v_notinKB, Ly.k_ninkB, Ly.v_set, Ly.k_st, Ly.v_expr, Ly.k_ex, Ly.v_ret, Ly.k_re, Ly.v_retN, Ly.v_pass, Ly.v_brk, Ly.v_cnt, Ly.v_seq, Ly.k_sq_nx, Ly.k_sq_rt, Ly.k_sq_bk, Ly.k_sq_ct, Ly.v_ifS, Ly.k_ifs, Ly.v_asg, Ly.k_as, Ly.k_as2, Ly.v_aug, Ly.k_au, Ly.v_for, Ly.k_fo, Ly.v_it, Ly.k_it, Ly.k_ij, Ly.v_rng1, Ly.v_rng2, Ly.v_enum, Ly.v_zip, Ly.v_ez, Ly.v_gN, Ly.v_gsN, Ly.v_gsC, Ly.k_gc, Ly.v_gT, Ly.v_gTw, Ly.v_gSb, Ly.k_gsb, Ly.k_gsb2, Ly.k_gsb3, Ly.k_en_rt, Ly.k_en_nx, Ly.k_tu_nx, Ly.k_tu_ct, Ly.k_tu_bk, Ly.k_tu_rt, Ly.v_lc, Ly.k_lc, Ly.v_augI, Ly.k_ag, Ly.k_ag2, Ly.k_ag3, Ly.k_ag4, Ly.k_ag5, Ly.v_del, Ly.k_dl, Ly.k_dl2, Ly.v_setd, Ly.v_pop2, Ly.k_d3, Ly.k_d32, Ly.k_d33, Ly.v_get1, Ly.k_g1, Ly.k_g12, Ly.v_rg1, Ly.k_rg, Ly.v_rg2, Ly.k_rg2, Ly.k_rg22, Ly.v_dicK, Ly.v_dicT, Ly.v_dc, Ly.k_dc, List.getElem?_cons_zero, List.getElem?_cons_succ, List.set_cons_zero, List.set_cons_succ, List.length_cons, List.length_nil, List.map_cons, List.map_nil, List.cons_append, List.nil_append, List.replicate, if_true, if_false, Bool.false_eq_true, Bool.not_true, Bool.not_false, Bool.true_and, Bool.false_and, decide_true, decide_false, decide_eq_true_eq, Nat.zero_add, Nat.reduceAdd, Nat.reduceLeDiff, true_and, and_true, $ls,*])
section
variable {S S' : Hs} {rs : List Rg} {rows : List MRow}
theorem keys_set_in {kvs : List (Key × D)} {k : Key} {v : D} (h : k ∈ kvs.map (·.1)) : (setK kvs k v).map (·.1) = kvs.map (·.1) := by
  unfold setK
  have hany : (kvs.any fun kv => decide (kv.1 = k)) = true := by
    rw [List.any_eq_true]
    obtain ⟨x, hx, e⟩ := List.mem_map.mp h
    exact ⟨x, hx, by simpa using e⟩
  rw [if_pos hany, List.map_map]
  refine List.map_congr_left fun x _ => ?_
  show (if x.1 = k then (x.1, v) else x).1 = x.1
  split <;> rfl
theorem keys_set_no {kvs : List (Key × D)} {k : Key} {v : D} (h : k ∉ kvs.map (·.1)) : (setK kvs k v).map (·.1) = kvs.map (·.1) ++ [k] := by
  unfold setK
  have hany : ¬ (kvs.any fun kv => decide (kv.1 = k)) = true := by
    rw [List.any_eq_true]
    rintro ⟨x, hx, e⟩
    exact h (List.mem_map.mpr ⟨x, hx, by simpa using e⟩)
  rw [if_neg hany, List.map_append]; rfl
theorem keys_nat {L : List Nat} {v : D} : (natDic L v).map (·.1) = L.map fun n : Nat => (Sum.inl (n : Int) : Key) := by simp [natDic, List.map_map, Function.comp_def]
theorem keys_mem {L : List Nat} {n : Nat} : (Sum.inl (n : Int) : Key) ∈ L.map (fun n : Nat => (Sum.inl (n : Int) : Key)) ↔ n ∈ L := by
  rw [List.mem_map]
  constructor
  · rintro ⟨m, hm, e⟩
    have := Sum.inl.inj e
    have : m = n := by omega
    rw [← this]; exact hm
  · exact fun h => ⟨n, h, rfl⟩
theorem keys_setN {L : List Nat} {v u : D} {n : Nat} : (setK (natDic L v) (.inl (n : Int)) u).map (·.1) = (addN L n).map fun n : Nat => (Sum.inl (n : Int) : Key) := by
  unfold addN
  by_cases h : n ∈ L
  · rw [keys_set_in (by rw [keys_nat]; exact keys_mem.mpr h), if_pos h, keys_nat]
  · rw [keys_set_no (by rw [keys_nat]; exact fun c => h (keys_mem.mp c)), if_neg h, keys_nat, List.map_append]; rfl
theorem intKeys_keys : ∀ {kvs : List (Key × D)} {L : List Nat}, kvs.map (·.1) = L.map (fun n : Nat => (Sum.inl (n : Int) : Key)) → intKeys kvs = some (L.map Int.ofNat)
  | [], [], _ => rfl
  | [], _ :: _, h => by cases h
  | _ :: _, [], h => by cases h
  | (k, v) :: kvs, n :: L, h => by
    simp only [List.map_cons, List.cons.injEq] at h
    obtain ⟨h1, h2⟩ := h
    subst h1
    simp only [intKeys, intKeys_keys h2, Option.map_some, List.map_cons]
    rfl
theorem bSorted_keys {q : Nat} {kvs : List (Key × D)} {L : List Nat} (h : S[q]? = some (.dic kvs)) (hk : kvs.map (·.1) = L.map fun n : Nat => (Sum.inl (n : Int) : Key)) (hl : L.length < 64) : bSorted [.ref q] S = .ok (.ref S.length) (S ++ [.lst (nDs (sortN L))]) := by
  have e := intKeys_keys hk
  simp [bSorted, seqD, h, e, hl, sortI_nat]
theorem dcTrue {p : List Nat} {l : Ls} {i : Nat} {Q : D → Hs → Prop} (hp : p.Nodup) (hpl : p.length ≤ 10000) (hi : i < l.length) (hend : ∀ k S, itGo (.tup (nDs p)) k S = (match (nDs p)[k]? with | some d => some (some d) | none => some none))
    (hQ : ∀ S', S'[S.length]? = some (.dic (natDic p (.bl true))) → Kp [] S S' → Q (.ref S.length) S') : Wp NoX (dcLoop (.tup (nDs p)) (cN i) mYes (mVar i) (mC (.bl true)) l S.length 0 (S ++ [O.dic []])) Q := by
  refine wp_dcLoop p.length (fun k acc S' => acc = natDic (p.take k) (.bl true) ∧ S'[S.length]? = some (.dic acc) ∧ Kp [] S S') ?_ ?_ ?_ p.length 0 [] _ (by omega) ⟨rfl, get_end, Kp.new⟩
  · rintro acc S' -
    rw [hend, List.getElem?_eq_none (by simp)]
  · rintro k acc S' hk ⟨rfl, hq, K⟩
    have hx : p[k]? = some p[k] := List.getElem?_eq_getElem hk
    refine ⟨nD p[k], ?_, ?_⟩
    · rw [hend, List.getElem?_map, hx]; rfl
    · refine ⟨l.set i (some (nD p[k])), rfl, ?_⟩
      have hv : (l.set i (some (nD p[k])))[i]? = some (some (nD p[k])) := by simp [hi]
      have hn : p[k] ∉ p.take k := by
        intro hc
        obtain ⟨j, hj, e⟩ := List.getElem_of_mem hc
        rw [List.getElem_take] at e
        rw [List.length_take] at hj
        exact List.pairwise_iff_getElem.mp hp j k (by omega) hk (by omega) e
      simp_arith [hv]
      refine ⟨hq, by simp [natDic]; exact Nat.lt_of_le_of_lt (Nat.min_le_left _ _) (line_big (by omega)), .inl (p[k] : Int), rfl, ?_⟩
      have e2 : setK (natDic (p.take k) (.bl true)) (.inl (p[k] : Int)) (.bl true) = natDic (p.take (k + 1)) (.bl true) := by
        rw [natDic_set, take_at hx]
        unfold addN; rw [if_neg hn]
      rw [e2]
      exact ⟨rfl, get_put hq, K.setNew (Nat.le_refl _)⟩
  · rintro acc S' ⟨rfl, hq, K⟩
    rw [List.take_length] at hq
    exact hQ S' hq K
theorem behind_J (hc : Contig 0 rs) (hl : rs.length ≤ 100000) {k : Nat} {r : MRow} {p : List Nat} (hr : rows[k]? = some r) (hw : ∀ x, r.wr? = some x → x < 16) (hp : Mb p) :
    Wp NoX (m_public_behindJ [codeD rs rows, nD k, .tup (nDs p)] S) fun v S' => v = .tup (nDs ((r.ar rs k).behind p)) ∧ Kp [] S S' := by
  refine wp_def0 rfl ?_
  unfold b_public_behindJ
  have ex : ∀ S, oIx (.tup (rows.map MRow.D)) (nD k) S = .ok r.D S := fun S => oIx_tup (by rw [List.getElem?_map, hr]; rfl)
  simp_arith [Ly.v_fld, Ly.v_meth, Ly.k_me2, Ly.v_make, Ly.k_mk, Ly.v_fldset, Ly.k_fs, Ly.v_fldaug, Ly.k_fa2, Ly.look1, List.mem_cons, List.not_mem_nil, or_false, true_or, or_true, codeD, tix1, ex, -v_seq]
  rw [v_seq]
  simp_arith [Ly.v_fld, Ly.v_meth, Ly.k_me2, Ly.v_make, Ly.k_mk, Ly.v_fldset, Ly.k_fs, Ly.v_fldaug, Ly.k_fa2, Ly.look1, List.mem_cons, List.not_mem_nil, or_false, true_or, or_true, codeD, tix1, ex, -v_seq]
  rw [v_seq]
  simp_arith [Ly.v_fld, Ly.v_meth, Ly.k_me2, Ly.v_make, Ly.k_mk, Ly.v_fldset, Ly.k_fs, Ly.v_fldaug, Ly.k_fa2, Ly.look1, List.mem_cons, List.not_mem_nil, or_false, true_or, or_true, -v_seq]
  refine Wp.call (writes_J r) ?_
  rintro _ S1 ⟨rfl, rfl⟩
  simp_arith [Ly.v_fld, Ly.v_meth, Ly.k_me2, Ly.v_make, Ly.k_mk, Ly.v_fldset, Ly.k_fs, Ly.v_fldaug, Ly.k_fa2, Ly.look1, List.mem_cons, List.not_mem_nil, or_false, true_or, or_true, -v_seq]
  rw [v_seq]
  cases e : r.wr? with
  | none =>
    have hb : (r.ar rs k).behind p = p := by unfold AR.behind MRow.ar; simp only [e]
    simp_arith [Ly.v_fld, Ly.v_meth, Ly.k_me2, Ly.v_make, Ly.k_mk, Ly.v_fldset, Ly.k_fs, Ly.v_fldaug, Ly.k_fa2, Ly.look1, List.mem_cons, List.not_mem_nil, or_false, true_or, or_true, optD2, oLt_int, show (((-1 : Int) < 0)) = True by simp, show bTuple [.tup (nDs p)] S1 = .ok (.tup (nDs p)) S1 from rfl]
    exact ⟨by rw [hb], Kp.refl⟩
  | some x =>
    have hx := hw x e
    have hnx : ¬ ((x : Int) < 0) := by omega
    have hb : (r.ar rs k).behind p = bits16 fun y => if y = x then (r.ar rs k).pub p else decide (y ∈ p) := by unfold AR.behind; simp only [MRow.ar, e]
    have hpl := hp.len
    simp_arith [Ly.v_fld, Ly.v_meth, Ly.k_me2, Ly.v_make, Ly.k_mk, Ly.v_fldset, Ly.k_fs, Ly.v_fldaug, Ly.k_fa2, Ly.look1, List.mem_cons, List.not_mem_nil, or_false, true_or, or_true, optD2, oLt_int, hnx, -v_seq]
    rw [v_seq]
    simp_arith [Ly.v_fld, Ly.v_meth, Ly.k_me2, Ly.v_make, Ly.k_mk, Ly.v_fldset, Ly.k_fs, Ly.v_fldaug, Ly.k_fa2, Ly.look1, List.mem_cons, List.not_mem_nil, or_false, true_or, or_true, oIt, wipeL, -v_seq]
    refine dcTrue hp.nodup (by omega) (by simp) (fun k S => ?_) fun S2 hq k2 => ?_
    · simp only [itGo]; cases (nDs p)[k]? <;> rfl
    simp_arith [Ly.v_fld, Ly.v_meth, Ly.k_me2, Ly.v_make, Ly.k_mk, Ly.v_fldset, Ly.k_fs, Ly.v_fldaug, Ly.k_fa2, Ly.look1, List.mem_cons, List.not_mem_nil, or_false, true_or, or_true, -v_seq]
    rw [v_seq]
    simp_arith [Ly.v_fld, Ly.v_meth, Ly.k_me2, Ly.v_make, Ly.k_mk, Ly.v_fldset, Ly.k_fs, Ly.v_fldaug, Ly.k_fa2, Ly.look1, List.mem_cons, List.not_mem_nil, or_false, true_or, or_true, codeD, tix0, -v_seq]
    refine Wp.call (makes_J hc hl (k := k) (r := r) hq) ?_
    rintro _ S3 ⟨rfl, k3⟩
    have hq3 := k3.get hq (by simp)
    have hlen : (natDic p (.bl true)).length < sizeLine := by simp only [natDic, List.length_map]; exact line_big (by omega)
    simp_arith [Ly.v_fld, Ly.v_meth, Ly.k_me2, Ly.v_make, Ly.k_mk, Ly.v_fldset, Ly.k_fs, Ly.v_fldaug, Ly.k_fa2, Ly.look1, List.mem_cons, List.not_mem_nil, or_false, true_or, or_true, oSet_dic hq3 (key_int) hlen, -v_seq]
    have hq4 := get_put (u := O.dic (setK (natDic p (.bl true)) (.inl (x : Int)) (.bl ((r.ar rs k).pub p)))) hq3
    have k4 : Kp [] S1 (S3.set S1.length (O.dic (setK (natDic p (.bl true)) (.inl (x : Int)) (.bl ((r.ar rs k).pub p))))) := (k2.trans k3).setNew (Nat.le_refl _)
    generalize S3.set S1.length (O.dic (setK (natDic p (.bl true)) (.inl (x : Int)) (.bl ((r.ar rs k).pub p)))) = S4 at *
    have hal : (addN p x).length ≤ 17 := by
      unfold addN; split
      · omega
      · rw [List.length_append, List.length_singleton]; omega
    simp_arith [Ly.v_fld, Ly.v_meth, Ly.k_me2, Ly.v_make, Ly.k_mk, Ly.v_fldset, Ly.k_fs, Ly.v_fldaug, Ly.k_fa2, Ly.look1, List.mem_cons, List.not_mem_nil, or_false, true_or, or_true, bSorted_keys hq4 keys_setN (by omega), oIt_lst get_end, wipeL, -v_seq]
    have hq5 : (S4 ++ [O.lst (nDs (sortN (addN p x)))])[S1.length]? = some (.dic (setK (natDic p (.bl true)) (.inl (x : Int)) (.bl ((r.ar rs k).pub p)))) := Kp.get (A := []) Kp.new hq4 (by simp)
    have hL5 : (S4 ++ [O.lst (nDs (sortN (addN p x)))])[S4.length]? = some (.lst (nDs (sortN (addN p x)))) := get_end
    have k5 : Kp [] S1 (S4 ++ [O.lst (nDs (sortN (addN p x)))]) := k4.app
    have l45 : S1.length < S4.length := Real.lt hq4
    generalize hS5 : S4 ++ [O.lst (nDs (sortN (addN p x)))] = S5 at *
    have hslen : (sortN (addN p x)).length ≤ 17 := by rw [(sortN_perm _).length_eq]; exact hal
    have hmem : ∀ y ∈ sortN (addN p x), y ∈ p ∨ y = x := fun y hy => mem_addN.mp ((sortN_perm _).mem_iff.mp hy)
    refine lc_pure nD (S := S5) (xs := sortN (addN p x)) (fun y => if (if y = x then (r.ar rs k).pub p else true) = true then some (nD y) else none) (fun S' hS' j hj => ?_) (by omega) (fun y hy S' hS' => ?_) (fun S' h1 h2 => ?_)
    · simp only [itGo, seqAt_lst (hS'.get hL5 (by simp)), Option.map_some, List.getElem?_map]
    · have hg : (S')[S1.length]? = _ := hS'.get hq5 (by simp)
      refine ⟨[some (.tup [.tup (rs.map Rg.D), .tup (rows.map MRow.D)]), some (nD k), some (.tup (nDs p)), some r.D, some (nD x), some (.ref S1.length), some (nD y)], rfl, ?_⟩
      have hget : oIx (.ref S1.length) (nD y) S' = .ok (.bl (if y = x then (r.ar rs k).pub p else true)) S' := by
        refine oIx_dic hg key_int ?_
        rw [getK_setK]
        by_cases hyx : y = x
        · subst hyx; simp
        · have : ¬ ((Sum.inl (y : Int) : Key) = .inl (x : Int)) := by intro e; have := Sum.inl.inj e; omega
          rw [if_neg this, natDic_get, if_pos ((hmem y hy).resolve_right hyx), if_neg hyx]
      simp_arith [Ly.v_fld, Ly.v_meth, Ly.k_me2, Ly.v_make, Ly.k_mk, Ly.v_fldset, Ly.k_fs, Ly.v_fldaug, Ly.k_fa2, Ly.look1, List.mem_cons, List.not_mem_nil, or_false, true_or, or_true, hget, tb]
      generalize (if y = x then (r.ar rs k).pub p else true) = bb
      cases bb
      · simp_arith [Ly.v_fld, Ly.v_meth, Ly.k_me2, Ly.v_make, Ly.k_mk, Ly.v_fldset, Ly.k_fs, Ly.v_fldaug, Ly.k_fa2, Ly.look1, List.mem_cons, List.not_mem_nil, or_false, true_or, or_true]; exact Kp.refl
      · simp_arith [Ly.v_fld, Ly.v_meth, Ly.k_me2, Ly.v_make, Ly.k_mk, Ly.v_fldset, Ly.k_fs, Ly.v_fldaug, Ly.k_fa2, Ly.look1, List.mem_cons, List.not_mem_nil, or_false, true_or, or_true]; exact ⟨Kp.refl, Kp.refl⟩
    · have e1 : (sortN (addN p x)).filterMap (fun y => if (if y = x then (r.ar rs k).pub p else true) = true then some (nD y) else none) = nDs ((r.ar rs k).behind p) := by
        have e2 : (sortN (addN p x)).filterMap (fun y => if (if y = x then (r.ar rs k).pub p else true) = true then some (nD y) else none) = nDs ((sortN (addN p x)).filter fun y => if y = x then (r.ar rs k).pub p else true) := by
          generalize sortN (addN p x) = L
          clear hmem hslen h1 hL5 hS5 hal
          induction L with
          | nil => rfl
          | cons y L ih =>
            rw [List.filterMap_cons, List.filter_cons, ih]
            generalize (if y = x then (r.ar rs k).pub p else true) = bb
            cases bb <;> rfl
        rw [e2, hb]
        congr 1
        have n1 : (sortN (addN p x)).Nodup := (sortN_perm _).nodup_iff.mpr (nodup_addN hp.nodup)
        have hm1 : Mb ((sortN (addN p x)).filter fun y => if y = x then (r.ar rs k).pub p else true) := by
          refine ⟨List.Pairwise.filter _ ?_, fun a ha => ?_⟩
          · have := List.Pairwise.and (sortN_pw (addN p x)) n1
            exact this.imp fun ⟨h1, h2⟩ => by omega
          · rcases hmem a (List.mem_filter.mp ha).1 with h | h
            · exact hp.lt a h
            · rw [h]; exact hx
        refine hm1.ext bits_mb fun a => ?_
        rw [List.mem_filter, (sortN_perm _).mem_iff, mem_addN, mem_bits]
        by_cases hax : a = x
        · subst hax; simp; exact fun _ => hx
        · simp [hax]; exact fun h => hp.lt a h
      rw [e1] at h1
      simp_arith [Ly.v_fld, Ly.v_meth, Ly.k_me2, Ly.v_make, Ly.k_mk, Ly.v_fldset, Ly.k_fs, Ly.v_fldaug, Ly.k_fa2, Ly.look1, List.mem_cons, List.not_mem_nil, or_false, true_or, or_true, bTuple_lst h1]
      exact k5.trans h2
end
end Ly
set_option Elab.async false
set_option linter.all false
set_option maxRecDepth 100000
namespace Ly
open PySem PySem.Spec L2
open PyProof.Rows hiding St
local macro_rules | `(tactic| simp_arith [$ls,*]) => `(tactic| simp only [Ly.line_le, Ly.atX_no, Ly.v_ok, Ly.v_bad, Ly.v_bind, Ly.k_bd, Ly.v_at, Ly.v_bin, Ly.k_bi, Ly.k_bi2, Ly.v_var, Ly.v_c, Ly.v_un, Ly.k_un, Ly.v_if, Ly.k_ife, Ly.v_and, Ly.k_and, Ly.k_and2, Ly.v_or, Ly.k_or, Ly.k_or2, Ly.v_tup, Ly.k_tup, Ly.v_lst, Ly.k_lst, Ly.v_call, Ly.k_ca, Ly.v_fn, Ly.k_fn, Ly.v_bm, Ly.k_bm, Ly.k_bm2, Ly.v_sl, Ly.k_sl, Ly.k_sl2, Ly.k_sl3, Ly.v_ixK, Ly.k_ixk, Ly.v_inK, Ly.k_ink, Ly.v_notinK, Ly.k_nink, Ly.v_getK2, Ly.k_gk2, Ly.k_gk, Ly.v_get2, Ly.k_g2, Ly.k_g22, Ly.k_g23, Ly.v_nil, Ly.v_cons, Ly.k_co, Ly.k_co2, Ly.v_no, Ly.v_some, Ly.k_so, Ly.k_cm, Ly.v_cmp, Ly.v_tru, Ly.k_tr, Ly.v_notB, Ly.k_no, Ly.v_andB, Ly.k_an, Ly.v_orB, Ly.k_orb, Ly.v_yes, Ly.v_inKB, Ly.k_inkB, Ly.v_notinKB, Ly.k_ninkB, Ly.v_set, Ly.k_st, Ly.v_expr, Ly.k_ex, Ly.v_ret, Ly.k_re, Ly.v_retN, Ly.v_pass, Ly.v_brk, Ly.v_cnt, Ly.v_seq, Ly.k_sq_nx, Ly.k_sq_rt, Ly.k_sq_bk, Ly.k_sq_ct, Ly.v_ifS, Ly.k_ifs, Ly.v_asg, Ly.k_as, Ly.k_as2, Ly.v_aug, Ly.k_au, Ly.v_for, Ly.k_fo, Ly.v_it, Ly.k_it, Ly.k_ij, Ly.v_rng1, Ly.v_rng2, Ly.v_enum, Ly.v_zip, Ly.v_ez, Ly.v_gN, Ly.v_gsN, Ly.v_gsC, Ly.k_gc, Ly.v_gT, Ly.v_gTw, Ly.v_gSb, Ly.k_gsb, Ly.k_gsb2, Ly.k_gsb3, Ly.k_en_rt, Ly.k_en_nx, Ly.k_tu_nx, Ly.k_tu_ct, Ly.k_tu_bk, Ly.k_tu_rt, Ly.v_lc, Ly.k_lc, Ly.v_augI, Ly.k_ag, Ly.k_ag2, Ly.k_ag3, Ly.k_ag4, Ly.k_ag5, Ly.v_del, Ly.k_dl, Ly.k_dl2, Ly.v_setd, Ly.v_pop2, Ly.k_d3, Ly.k_d32, Ly.k_d33, Ly.v_get1, Ly.k_g1, Ly.k_g12, Ly.v_rg1, Ly.k_rg, Ly.v_rg2, Ly.k_rg2, Ly.k_rg22, Ly.v_dicK, Ly.v_dicT, Ly.v_dc, Ly.k_dc, List.getElem?_cons_zero, List.getElem?_cons_succ, List.set_cons_zero, List.set_cons_succ, List.length_cons, List.length_nil, List.map_cons, List.map_nil, List.cons_append, List.nil_append, List.replicate, if_true, if_false, Bool.false_eq_true, Bool.not_true, Bool.not_false, Bool.true_and, Bool.false_and, decide_true, decide_false, decide_eq_true_eq, Nat.zero_add, Nat.reduceAdd, Nat.reduceLeDiff, true_and, and_true, $ls,*])
def gpWay (bh : List Nat) (st : List (List Nat) × List Nat) (way : Nat) : List (List Nat) × List Nat :=
  if (st.1.getD way []).filter (fun a => decide (a ∈ bh)) = st.1.getD way [] then st
  else (st.1.set way ((st.1.getD way []).filter (fun a => decide (a ∈ bh))), st.2 ++ [way])
def AR0 : AR := ⟨none, none, [], []⟩
def gpStep (as : List AR) (st : List (List Nat) × List Nat) : List (List Nat) × List Nat := match st.2.getLast? with
  | none => st
  | some r => (as.getD r AR0).ws.foldl (gpWay ((as.getD r AR0).behind (st.1.getD r []))) (st.1, st.2.dropLast)
def gpIt (as : List AR) : Nat → List (List Nat) × List Nat → List (List Nat) × List Nat
  | 0, st => st
  | n + 1, st => gpIt as n (gpStep as st)
theorem gpIt_add {as : List AR} : ∀ {n m : Nat} {st : List (List Nat) × List Nat}, gpIt as (n + m) st = gpIt as m (gpIt as n st)
  | 0, m, st => by rw [Nat.zero_add]; rfl
  | n + 1, m, st => by rw [Nat.succ_add]; exact gpIt_add (n := n)
def gp0 (n : Nat) : List (List Nat) × List Nat := (List.replicate n (List.range 16), (List.range n).reverse)
structure AsOk (as : List AR) : Prop where
  ws : ∀ a ∈ as, ∀ w ∈ a.ws, w < as.length
  wr : ∀ a ∈ as, ∀ x, a.wr = some x → x < 16
  wn : ∀ a ∈ as, a.ws.length ≤ 2
structure GpSt (as : List AR) (st : List (List Nat) × List Nat) : Prop where
  len : st.1.length = as.length
  mb : ∀ m ∈ st.1, Mb m
  wt : ∀ w ∈ st.2, w < as.length
def gpMeas (st : List (List Nat) × List Nat) : Nat := 2 * (st.1.map (·.length)).sum + st.2.length
theorem sum_set : ∀ {l : List (List Nat)} {i : Nat} {x : List Nat}, i < l.length → x.length < (l.getD i []).length → ((l.set i x).map (·.length)).sum + 1 ≤ (l.map (·.length)).sum
  | [], i, x, h, _ => by simp at h
  | y :: l, 0, x, h, hx => by simp at hx ⊢; omega
  | y :: l, i + 1, x, h, hx => by
    have := sum_set (l := l) (i := i) (x := x) (by simpa using h) (by simpa using hx)
    simp only [List.set_cons_succ, List.map_cons, List.sum_cons]; omega
theorem Mb.filter {p : List Nat} (h : Mb p) (f : Nat → Bool) : Mb (p.filter f) := ⟨List.Pairwise.filter _ h.pw, fun a ha => h.lt a (List.mem_filter.mp ha).1⟩
theorem GpSt.get {as : List AR} {st : List (List Nat) × List Nat} (h : GpSt as st) {i : Nat} (hi : i < as.length) : st.1[i]? = some (st.1.getD i []) ∧ Mb (st.1.getD i []) := by
  have hl : i < st.1.length := by rw [h.len]; exact hi
  have e : st.1[i]? = some (st.1.getD i []) := by simp [List.getD, List.getElem?_eq_getElem hl]
  exact ⟨e, h.mb _ (List.mem_of_getElem? e)⟩
theorem GpSt.way {as : List AR} {st : List (List Nat) × List Nat} (h : GpSt as st) {bh : List Nat} {w : Nat} (hw : w < as.length) : GpSt as (gpWay bh st w) ∧ gpMeas (gpWay bh st w) ≤ gpMeas st := by
  unfold gpWay
  split
  · exact ⟨h, Nat.le_refl _⟩
  · rename_i hne
    have hl : w < st.1.length := by rw [h.len]; exact hw
    refine ⟨⟨by rw [List.length_set]; exact h.len, fun m hm => ?_, fun x hx => ?_⟩, ?_⟩
    · rcases List.mem_or_eq_of_mem_set hm with h1 | h1
      · exact h.mb m h1
      · rw [h1]; exact (h.get hw).2.filter _
    · rcases List.mem_append.mp hx with h1 | h1
      · exact h.wt x h1
      · rw [List.mem_singleton.mp h1]; exact hw
    · have hlt : ((st.1.getD w []).filter (fun a => decide (a ∈ bh))).length < (st.1.getD w []).length := by
        rcases Nat.lt_or_ge ((st.1.getD w []).filter (fun a => decide (a ∈ bh))).length (st.1.getD w []).length with h1 | h1
        · exact h1
        · exact absurd (List.Sublist.eq_of_length_le List.filter_sublist h1) hne
      have := sum_set hl hlt
      unfold gpMeas
      simp only [List.length_append, List.length_singleton]; omega
theorem GpSt.fold {as : List AR} {bh : List Nat} : ∀ {ws : List Nat} {st : List (List Nat) × List Nat}, GpSt as st → (∀ w ∈ ws, w < as.length) → GpSt as (ws.foldl (gpWay bh) st) ∧ gpMeas (ws.foldl (gpWay bh) st) ≤ gpMeas st
  | [], st, h, _ => ⟨h, Nat.le_refl _⟩
  | w :: ws, st, h, hw => by
    obtain ⟨h1, m1⟩ := h.way (bh := bh) (hw w (by simp))
    obtain ⟨h2, m2⟩ := h1.fold (ws := ws) (bh := bh) (fun x hx => hw x (List.mem_cons_of_mem _ hx))
    exact ⟨h2, Nat.le_trans m2 m1⟩
theorem gp0_ok {as : List AR} : GpSt as (gp0 as.length) := by
  refine ⟨by simp [gp0], fun m hm => ?_, fun w hw => by simpa [gp0] using hw⟩
  have : m = List.range 16 := by simp [gp0] at hm; exact hm.2
  rw [this]
  exact ⟨List.pairwise_lt_range, fun a ha => List.mem_range.mp ha⟩
def arsF (rs : List Rg) : Nat → List MRow → List AR
  | _, [] => []
  | k, r :: rows => r.ar rs k :: arsF rs (k + 1) rows
def ars (rs : List Rg) (rows : List MRow) : List AR := arsF rs 0 rows
theorem arsF_get {rs : List Rg} : ∀ {rows : List MRow} {k j : Nat}, (arsF rs k rows)[j]? = (rows[j]?).map (MRow.ar rs (k + j))
  | [], k, j => by simp [arsF]
  | r :: rows, k, 0 => by simp [arsF]
  | r :: rows, k, j + 1 => by
    rw [arsF, List.getElem?_cons_succ, arsF_get (rows := rows), List.getElem?_cons_succ, show k + 1 + j = k + (j + 1) by omega]
theorem ars_get {rs : List Rg} {rows : List MRow} {j : Nat} : (ars rs rows)[j]? = (rows[j]?).map (MRow.ar rs j) := by
  unfold ars; rw [arsF_get, Nat.zero_add]
theorem arsF_len {rs : List Rg} : ∀ {rows : List MRow} {k : Nat}, (arsF rs k rows).length = rows.length
  | [], _ => rfl
  | r :: rows, k => by rw [arsF, List.length_cons, arsF_len, List.length_cons]
theorem ars_len {rs : List Rg} {rows : List MRow} : (ars rs rows).length = rows.length := arsF_len
theorem wr_lt {r : MRow} {many x : Nat} (h : r.ok many) (e : r.wr? = some x) : x < 16 := by
  cases r <;> simp only [MRow.wr?, Option.some.injEq, reduceCtorEq] at e <;> subst e
  · exact h.1
  · exact h.2.1
  · exact h.1
  · exact h.1
theorem asOk {rs : List Rg} {rows : List MRow} (c : CodeOk rs rows) : AsOk (ars rs rows) := by
  have at_ : ∀ a ∈ ars rs rows, ∃ k, k < rows.length ∧ a = (rows.getD k (.stop 0)).ar rs k := fun a ha => by
    obtain ⟨k, hk⟩ := List.getElem?_of_mem ha
    rw [ars_get] at hk
    cases e : rows[k]? with
    | none => rw [e] at hk; cases hk
    | some r =>
      rw [e] at hk
      refine ⟨k, (List.getElem?_eq_some_iff.mp e).1, ?_⟩
      simp only [Option.map_some, Option.some.injEq] at hk
      rw [← hk]; simp [List.getD, e]
  refine ⟨fun a ha w hw => ?_, fun a ha x hx => ?_, fun a ha => ?_⟩
  · obtain ⟨k, hk, rfl⟩ := at_ a ha
    obtain ⟨e1, e2, e3⟩ := c.row hk
    rw [ars_len]
    generalize rows.getD k (.stop 0) = r at *
    cases r <;> simp only [MRow.ar, MRow.ways, List.mem_singleton] at hw
    case jump t => rw [hw]; exact e2
    case branch i t =>
      have h3 := e3 rfl
      have h2 := e2.2
      split at hw
      · rw [List.mem_singleton.mp hw]; exact h3
      · split at hw <;> simp at hw <;> rcases hw with rfl | rfl <;> assumption
    case stop t => cases hw
    all_goals (rw [hw]; exact e3 rfl)
  · obtain ⟨k, hk, rfl⟩ := at_ a ha
    exact wr_lt (c.row hk).2.1 hx
  · obtain ⟨k, hk, rfl⟩ := at_ a ha
    generalize rows.getD k (.stop 0) = r at *
    cases r <;> simp [MRow.ar, MRow.ways]
    split
    · simp
    · split <;> simp
section
variable {S S' : Hs} {rs : List Rg} {rows : List MRow}
theorem sort2 {a b : Nat} : sortN (addN [a] b) = if b = a then [a] else if b < a then [b, a] else [a, b] := by
  by_cases h : b = a
  · subst h; rw [if_pos rfl]; simp [addN, sortN]
  · rw [if_neg h]
    have e : addN [a] b = [a, b] := by simp [addN, h]
    have pm := sortN_perm (addN [a] b)
    have pw := sortN_pw (addN [a] b)
    rw [e] at pm pw ⊢
    by_cases hb : b < a
    · rw [if_pos hb]
      have p2 : [b, a].Perm [a, b] := List.Perm.swap ..
      exact List.Perm.eq_of_pairwise (fun x y _ _ h1 h2 => Nat.le_antisymm h1 h2) pw (by simp; omega) (pm.trans p2.symm)
    · rw [if_neg hb]
      exact List.Perm.eq_of_pairwise (fun x y _ _ h1 h2 => Nat.le_antisymm h1 h2) pw (by simp; omega) pm
theorem sort1 {a : Nat} : sortN [a] = [a] := by simp [sortN]
theorem ways_J {k : Nat} {r : MRow} (hr : rows[k]? = some r) : Wp NoX (m_waysJ [codeD rs rows, nD k] S) fun v S' => v = .tup (nDs (r.ways k)) ∧ Kp [] S S' := by
  refine wp_def0 rfl ?_
  unfold b_waysJ
  have ex : ∀ S, oIx (.tup (rows.map MRow.D)) (nD k) S = .ok r.D S := fun S => oIx_tup (by rw [List.getElem?_map, hr]; rfl)
  have hw : ∀ S, oIx r.D (.int 0) S = .ok (.str (wordR2 r)) S := fun S => by rw [D_R2]; exact tixJ
  have ek : ((k : Int) + 1) = ((k + 1 : Nat) : Int) := by omega
  have hz : (S ++ [O.dic []])[S.length]? = some (.dic []) := get_end
  have hset : ∀ n : Nat, oSet (.ref S.length) (nD n) (.bl true) (S ++ [O.dic []]) = .ok () ((S ++ [O.dic []]).set S.length (.dic (setK (natDic [] (.bl true)) (.inl (n : Int)) (.bl true)))) := fun n => oSet_dic hz key_int (by decide)
  have fin1 : ∀ n : Nat, bSorted [.ref S.length] ((S ++ [O.dic []]).set S.length (.dic (natDic [n] (.bl true)))) = .ok (.ref (S.length + 1)) (((S ++ [O.dic []]).set S.length (.dic (natDic [n] (.bl true)))) ++ [.lst (nDs [n])]) := fun n => by
    rw [bSorted_dic (L := [n]) (v := .bl true) (get_put hz) (by simp), sort1]; simp
  have kk : ∀ o, Kp [] S ((S ++ [O.dic []]).set S.length o) := fun o => Kp.new.setNew (Nat.le_refl _)
  have e1 : ∀ n : Nat, setK (natDic [] (.bl true)) (.inl (n : Int)) (.bl true) = natDic [n] (.bl true) := fun n => by rw [natDic_set]; rfl
  have hlast : ∀ {xs : List D} {d : D} {S : Hs}, xs.length < 100 → oIx (.tup (xs ++ [d])) (.int (-1)) S = .ok d S := fun {xs d S} hh => by
    have h2 : (-1 + ((xs.length : Int) + 1)).toNat = xs.length := by omega
    have h3 : (0 : Int) ≤ -1 + ((xs.length : Int) + 1) := by omega
    have h4 : (1 : Int) ≤ (xs.length : Int) + 1 := by omega
    simp [oIx, L2.atI, L2.ixN, h2, h3, h4]
  have nb : ∀ S, oNeg (.int 1) S = .ok (.int (-1)) S := fun _ => rfl
  have rest : r.ways k = [k + 1] → wordR2 r ∉ (["jump", "stop"] : List Str) → wordR2 r ∉ (["jump", "branch"] : List Str) → Wp NoX (b_waysJ [some (codeD rs rows), some (nD k), none, none] S) (enK fun v S' => v = .tup (nDs (r.ways k)) ∧ Kp [] S S') := fun h1 h2 h3 => by
    unfold b_waysJ
    rw [v_seq]
    simp_arith [Ly.v_fld, Ly.v_meth, Ly.k_me2, Ly.v_make, Ly.k_mk, Ly.v_fldset, Ly.k_fs, Ly.v_fldaug, Ly.k_fa2, Ly.look1, List.mem_cons, List.not_mem_nil, or_false, true_or, or_true, codeD, tix1, ex, -v_seq]
    rw [v_seq]
    simp_arith [Ly.v_fld, Ly.v_meth, Ly.k_me2, Ly.v_make, Ly.k_mk, Ly.v_fldset, Ly.k_fs, Ly.v_fldaug, Ly.k_fa2, Ly.look1, List.mem_cons, List.not_mem_nil, or_false, true_or, or_true, -v_seq]
    rw [v_seq]
    simp_arith [Ly.v_fld, Ly.v_meth, Ly.k_me2, Ly.v_make, Ly.k_mk, Ly.v_fldset, Ly.k_fs, Ly.v_fldaug, Ly.k_fa2, Ly.look1, List.mem_cons, List.not_mem_nil, or_false, true_or, or_true, hw, notin_lit2, h2, ek, oAdd_int, hset, e1, -v_seq]
    rw [v_seq]
    simp_arith [Ly.v_fld, Ly.v_meth, Ly.k_me2, Ly.v_make, Ly.k_mk, Ly.v_fldset, Ly.k_fs, Ly.v_fldaug, Ly.k_fa2, Ly.look1, List.mem_cons, List.not_mem_nil, or_false, true_or, or_true, hw, in_lit2, h3, fin1, bTuple_lst get_end]
    have : ((S ++ [O.dic []]).set S.length (O.dic (natDic [k + 1] (D.bl true)))).length = S.length + 1 := by simp
    rw [← this]
    simp_arith [Ly.v_fld, Ly.v_meth, Ly.k_me2, Ly.v_make, Ly.k_mk, Ly.v_fldset, Ly.k_fs, Ly.v_fldaug, Ly.k_fa2, Ly.look1, List.mem_cons, List.not_mem_nil, or_false, true_or, or_true, bTuple_lst get_end]
    exact ⟨by rw [h1]; rfl, (kk _).app⟩
  cases r with
  | jump t =>
    rw [v_seq]
    simp_arith [Ly.v_fld, Ly.v_meth, Ly.k_me2, Ly.v_make, Ly.k_mk, Ly.v_fldset, Ly.k_fs, Ly.v_fldaug, Ly.k_fa2, Ly.look1, List.mem_cons, List.not_mem_nil, or_false, true_or, or_true, codeD, tix1, ex, -v_seq]
    rw [v_seq]
    simp_arith [Ly.v_fld, Ly.v_meth, Ly.k_me2, Ly.v_make, Ly.k_mk, Ly.v_fldset, Ly.k_fs, Ly.v_fldaug, Ly.k_fa2, Ly.look1, List.mem_cons, List.not_mem_nil, or_false, true_or, or_true, -v_seq]
    rw [v_seq]
    simp_arith [Ly.v_fld, Ly.v_meth, Ly.k_me2, Ly.v_make, Ly.k_mk, Ly.v_fldset, Ly.k_fs, Ly.v_fldaug, Ly.k_fa2, Ly.look1, List.mem_cons, List.not_mem_nil, or_false, true_or, or_true, hw, notin_lit2, wordR2, show (Str.ofString "jump" ∈ [Str.ofString "jump", Str.ofString "stop"]) = True by simp, -v_seq]
    rw [v_seq]
    simp_arith [Ly.v_fld, Ly.v_meth, Ly.k_me2, Ly.v_make, Ly.k_mk, Ly.v_fldset, Ly.k_fs, Ly.v_fldaug, Ly.k_fa2, Ly.look1, List.mem_cons, List.not_mem_nil, or_false, true_or, or_true, hw, in_lit2, wordR2, show (Str.ofString "jump" ∈ [Str.ofString "jump", Str.ofString "branch"]) = True by simp, nb, show ∀ S, oIx (MRow.jump t).D (.int (-1)) S = .ok (nD t) S from fun S => hlast (xs := [.str "jump"]) (by simp), hset, e1, fin1]
    have : ((S ++ [O.dic []]).set S.length (O.dic (natDic [t] (D.bl true)))).length = S.length + 1 := by simp
    rw [← this]
    simp_arith [Ly.v_fld, Ly.v_meth, Ly.k_me2, Ly.v_make, Ly.k_mk, Ly.v_fldset, Ly.k_fs, Ly.v_fldaug, Ly.k_fa2, Ly.look1, List.mem_cons, List.not_mem_nil, or_false, true_or, or_true, bTuple_lst get_end]
    exact ⟨rfl, (kk _).app⟩
  | stop t =>
    rw [v_seq]
    simp_arith [Ly.v_fld, Ly.v_meth, Ly.k_me2, Ly.v_make, Ly.k_mk, Ly.v_fldset, Ly.k_fs, Ly.v_fldaug, Ly.k_fa2, Ly.look1, List.mem_cons, List.not_mem_nil, or_false, true_or, or_true, codeD, tix1, ex, -v_seq]
    rw [v_seq]
    simp_arith [Ly.v_fld, Ly.v_meth, Ly.k_me2, Ly.v_make, Ly.k_mk, Ly.v_fldset, Ly.k_fs, Ly.v_fldaug, Ly.k_fa2, Ly.look1, List.mem_cons, List.not_mem_nil, or_false, true_or, or_true, -v_seq]
    rw [v_seq]
    simp_arith [Ly.v_fld, Ly.v_meth, Ly.k_me2, Ly.v_make, Ly.k_mk, Ly.v_fldset, Ly.k_fs, Ly.v_fldaug, Ly.k_fa2, Ly.look1, List.mem_cons, List.not_mem_nil, or_false, true_or, or_true, hw, notin_lit2, wordR2, show (Str.ofString "stop" ∈ [Str.ofString "jump", Str.ofString "stop"]) = True by simp, -v_seq]
    rw [v_seq]
    simp_arith [Ly.v_fld, Ly.v_meth, Ly.k_me2, Ly.v_make, Ly.k_mk, Ly.v_fldset, Ly.k_fs, Ly.v_fldaug, Ly.k_fa2, Ly.look1, List.mem_cons, List.not_mem_nil, or_false, true_or, or_true, hw, in_lit2, wordR2, show (Str.ofString "stop" ∈ [Str.ofString "jump", Str.ofString "branch"]) = False by simp [ofString_inj], bSorted_dic (L := []) (v := .bl true) hz (by simp), bTuple_lst get_end]
    exact ⟨by simp [MRow.ways, sortN], Kp.new.app⟩
  | branch a t =>
    rw [v_seq]
    simp_arith [Ly.v_fld, Ly.v_meth, Ly.k_me2, Ly.v_make, Ly.k_mk, Ly.v_fldset, Ly.k_fs, Ly.v_fldaug, Ly.k_fa2, Ly.look1, List.mem_cons, List.not_mem_nil, or_false, true_or, or_true, codeD, tix1, ex, -v_seq]
    rw [v_seq]
    simp_arith [Ly.v_fld, Ly.v_meth, Ly.k_me2, Ly.v_make, Ly.k_mk, Ly.v_fldset, Ly.k_fs, Ly.v_fldaug, Ly.k_fa2, Ly.look1, List.mem_cons, List.not_mem_nil, or_false, true_or, or_true, -v_seq]
    rw [v_seq]
    simp_arith [Ly.v_fld, Ly.v_meth, Ly.k_me2, Ly.v_make, Ly.k_mk, Ly.v_fldset, Ly.k_fs, Ly.v_fldaug, Ly.k_fa2, Ly.look1, List.mem_cons, List.not_mem_nil, or_false, true_or, or_true, hw, notin_lit2, wordR2, show (Str.ofString "branch" ∈ [Str.ofString "jump", Str.ofString "stop"]) = False by simp [ofString_inj], ek, oAdd_int, hset, e1, -v_seq]
    rw [v_seq]
    have hz2 := get_put (u := O.dic (natDic [k + 1] (.bl true))) hz
    have k2 := kk (O.dic (natDic [k + 1] (.bl true)))
    have l2 : ((S ++ [O.dic []]).set S.length (O.dic (natDic [k + 1] (D.bl true)))).length = S.length + 1 := by simp
    generalize (S ++ [O.dic []]).set S.length (O.dic (natDic [k + 1] (.bl true))) = S2 at *
    have hset2 : oSet (.ref S.length) (nD t) (.bl true) S2 = .ok () (S2.set S.length (.dic (natDic (addN [k + 1] t) (.bl true)))) := by
      rw [← natDic_set]; exact oSet_dic hz2 key_int (by simp [natDic]; exact line_big (by omega))
    have hz3 := get_put (u := O.dic (natDic (addN [k + 1] t) (.bl true))) hz2
    have hln : (addN [k + 1] t).length ≤ 2 := by unfold addN; split <;> simp
    simp_arith [Ly.v_fld, Ly.v_meth, Ly.k_me2, Ly.v_make, Ly.k_mk, Ly.v_fldset, Ly.k_fs, Ly.v_fldaug, Ly.k_fa2, Ly.look1, List.mem_cons, List.not_mem_nil, or_false, true_or, or_true, hw, in_lit2, wordR2, show (Str.ofString "branch" ∈ [Str.ofString "jump", Str.ofString "branch"]) = True by simp, nb, show ∀ S, oIx (MRow.branch a t).D (.int (-1)) S = .ok (nD t) S from fun S => hlast (xs := [.str "branch", nD a]) (by simp), hset2, bSorted_dic hz3 (by omega), bTuple_lst get_end]
    refine ⟨?_, (k2.setNew (Nat.le_refl _)).app⟩
    rw [sort2]; rfl
  | const d n => exact rest rfl (by simp [wordR2, ofString_inj]) (by simp [wordR2, ofString_inj])
  | op s d a b => exact rest rfl (by simp [wordR2, ofString_inj]) (by simp [wordR2, ofString_inj])
  | select d c a b => exact rest rfl (by simp [wordR2, ofString_inj]) (by simp [wordR2, ofString_inj])
  | load d c a b => exact rest rfl (by simp [wordR2, ofString_inj]) (by simp [wordR2, ofString_inj])
  | store d c a b => exact rest rfl (by simp [wordR2, ofString_inj]) (by simp [wordR2, ofString_inj])
  | out a => exact rest rfl (by simp [wordR2, ofString_inj]) (by simp [wordR2, ofString_inj])
end
end Ly
set_option Elab.async false
set_option linter.all false
set_option maxRecDepth 100000
namespace Ly
open PySem PySem.Spec L2
open PyProof.Rows hiding St
mutual
def noB : D → Bool
  | .non => true
  | .int _ => true
  | .str s => PyData.strOk s
  | .tup xs => noBs xs
  | _ => false
def noBs : List D → Bool
  | [] => true
  | d :: ds => noB d && noBs ds
end
mutual
theorem noB_plain : ∀ (d : D), noB d = true → d.plain = true
  | .non, _ => by simp [D.plain]
  | .int _, _ => by simp [D.plain]
  | .str s, h => by simpa [D.plain, noB] using h
  | .tup xs, h => by simp only [D.plain]; exact noBs_plain xs (by simpa [noB] using h)
  | .bl _, h => by simp [noB] at h
  | .wt _, h => by simp [noB] at h
  | .wl _, h => by simp [noB] at h
  | .ref _, h => by simp [noB] at h
  | .cst _, h => by simp [noB] at h
theorem noBs_plain : ∀ (ds : List D), noBs ds = true → D.plains ds = true
  | [], _ => by simp [D.plains]
  | d :: ds, h => by
    simp only [noBs, Bool.and_eq_true] at h
    simp only [D.plains, Bool.and_eq_true]
    exact ⟨noB_plain d h.1, noBs_plain ds h.2⟩
end
mutual
theorem eqv_noB : ∀ (x y : D), noB x = true → noB y = true → (PyData.eqv x.toP y.toP = true ↔ x = y)
  | .non, y, _, hy => by cases y <;> simp [D.toP, PyData.eqv, noB] at hy ⊢
  | .int i, y, _, hy => by cases y <;> simp [D.toP, PyData.eqv, noB] at hy ⊢
  | .str s, y, _, hy => by cases y <;> simp [D.toP, PyData.eqv, noB] at hy ⊢
  | .tup xs, .tup ys, hx, hy => by
    simp only [noB] at hx hy
    have := eqv_noBs xs ys hx hy
    simp [D.toP, PyData.eqv, this]
  | .tup xs, .non, _, _ => by simp [D.toP, PyData.eqv]
  | .tup xs, .int _, _, _ => by simp [D.toP, PyData.eqv]
  | .tup xs, .str _, _, _ => by simp [D.toP, PyData.eqv]
  | .tup xs, .bl _, _, h => by simp [noB] at h
  | .tup xs, .wt _, _, h => by simp [noB] at h
  | .tup xs, .wl _, _, h => by simp [noB] at h
  | .tup xs, .ref _, _, h => by simp [noB] at h
  | .tup xs, .cst _, _, h => by simp [noB] at h
  | .bl _, _, h, _ => by simp [noB] at h
  | .wt _, _, h, _ => by simp [noB] at h
  | .wl _, _, h, _ => by simp [noB] at h
  | .ref _, _, h, _ => by simp [noB] at h
  | .cst _, _, h, _ => by simp [noB] at h
theorem eqv_noBs : ∀ (xs ys : List D), noBs xs = true → noBs ys = true → (PyData.eqvAll (D.toPs xs) (D.toPs ys) = true ↔ xs = ys)
  | [], [], _, _ => by simp [D.toPs, PyData.eqvAll]
  | [], y :: ys, _, _ => by simp [D.toPs, PyData.eqvAll]
  | x :: xs, [], _, _ => by simp [D.toPs, PyData.eqvAll]
  | x :: xs, y :: ys, hx, hy => by
    simp only [noBs, Bool.and_eq_true] at hx hy
    have h1 := eqv_noB x y hx.1 hy.1
    have h2 := eqv_noBs xs ys hx.2 hy.2
    simp [D.toPs, PyData.eqvAll, h1, h2]
end
section
variable {S : Hs} {xs ys : List D}
theorem cEq_tups (hx : noBs xs = true) (hy : noBs ys = true) (dx : PyData.depthAll (D.toPs xs) ≤ 30) (dy : PyData.depthAll (D.toPs ys) ≤ 30) : ∃ b, cEqD (.tup xs) (.tup ys) S = some b ∧ (b = true ↔ xs = ys) := by
  have e1 := pd_tup (S := S) (noBs_plain _ hx) dx
  have e2 := pd_tup (S := S) (noBs_plain _ hy) dy
  refine ⟨PyData.eqv (.tuple (D.toPs xs)) (.tuple (D.toPs ys)), ?_, ?_⟩
  · unfold cEqD
    rw [show cEqS (.tup xs) (.tup ys) = none from rfl, e1.1, e2.1]
    simp only [e1.2, e2.2, and_self, if_true]
  · simp only [PyData.eqv]
    exact eqv_noBs xs ys hx hy
theorem cEq_lsts {i j : Nat} (hi : S[i]? = some (.lst xs)) (hj : S[j]? = some (.lst ys)) (hx : noBs xs = true) (hy : noBs ys = true) (dx : PyData.depthAll (D.toPs xs) ≤ 30) (dy : PyData.depthAll (D.toPs ys) ≤ 30) : ∃ b, cEqD (.ref i) (.ref j) S = some b ∧ (b = true ↔ xs = ys) := by
  have e1 := pd_lst hi (noBs_plain _ hx) dx
  have e2 := pd_lst hj (noBs_plain _ hy) dy
  refine ⟨PyData.eqv (.list (D.toPs xs)) (.list (D.toPs ys)), ?_, ?_⟩
  · unfold cEqD
    rw [show cEqS (.ref i) (.ref j) = none from rfl, e1.1, e2.1]
    simp only []
    rw [if_pos ⟨e1.2, e2.2⟩]
  · simp only [PyData.eqv]
    exact eqv_noBs xs ys hx hy
theorem noBs_mem : ∀ {ds : List D}, (∀ d ∈ ds, noB d = true) → noBs ds = true
  | [], _ => rfl
  | d :: ds, h => by simp only [noBs, Bool.and_eq_true]; exact ⟨h d (by simp), noBs_mem fun x hx => h x (by simp [hx])⟩
theorem noBs_nats {L : List Nat} : noBs (nDs L) = true := noBs_mem fun d hd => by
  obtain ⟨n, _, rfl⟩ := List.mem_map.mp hd; simp [nD, noB]
theorem nDs_inj {L M : List Nat} : nDs L = nDs M ↔ L = M := by
  constructor
  · intro h
    have inj : ∀ a b : Nat, nD a = nD b → a = b := fun a b e => by unfold nD at e; injection e with e; omega
    induction L generalizing M with
    | nil => cases M with | nil => rfl | cons a M => cases h
    | cons a L ih => cases M with
      | nil => cases h
      | cons b M =>
        simp only [List.map_cons, List.cons.injEq] at h
        rw [inj a b h.1, ih h.2]
  · rintro rfl; rfl
theorem oNe_nats2 {L M : List Nat} : oNe (.tup (nDs L)) (.tup (nDs M)) S = .ok (.bl (!decide (L = M))) S := by
  obtain ⟨b, e, hb⟩ := cEq_tups (S := S) noBs_nats noBs_nats (depth_nats (L := L)) (depth_nats (L := M))
  unfold oNe
  rw [e]
  rw [nDs_inj] at hb
  have : b = decide (L = M) := by rw [Bool.eq_iff_iff, hb]; simp
  rw [this]
theorem oNe_tups (hx : noBs xs = true) (hy : noBs ys = true) (dx : PyData.depthAll (D.toPs xs) ≤ 30) (dy : PyData.depthAll (D.toPs ys) ≤ 30) : ∃ b, oNe (.tup xs) (.tup ys) S = .ok (.bl b) S ∧ (b = false ↔ xs = ys) := by
  obtain ⟨b, e, hb⟩ := cEq_tups (S := S) hx hy dx dy
  refine ⟨!b, by unfold oNe; rw [e], by rw [← hb]; cases b <;> simp⟩
end
end Ly
set_option Elab.async false
set_option linter.all false
set_option maxRecDepth 100000
namespace Ly
open PySem PySem.Spec L2
open PyProof.Rows hiding St
local macro_rules | `(tactic| simp_arith [$ls,*]) => `(tactic| simp only [Ly.line_le, Ly.atX_no, Ly.v_ok, Ly.v_bad, Ly.v_bind, Ly.k_bd, Ly.v_at, Ly.v_bin, Ly.k_bi, Ly.k_bi2, Ly.v_var, Ly.v_c, Ly.v_un, Ly.k_un, Ly.v_if, Ly.k_ife, Ly.v_and, Ly.k_and, Ly.k_and2, Ly.v_or, Ly.k_or, Ly.k_or2, Ly.v_tup, Ly.k_tup, Ly.v_lst, Ly.k_lst, Ly.v_call, Ly.k_ca, Ly.v_fn, Ly.k_fn, Ly.v_bm, Ly.k_bm, Ly.k_bm2, Ly.v_sl, Ly.k_sl, Ly.k_sl2, Ly.k_sl3, Ly.v_ixK, Ly.k_ixk, Ly.v_inK, Ly.k_ink, Ly.v_notinK, Ly.k_nink, Ly.v_getK2, Ly.k_gk2, Ly.k_gk, Ly.v_get2, Ly.k_g2, Ly.k_g22, Ly.k_g23, Ly.v_nil, Ly.v_cons, Ly.k_co, Ly.k_co2, Ly.v_no, Ly.v_some, Ly.k_so, Ly.k_cm, Ly.v_cmp, Ly.v_tru, Ly.k_tr, Ly.v_notB, Ly.k_no, Ly.v_andB, Ly.k_an, Ly.v_orB, Ly.k_orb, Ly.v_yes, Ly.v_inKB, Ly.k_inkB, Ly.v_notinKB, Ly.k_ninkB, Ly.v_set, Ly.k_st, Ly.v_expr, Ly.k_ex, Ly.v_ret, Ly.k_re, Ly.v_retN, Ly.v_pass, Ly.v_brk, Ly.v_cnt, Ly.v_seq, Ly.k_sq_nx, Ly.k_sq_rt, Ly.k_sq_bk, Ly.k_sq_ct, Ly.v_ifS, Ly.k_ifs, Ly.v_asg, Ly.k_as, Ly.k_as2, Ly.v_aug, Ly.k_au, Ly.v_for, Ly.k_fo, Ly.v_it, Ly.k_it, Ly.k_ij, Ly.v_rng1, Ly.v_rng2, Ly.v_enum, Ly.v_zip, Ly.v_ez, Ly.v_gN, Ly.v_gsN, Ly.v_gsC, Ly.k_gc, Ly.v_gT, Ly.v_gTw, Ly.v_gSb, Ly.k_gsb, Ly.k_gsb2, Ly.k_gsb3, Ly.k_en_rt, Ly.k_en_nx, Ly.k_tu_nx, Ly.k_tu_ct, Ly.k_tu_bk, Ly.k_tu_rt, Ly.v_lc, Ly.k_lc, Ly.v_augI, Ly.k_ag, Ly.k_ag2, Ly.k_ag3, Ly.k_ag4, Ly.k_ag5, Ly.v_del, Ly.k_dl, Ly.k_dl2, Ly.v_setd, Ly.v_pop2, Ly.k_d3, Ly.k_d32, Ly.k_d33, Ly.v_get1, Ly.k_g1, Ly.k_g12, Ly.v_rg1, Ly.k_rg, Ly.v_rg2, Ly.k_rg2, Ly.k_rg22, Ly.v_dicK, Ly.v_dicT, Ly.v_dc, Ly.k_dc, List.getElem?_cons_zero, List.getElem?_cons_succ, List.set_cons_zero, List.set_cons_succ, List.length_cons, List.length_nil, List.map_cons, List.map_nil, List.cons_append, List.nil_append, List.replicate, if_true, if_false, Bool.false_eq_true, Bool.not_true, Bool.not_false, Bool.true_and, Bool.false_and, decide_true, decide_false, decide_eq_true_eq, Nat.zero_add, Nat.reduceAdd, Nat.reduceLeDiff, true_and, and_true, $ls,*])
abbrev tuN (p : List Nat) : D := .tup (nDs p)
section
variable {S S' : Hs} {rs : List Rg} {rows : List MRow}
theorem in_nats {L : List Nat} {n : Nat} : oIn (nD n) (.tup (nDs L)) S = .ok (.bl (decide (n ∈ L))) S := by
  have e : cIn (nD n) (.tup (nDs L)) S = some (decide (n ∈ L)) := by
    have hf : (flatD (nD n) && (nDs L).all flatD) = true := by rw [flat_nats]; rfl
    simp only [cIn, hf, if_true, any_nats]
  simp only [oIn, e]
theorem notin_nats {L : List Nat} {n : Nat} : oNotIn (nD n) (.tup (nDs L)) S = .ok (.bl (!decide (n ∈ L))) S := by
  have e : cIn (nD n) (.tup (nDs L)) S = some (decide (n ∈ L)) := by
    have hf : (flatD (nD n) && (nDs L).all flatD) = true := by rw [flat_nats]; rfl
    simp only [cIn, hf, if_true, any_nats]
  simp only [oNotIn, e]
structure GpAt (S : Hs) (q1 q2 : Nat) (st : List (List Nat) × List Nat) : Prop where
  m : S[q1]? = some (.lst (st.1.map tuN))
  w : S[q2]? = some (.lst (nDs st.2))
  ne : q1 ≠ q2
theorem gpWay_ok {q1 q2 : Nat} {st : List (List Nat) × List Nat} {bh : List Nat} {w : Nat} {o1 o2 : D} {o6 : Option D} {l5 : Option D} (hA : GpAt S q1 q2 st) {as : List AR} (h : GpSt as st) (hw : w < as.length) (hb : st.2.length ≤ 1000000) :
    Wp NoX (lb_greatest_paper_0J [some o1, some (.ref q1), some (.ref q2), some o2, some (tuN bh), some (nD w), o6, none] S) fun f S' => (∃ o6, f = .nx [some o1, some (.ref q1), some (.ref q2), some o2, some (tuN bh), some (nD w), o6, none]) ∧ GpAt S' q1 q2 (gpWay bh st w) ∧ Kp [q1, q2] S S' := by
  obtain ⟨e1, hmb⟩ := h.get hw
  have hwl : w < st.1.length := by rw [h.len]; exact hw
  have eix : ∀ S', S'[q1]? = some (.lst (st.1.map tuN)) → oIx (.ref q1) (nD w) S' = .ok (tuN (st.1.getD w [])) S' := fun S' hS' => by
    refine oIx_lst hS' (by omega) (by rw [List.length_map]; omega) ?_
    rw [Int.toNat_natCast, List.getElem?_map, e1]; rfl
  have hpl := hmb.len
  unfold lb_greatest_paper_0J
  rw [v_seq]
  simp_arith [Ly.v_fld, Ly.v_meth, Ly.k_me2, Ly.v_make, Ly.k_mk, Ly.v_fldset, Ly.k_fs, Ly.v_fldaug, Ly.k_fa2, Ly.look1, List.mem_cons, List.not_mem_nil, or_false, true_or, or_true, eix S hA.m, oIt, wipe1, -v_seq]
  refine lc_pure nD (S := S) (xs := st.1.getD w []) (fun a => if decide (a ∈ bh) = true then some (nD a) else none) (fun S' hS' j hj => ?_) (by omega) (fun y hy S' hS' => ?_) (fun S' h1 h2 => ?_)
  · simp only [itGo, List.getElem?_map]
  · refine ⟨[some o1, some (.ref q1), some (.ref q2), some o2, some (tuN bh), some (nD w), o6, some (nD y)], rfl, ?_⟩
    simp_arith [Ly.v_fld, Ly.v_meth, Ly.k_me2, Ly.v_make, Ly.k_mk, Ly.v_fldset, Ly.k_fs, Ly.v_fldaug, Ly.k_fa2, Ly.look1, List.mem_cons, List.not_mem_nil, or_false, true_or, or_true, in_nats]
    by_cases hin : y ∈ bh
    · simp_arith [Ly.v_fld, Ly.v_meth, Ly.k_me2, Ly.v_make, Ly.k_mk, Ly.v_fldset, Ly.k_fs, Ly.v_fldaug, Ly.k_fa2, Ly.look1, List.mem_cons, List.not_mem_nil, or_false, true_or, or_true, hin]; exact ⟨Kp.refl, Kp.refl⟩
    · simp_arith [Ly.v_fld, Ly.v_meth, Ly.k_me2, Ly.v_make, Ly.k_mk, Ly.v_fldset, Ly.k_fs, Ly.v_fldaug, Ly.k_fa2, Ly.look1, List.mem_cons, List.not_mem_nil, or_false, true_or, or_true, hin]; exact Kp.refl
  · have efm : (st.1.getD w []).filterMap (fun a => if decide (a ∈ bh) = true then some (nD a) else none) = nDs ((st.1.getD w []).filter fun a => decide (a ∈ bh)) := by
      generalize st.1.getD w [] = L
      induction L with
      | nil => rfl
      | cons y L ih =>
        rw [List.filterMap_cons, List.filter_cons, ih]
        by_cases hy : y ∈ bh <;> simp [hy]
    rw [efm] at h1
    have hm2 := h2.get hA.m (by simp)
    have hw2 := h2.get hA.w (by simp)
    simp_arith [Ly.v_fld, Ly.v_meth, Ly.k_me2, Ly.v_make, Ly.k_mk, Ly.v_fldset, Ly.k_fs, Ly.v_fldaug, Ly.k_fa2, Ly.look1, List.mem_cons, List.not_mem_nil, or_false, true_or, or_true, bTuple_lst h1, eix S' hm2, oNe_nats2]
    unfold gpWay
    by_cases he : (st.1.getD w []).filter (fun a => decide (a ∈ bh)) = st.1.getD w []
    · rw [if_pos he]
      simp_arith [Ly.v_fld, Ly.v_meth, Ly.k_me2, Ly.v_make, Ly.k_mk, Ly.v_fldset, Ly.k_fs, Ly.v_fldaug, Ly.k_fa2, Ly.look1, List.mem_cons, List.not_mem_nil, or_false, true_or, or_true, he]
      exact ⟨⟨_, rfl⟩, ⟨hm2, hw2, hA.ne⟩, h2.sub (by simp)⟩
    · rw [if_neg he]
      simp_arith [Ly.v_fld, Ly.v_meth, Ly.k_me2, Ly.v_make, Ly.k_mk, Ly.v_fldset, Ly.k_fs, Ly.v_fldaug, Ly.k_fa2, Ly.look1, List.mem_cons, List.not_mem_nil, or_false, true_or, or_true, he]
      have hset : oSet (.ref q1) (nD w) (tuN ((st.1.getD w []).filter fun a => decide (a ∈ bh))) S' = .ok () (S'.set q1 (.lst ((st.1.set w ((st.1.getD w []).filter fun a => decide (a ∈ bh))).map tuN))) := by
        have : ixN (st.1.map tuN).length (w : Int) = some w := by
          have h1 : (w : Int) < ((st.1.map tuN).length : Int) := by rw [List.length_map]; omega
          simp [L2.ixN]; omega
        simp only [oSet, hm2, nD, this, List.map_set]
      simp_arith [Ly.v_fld, Ly.v_meth, Ly.k_me2, Ly.v_make, Ly.k_mk, Ly.v_fldset, Ly.k_fs, Ly.v_fldaug, Ly.k_fa2, Ly.look1, List.mem_cons, List.not_mem_nil, or_false, true_or, or_true, hset]
      have hw3 : (S'.set q1 (.lst ((st.1.set w ((st.1.getD w []).filter fun a => decide (a ∈ bh))).map tuN)))[q2]? = some (.lst (nDs st.2)) := get_set_ne hw2 hA.ne.symm
      have hm3 := get_put (u := O.lst ((st.1.set w ((st.1.getD w []).filter fun a => decide (a ∈ bh))).map tuN)) hm2
      have k3 : Kp [q1, q2] S (S'.set q1 (.lst ((st.1.set w ((st.1.getD w []).filter fun a => decide (a ∈ bh))).map tuN))) := (h2.sub (by simp)).setIn (by simp)
      generalize S'.set q1 (.lst ((st.1.set w ((st.1.getD w []).filter fun a => decide (a ∈ bh))).map tuN)) = S3 at *
      simp_arith [Ly.v_fld, Ly.v_meth, Ly.k_me2, Ly.v_make, Ly.k_mk, Ly.v_fldset, Ly.k_fs, Ly.v_fldaug, Ly.k_fa2, Ly.look1, List.mem_cons, List.not_mem_nil, or_false, true_or, or_true, hasTy_lst hw3, oAppend_lst hw3 (by rw [List.length_map]; exact line_big (by omega))]
      refine ⟨⟨_, rfl⟩, ⟨get_set_ne hm3 hA.ne, ?_, hA.ne⟩, k3.setIn (by simp)⟩
      rw [get_put hw3]; simp [nDs]
theorem gpFold_ok {q1 q2 : Nat} {bh : List Nat} {o1 o2 : D} {as : List AR} {ws : List Nat} {st : List (List Nat) × List Nat} {o5 o6 : Option D} (hA : GpAt S q1 q2 st) (h : GpSt as st) (hw : ∀ w ∈ ws, w < as.length) (hb : gpMeas st ≤ 1000000) :
    Wp NoX (fLoop (.tup (nDs ws)) (gN 5) lb_greatest_paper_0J 0 [some o1, some (.ref q1), some (.ref q2), some o2, some (tuN bh), o5, o6, none] S) fun f S' => (∃ o5 o6, f = .nx [some o1, some (.ref q1), some (.ref q2), some o2, some (tuN bh), o5, o6, none]) ∧ GpAt S' q1 q2 (ws.foldl (gpWay bh) st) ∧ Kp [q1, q2] S S' := by
  refine wp_tup (fun pre l S' => ∃ pw post, ws = pw ++ post ∧ pre = nDs pw ∧ (∃ o5 o6, l = [some o1, some (.ref q1), some (.ref q2), some o2, some (tuN bh), o5, o6, none]) ∧ GpAt S' q1 q2 (pw.foldl (gpWay bh) st) ∧ Kp [q1, q2] S S') ⟨[], ws, rfl, rfl, ⟨_, _, rfl⟩, hA, Kp.refl⟩ ?_ ?_
  · rintro pre d post l S2 hsp ⟨pw, pst, rfl, rfl, ⟨o5, o6, rfl⟩, hA2, k2⟩
    have hd : nDs pst = d :: post := by
      have : nDs pw ++ nDs pst = nDs pw ++ d :: post := by rw [← List.map_append]; exact hsp
      exact List.append_cancel_left this
    cases pst with
    | nil => cases hd
    | cons w pst =>
      simp only [List.map_cons, List.cons.injEq] at hd
      obtain ⟨rfl, rfl⟩ := hd
      obtain ⟨h2, m2⟩ := h.fold (ws := pw) (bh := bh) (fun x hx => hw x (List.mem_append_left _ hx))
      simp_arith [Ly.v_fld, Ly.v_meth, Ly.k_me2, Ly.v_make, Ly.k_mk, Ly.v_fldset, Ly.k_fs, Ly.v_fldaug, Ly.k_fa2, Ly.look1, List.mem_cons, List.not_mem_nil, or_false, true_or, or_true]
      refine (gpWay_ok hA2 h2 (hw w (by simp)) (l5 := none) (by unfold gpMeas at m2 hb; omega)).mono (fun _ _ _ _ h => h) ?_
      rintro f S3 ⟨⟨o6, rfl⟩, h3, k3⟩
      refine ⟨pw ++ [w], pst, by simp, by simp, ⟨_, _, rfl⟩, ?_, k2.trans k3⟩
      rw [List.foldl_append]; exact h3
  · rintro l S2 ⟨pw, pst, rfl, hp, ⟨o5, o6, rfl⟩, hA2, k2⟩
    have : pst = [] := by
      have := congrArg List.length hp
      simp at this; exact this
    subst this
    rw [List.append_nil]
    exact ⟨⟨_, _, rfl⟩, hA2, k2⟩
theorem greatest_J (c : CodeOk rs rows) (hl : rs.length ≤ 100000) (hn : rows.length ≤ 1000) : Wp NoX (m_greatest_paperJ [codeD rs rows] S) fun v S' => (∃ ms, v = .tup (ms.map tuN) ∧ GpSt (ars rs rows) (ms, []) ∧ ∃ n, gpIt (ars rs rows) n (gp0 rows.length) = (ms, [])) ∧ Kp [] S S' := by
  refine wp_def0 rfl ?_
  unfold b_greatest_paperJ
  have hA := asOk c
  have r16 : ∀ S, oTRg 0 16 S = .ok (tuN (List.range 16)) S := fun S => by
    have := rg_nats (n := 16)
    simp only [oTRg]
    rw [if_pos (by decide)]
    rw [show ((16 : Int)) = ((16 : Nat) : Int) from rfl, this]
  have hz : (S ++ [O.lst [tuN (List.range 16)]])[S.length]? = some (.lst [tuN (List.range 16)]) := get_end
  have hmul : oMul (.ref S.length) (nD rows.length) (S ++ [O.lst [tuN (List.range 16)]]) = .ok (.ref (S.length + 1)) ((S ++ [O.lst [tuN (List.range 16)]]) ++ [.lst ((gp0 rows.length).1.map tuN)]) := by
    have e : (List.replicate rows.length [tuN (List.range 16)]).flatten = (gp0 rows.length).1.map tuN := by
      simp only [gp0, List.map_replicate]
      generalize rows.length = n
      induction n with
      | zero => rfl
      | succ n ih => rw [List.replicate_succ, List.flatten_cons, ih, List.replicate_succ]; rfl
    simp only [oMul, nD, hz, Int.toNat_natCast, e]
    rw [if_pos ⟨by omega, by omega, by simp; exact line_le (by omega)⟩]
    simp
  rw [v_seq]
  simp_arith [Ly.v_fld, Ly.v_meth, Ly.k_me2, Ly.v_make, Ly.k_mk, Ly.v_fldset, Ly.k_fs, Ly.v_fldaug, Ly.k_fa2, Ly.look1, List.mem_cons, List.not_mem_nil, or_false, true_or, or_true, d_REGISTERSM, r16, codeD, tix1, bLen_tup, List.length_map, -v_seq]
  rw [hmul]
  have hz2 : ((S ++ [O.lst [tuN (List.range 16)]]) ++ [O.lst ((gp0 rows.length).1.map tuN)])[S.length + 1]? = some (.lst ((gp0 rows.length).1.map tuN)) := by
    have : (S ++ [O.lst [tuN (List.range 16)]]).length = S.length + 1 := by simp
    rw [← this]; exact get_end
  have k2 : Kp [] S ((S ++ [O.lst [tuN (List.range 16)]]) ++ [O.lst ((gp0 rows.length).1.map tuN)]) := Kp.new.app
  have l2 : ((S ++ [O.lst [tuN (List.range 16)]]) ++ [O.lst ((gp0 rows.length).1.map tuN)]).length = S.length + 2 := by simp
  generalize (S ++ [O.lst [tuN (List.range 16)]]) ++ [O.lst ((gp0 rows.length).1.map tuN)] = S2 at *
  have hrev : oLRgR 0 (rows.length : Int) S2 = .ok (.ref S2.length) (S2 ++ [.lst (nDs (gp0 rows.length).2)]) := by
    have e : rgRD 0 (rows.length : Int) = nDs (gp0 rows.length).2 := by
      unfold rgRD gp0
      refine List.ext_getElem? fun j => ?_
      rw [List.getElem?_map, List.getElem?_map]
      have e0 : ((rows.length : Int) - 0).toNat = rows.length := by omega
      rw [e0]
      by_cases hj : j < rows.length
      · rw [List.getElem?_range hj, List.getElem?_reverse (by simpa using hj), List.length_range, List.getElem?_range (by omega)]
        simp only [Option.map_some, nD]
        congr 2; omega
      · rw [List.getElem?_eq_none (by simp; omega), List.getElem?_eq_none (by simp; omega)]; rfl
    unfold oLRgR
    rw [if_pos ⟨by omega, by omega, by omega, by omega, by omega⟩, e]
  simp_arith [Ly.v_fld, Ly.v_meth, Ly.k_me2, Ly.v_make, Ly.k_mk, Ly.v_fldset, Ly.k_fs, Ly.v_fldaug, Ly.k_fa2, Ly.look1, List.mem_cons, List.not_mem_nil, or_false, true_or, or_true, -v_seq]
  rw [v_seq]
  simp_arith [Ly.v_fld, Ly.v_meth, Ly.k_me2, Ly.v_make, Ly.k_mk, Ly.v_fldset, Ly.k_fs, Ly.v_fldaug, Ly.k_fa2, Ly.look1, List.mem_cons, List.not_mem_nil, or_false, true_or, or_true, codeD, tix1, bLen_tup, List.length_map, hrev, -v_seq]
  rw [v_seq]
  have hm0 : (S2 ++ [O.lst (nDs (gp0 rows.length).2)])[S.length + 1]? = some (.lst ((gp0 rows.length).1.map tuN)) := Kp.get (A := []) Kp.new hz2 (by simp)
  have hw0 : (S2 ++ [O.lst (nDs (gp0 rows.length).2)])[S2.length]? = some (.lst (nDs (gp0 rows.length).2)) := get_end
  have g0 : GpSt (ars rs rows) (gp0 rows.length) := by rw [← ars_len (rs := rs)]; exact gp0_ok
  have hmeas : gpMeas (gp0 rows.length) ≤ 1000000 := by
    unfold gpMeas gp0
    have : ∀ n : Nat, ((List.replicate n (List.range 16)).map (·.length)).sum = 16 * n := fun n => by
      induction n with
      | zero => rfl
      | succ n ih => rw [List.replicate_succ, List.map_cons, List.sum_cons, ih, List.length_range]; omega
    simp only [this, List.length_reverse, List.length_range]
    omega
  have kS : Kp [] S (S2 ++ [O.lst (nDs (gp0 rows.length).2)]) := k2.app
  refine wp_while (fun m l S' => ∃ st n, gpIt (ars rs rows) n (gp0 rows.length) = st ∧ GpSt (ars rs rows) st ∧ gpMeas st ≤ 1000000 ∧ GpAt S' (S.length + 1) S2.length st ∧ (∃ o3 o4 o5 o6, l = [some (codeD rs rows), some (.ref (S.length + 1)), some (.ref S2.length), o3, o4, o5, o6, none]) ∧ Kp [] S S' ∧ m = gpMeas st) ?_ (gpMeas (gp0 rows.length)) _ _ ⟨_, 0, rfl, g0, hmeas, ⟨hm0, hw0, by omega⟩, ⟨_, _, _, _, rfl⟩, kS, rfl⟩
  rintro m l S3 ⟨st, n, hit, hg, hme, hat, ⟨o3, o4, o5, o6, rfl⟩, k3, rfl⟩
  unfold c_greatest_paper_1J
  have htru : oTru (.ref S2.length) S3 = .ok (!(nDs st.2).isEmpty) S3 := by simp [oTru, tru, hat.w]
  simp_arith [Ly.v_fld, Ly.v_meth, Ly.k_me2, Ly.v_make, Ly.k_mk, Ly.v_fldset, Ly.k_fs, Ly.v_fldaug, Ly.k_fa2, Ly.look1, List.mem_cons, List.not_mem_nil, or_false, true_or, or_true, htru]
  cases hlast : st.2.getLast? with
  | none =>
    have hnil : st.2 = [] := List.getLast?_eq_none_iff.mp hlast
    have e : (nDs st.2).isEmpty = true := by rw [hnil]; rfl
    rw [e]
    simp_arith [Ly.v_fld, Ly.v_meth, Ly.k_me2, Ly.v_make, Ly.k_mk, Ly.v_fldset, Ly.k_fs, Ly.v_fldaug, Ly.k_fa2, Ly.look1, List.mem_cons, List.not_mem_nil, or_false, true_or, or_true, bTuple_lst hat.m]
    have est : st = (st.1, []) := by rw [← hnil]
    exact ⟨⟨st.1, rfl, by rw [← est]; exact hg, n, by rw [hit]; exact est⟩, k3⟩
  | some r =>
    have hne : st.2 ≠ [] := by intro e; rw [e] at hlast; cases hlast
    have e : (nDs st.2).isEmpty = false := by cases h : st.2 with | nil => exact absurd h hne | cons a b => rfl
    rw [e]
    simp only [Bool.not_false, if_true]
    have hrl : r < (ars rs rows).length := hg.wt r (List.mem_of_getLast? hlast)
    have hrr : r < rows.length := by rwa [ars_len] at hrl
    have hdrop : st.2 = st.2.dropLast ++ [r] := by
      rw [List.getLast?_eq_getLast hne] at hlast
      have := List.dropLast_concat_getLast hne
      rw [Option.some.inj hlast] at this; exact this.symm
    have hpop : oPop (.ref S2.length) [] S3 = .ok (nD r) (S3.set S2.length (.lst (nDs st.2.dropLast))) := by
      have e1 : (nDs st.2)[(nDs st.2).length - 1]? = some (nD r) := by
        rw [← List.getLast?_eq_getElem?, hdrop]; simp [nDs]
      simp only [oPop, hat.w, e1]
      rw [show (nDs st.2).dropLast = nDs st.2.dropLast by simp [nDs, List.map_dropLast]]
    obtain ⟨er, hmb⟩ := hg.get hrl
    obtain ⟨c1, c2, c3⟩ := c.row hrr
    have hm4 : (S3.set S2.length (.lst (nDs st.2.dropLast)))[S.length + 1]? = some (.lst (st.1.map tuN)) := get_set_ne hat.m hat.ne
    have hw4 := get_put (u := O.lst (nDs st.2.dropLast)) hat.w
    have k4 : Kp [] S (S3.set S2.length (.lst (nDs st.2.dropLast))) := k3.setNew (by omega)
    have eix : oIx (.ref (S.length + 1)) (nD r) (S3.set S2.length (.lst (nDs st.2.dropLast))) = .ok (tuN (st.1.getD r [])) (S3.set S2.length (.lst (nDs st.2.dropLast))) := by
      refine oIx_lst hm4 (by omega) ?_ ?_
      · have := (List.getElem?_eq_some_iff.mp er).1
        rw [List.length_map]; omega
      · rw [Int.toNat_natCast, List.getElem?_map, er]; rfl
    unfold lb_greatest_paper_2J
    rw [v_seq]
    simp_arith [Ly.v_fld, Ly.v_meth, Ly.k_me2, Ly.v_make, Ly.k_mk, Ly.v_fldset, Ly.k_fs, Ly.v_fldaug, Ly.k_fa2, Ly.look1, List.mem_cons, List.not_mem_nil, or_false, true_or, or_true, hasTy_lst hat.w, hpop, -v_seq]
    generalize S3.set S2.length (.lst (nDs st.2.dropLast)) = S4 at *
    rw [v_seq]
    simp_arith [Ly.v_fld, Ly.v_meth, Ly.k_me2, Ly.v_make, Ly.k_mk, Ly.v_fldset, Ly.k_fs, Ly.v_fldaug, Ly.k_fa2, Ly.look1, List.mem_cons, List.not_mem_nil, or_false, true_or, or_true, eix, -v_seq]
    refine Wp.call (behind_J c.cg hl c1 (fun x hx => wr_lt c2 hx) hmb) ?_
    rintro _ S5 ⟨rfl, k5⟩
    simp_arith [Ly.v_fld, Ly.v_meth, Ly.k_me2, Ly.v_make, Ly.k_mk, Ly.v_fldset, Ly.k_fs, Ly.v_fldaug, Ly.k_fa2, Ly.look1, List.mem_cons, List.not_mem_nil, or_false, true_or, or_true]
    refine Wp.call (ways_J c1) ?_
    rintro _ S6 ⟨rfl, k6⟩
    have ear : (ars rs rows).getD r AR0 = (rows.getD r (.stop 0)).ar rs r := by
      have : (ars rs rows)[r]? = some ((rows.getD r (.stop 0)).ar rs r) := by rw [ars_get, c1]; rfl
      simp [List.getD, this]
    have hg6 : GpSt (ars rs rows) (st.1, st.2.dropLast) := ⟨hg.len, hg.mb, fun w hw => hg.wt w (List.dropLast_subset _ hw)⟩
    have hmd : gpMeas (st.1, st.2.dropLast) + 1 = gpMeas st := by
      unfold gpMeas
      simp only [List.length_dropLast]
      have : 0 < st.2.length := List.length_pos_iff.mpr hne
      omega
    have hat6 : GpAt S6 (S.length + 1) S2.length (st.1, st.2.dropLast) := ⟨(k5.trans k6).get hm4 (by simp), (k5.trans k6).get hw4 (by simp), hat.ne⟩
    simp_arith [Ly.v_fld, Ly.v_meth, Ly.k_me2, Ly.v_make, Ly.k_mk, Ly.v_fldset, Ly.k_fs, Ly.v_fldaug, Ly.k_fa2, Ly.look1, List.mem_cons, List.not_mem_nil, or_false, true_or, or_true, oIt]
    have hws : ∀ w ∈ (rows.getD r (.stop 0)).ways r, w < (ars rs rows).length := fun w hw => hA.ws ((rows.getD r (.stop 0)).ar rs r) (List.mem_of_getElem? (i := r) (by rw [ars_get, c1]; rfl)) w hw
    refine (gpFold_ok (bh := ((rows.getD r (.stop 0)).ar rs r).behind (st.1.getD r [])) hat6 hg6 hws (by omega)).mono (fun _ _ _ _ h => h) ?_
    rintro f S7 ⟨⟨o5, o6, rfl⟩, hat7, k7⟩
    obtain ⟨hg7, m7⟩ := hg6.fold (bh := ((rows.getD r (.stop 0)).ar rs r).behind (st.1.getD r [])) hws
    have hstep : gpStep (ars rs rows) st = ((rows.getD r (.stop 0)).ways r).foldl (gpWay (((rows.getD r (.stop 0)).ar rs r).behind (st.1.getD r []))) (st.1, st.2.dropLast) := by
      unfold gpStep
      rw [hlast]
      simp only [ear]; rfl
    refine ⟨gpMeas _, by omega, _, n + 1, ?_, hg7, by omega, hat7, ⟨_, _, _, _, rfl⟩, ?_, rfl⟩
    · rw [gpIt_add, hit]; exact hstep
    · exact ((k4.trans k5).trans k6).after k7 (by intro i hi hl; simp at hi; omega)
end
end Ly
set_option Elab.async false
set_option linter.all false
set_option maxRecDepth 100000
namespace Ly
open PySem PySem.Spec L2
open PyProof.Rows hiding St
local macro_rules | `(tactic| simp_arith [$ls,*]) => `(tactic| simp only [Ly.line_le, Ly.atX_no, Ly.v_ok, Ly.v_bad, Ly.v_bind, Ly.k_bd, Ly.v_at, Ly.v_bin, Ly.k_bi, Ly.k_bi2, Ly.v_var, Ly.v_c, Ly.v_un, Ly.k_un, Ly.v_if, Ly.k_ife, Ly.v_and, Ly.k_and, Ly.k_and2, Ly.v_or, Ly.k_or, Ly.k_or2, Ly.v_tup, Ly.k_tup, Ly.v_lst, Ly.k_lst, Ly.v_call, Ly.k_ca, Ly.v_fn, Ly.k_fn, Ly.v_bm, Ly.k_bm, Ly.k_bm2, Ly.v_sl, Ly.k_sl, Ly.k_sl2, Ly.k_sl3, Ly.v_ixK, Ly.k_ixk, Ly.v_inK, Ly.k_ink, Ly.v_notinK, Ly.k_nink, Ly.v_getK2, Ly.k_gk2, Ly.k_gk, Ly.v_get2, Ly.k_g2, Ly.k_g22, Ly.k_g23, Ly.v_nil, Ly.v_cons, Ly.k_co, Ly.k_co2, Ly.v_no, Ly.v_some, Ly.k_so, Ly.k_cm, Ly.v_cmp, Ly.v_tru, Ly.k_tr, Ly.v_notB, Ly.k_no, Ly.v_andB, Ly.k_an, Ly.v_orB, Ly.k_orb, Ly.v_yes, Ly.v_inKB, Ly.k_inkB, Ly.v_notinKB, Ly.k_ninkB, Ly.v_set, Ly.k_st, Ly.v_expr, Ly.k_ex, Ly.v_ret, Ly.k_re, Ly.v_retN, Ly.v_pass, Ly.v_brk, Ly.v_cnt, Ly.v_seq, Ly.k_sq_nx, Ly.k_sq_rt, Ly.k_sq_bk, Ly.k_sq_ct, Ly.v_ifS, Ly.k_ifs, Ly.v_asg, Ly.k_as, Ly.k_as2, Ly.v_aug, Ly.k_au, Ly.v_for, Ly.k_fo, Ly.v_it, Ly.k_it, Ly.k_ij, Ly.v_rng1, Ly.v_rng2, Ly.v_enum, Ly.v_zip, Ly.v_ez, Ly.v_gN, Ly.v_gsN, Ly.v_gsC, Ly.k_gc, Ly.v_gT, Ly.v_gTw, Ly.v_gSb, Ly.k_gsb, Ly.k_gsb2, Ly.k_gsb3, Ly.k_en_rt, Ly.k_en_nx, Ly.k_tu_nx, Ly.k_tu_ct, Ly.k_tu_bk, Ly.k_tu_rt, Ly.v_lc, Ly.k_lc, Ly.v_augI, Ly.k_ag, Ly.k_ag2, Ly.k_ag3, Ly.k_ag4, Ly.k_ag5, Ly.v_del, Ly.k_dl, Ly.k_dl2, Ly.v_setd, Ly.v_pop2, Ly.k_d3, Ly.k_d32, Ly.k_d33, Ly.v_get1, Ly.k_g1, Ly.k_g12, Ly.v_rg1, Ly.k_rg, Ly.v_rg2, Ly.k_rg2, Ly.k_rg22, Ly.v_dicK, Ly.v_dicT, Ly.v_dc, Ly.k_dc, List.getElem?_cons_zero, List.getElem?_cons_succ, List.set_cons_zero, List.set_cons_succ, List.length_cons, List.length_nil, List.map_cons, List.map_nil, List.cons_append, List.nil_append, List.replicate, if_true, if_false, Bool.false_eq_true, Bool.not_true, Bool.not_false, Bool.true_and, Bool.false_and, decide_true, decide_false, decide_eq_true_eq, Nat.zero_add, Nat.reduceAdd, Nat.reduceLeDiff, true_and, and_true, $ls,*])
def mbOf : Nat → List D → Option (List Nat)
  | _, [] => some []
  | least, .int i :: r => if (least : Int) ≤ i ∧ i ≤ 15 then (mbOf (i.toNat + 1) r).map (i.toNat :: ·) else none
  | _, _ :: _ => none
def memOf : D → Option (List Nat)
  | .tup xs => mbOf 0 xs
  | _ => none
def memsOf : List D → Option (List (List Nat))
  | [] => some []
  | d :: ds => match memOf d with
    | some m => (memsOf ds).map (m :: ·)
    | none => none
def papOf (n : Nat) : D → Option (List (List Nat))
  | .tup ds => if ds.length = n then memsOf ds else none
  | _ => none
def holdsN (as : List AR) (ms : List (List Nat)) : Bool := (List.range as.length).all fun r => (as.getD r AR0).ws.all fun w => (ms.getD w []).all fun a => decide (a ∈ (as.getD r AR0).behind (ms.getD r []))
theorem mbOf_spec : ∀ {xs : List D} {least : Nat} {m : List Nat}, mbOf least xs = some m → xs = nDs m ∧ m.Pairwise (· < ·) ∧ ∀ a ∈ m, least ≤ a ∧ a < 16
  | [], least, m, h => by cases h; simp
  | .int i :: r, least, m, h => by
    rw [mbOf] at h
    split at h
    · rename_i hc
      cases e : mbOf (i.toNat + 1) r with
      | none => rw [e] at h; cases h
      | some m2 =>
        rw [e] at h
        simp only [Option.map_some, Option.some.injEq] at h
        subst h
        obtain ⟨h1, h2, h3⟩ := mbOf_spec e
        refine ⟨?_, ?_, ?_⟩
        · rw [h1]; simp [nD]; omega
        · rw [List.pairwise_cons]; exact ⟨fun a ha => by have := (h3 a ha).1; omega, h2⟩
        · intro a ha
          rcases List.mem_cons.mp ha with rfl | ha
          · omega
          · have := h3 a ha; omega
    · cases h
  | .non :: r, least, m, h => by cases h
  | .bl _ :: r, least, m, h => by cases h
  | .str _ :: r, least, m, h => by cases h
  | .tup _ :: r, least, m, h => by cases h
  | .wt _ :: r, least, m, h => by cases h
  | .wl _ :: r, least, m, h => by cases h
  | .ref _ :: r, least, m, h => by cases h
  | .cst _ :: r, least, m, h => by cases h
theorem mbOf_nats : ∀ {m : List Nat} {least : Nat}, m.Pairwise (· < ·) → (∀ a ∈ m, least ≤ a ∧ a < 16) → mbOf least (nDs m) = some m
  | [], least, _, _ => rfl
  | a :: m, least, h, k => by
    rw [List.pairwise_cons] at h
    have ha := k a (by simp)
    have := mbOf_nats (m := m) (least := a + 1) h.2 fun b hb => ⟨h.1 b hb, (k b (by simp [hb])).2⟩
    simp only [List.map_cons, nD, mbOf]
    rw [if_pos (by omega), Int.toNat_natCast, this]; rfl
theorem memsOf_spec : ∀ {ds : List D} {ms : List (List Nat)}, memsOf ds = some ms → ds = ms.map tuN ∧ ∀ m ∈ ms, Mb m
  | [], ms, h => by cases h; simp
  | d :: ds, ms, h => by
    rw [memsOf] at h
    cases e : memOf d with
    | none => rw [e] at h; cases h
    | some m =>
      rw [e] at h
      cases e2 : memsOf ds with
      | none => rw [e2] at h; cases h
      | some ms2 =>
        rw [e2] at h
        simp only [Option.map_some, Option.some.injEq] at h
        subst h
        obtain ⟨h1, h2⟩ := memsOf_spec e2
        unfold memOf at e
        split at e
        · obtain ⟨k1, k2, k3⟩ := mbOf_spec e
          refine ⟨by rw [h1, k1]; rfl, fun x hx => ?_⟩
          rcases List.mem_cons.mp hx with rfl | hx
          · exact ⟨k2, fun a ha => (k3 a ha).2⟩
          · exact h2 x hx
        · cases e
theorem papOf_spec {n : Nat} {d : D} {ms : List (List Nat)} (h : papOf n d = some ms) : d = .tup (ms.map tuN) ∧ (∀ m ∈ ms, Mb m) ∧ ms.length = n := by
  unfold papOf at h
  split at h
  · split at h
    · rename_i hl
      obtain ⟨h1, h2⟩ := memsOf_spec h
      exact ⟨by rw [h1], h2, by rw [h1, List.length_map] at hl; exact hl⟩
    · cases h
  · cases h
theorem memsOf_map : ∀ {ms : List (List Nat)}, (∀ m ∈ ms, Mb m) → memsOf (ms.map tuN) = some ms
  | [], _ => rfl
  | m :: ms, h => by
    have hm := h m (by simp)
    rw [List.map_cons, memsOf, show memOf (tuN m) = some m from mbOf_nats hm.pw fun a ha => ⟨Nat.zero_le _, hm.lt a ha⟩, memsOf_map fun x hx => h x (by simp [hx])]
    rfl
theorem papOf_map {n : Nat} {ms : List (List Nat)} (h : ∀ m ∈ ms, Mb m) (hl : ms.length = n) : papOf n (.tup (ms.map tuN)) = some ms := by
  show (if (ms.map tuN).length = n then memsOf (ms.map tuN) else none) = _
  rw [if_pos (by rw [List.length_map]; exact hl), memsOf_map h]
def isTupB : D → Bool | .tup _ => true | _ => false
section
variable {S S' : Hs} {rs : List Rg} {rows : List MRow} {m n : Nat} {d : D}
theorem wp_enumJ {X : XP} {s : Sq} {xs : List D} {gg : MG} {b : MS} {l : Ls} {Q : F → Hs → Prop} (Inv : Nat → Ls → Hs → Prop) (hat : ∀ k l S, Inv k l S → s.at S = some xs) (h0 : Inv 0 l S)
    (hs : ∀ k l S x, xs[k]? = some x → Inv k l S → Wp X (gg (.tup [.int k, x]) l S) fun l1 S1 => Wp X (b l1 S1) (tuK (Inv (k + 1)) Q)) (hd : ∀ l S, Inv xs.length l S → Q (.nx l) S) : Wp X (fLoop (.enum s) gg b 0 l S) Q := by
  refine wp_fLoop xs.length Inv (fun l S h => ?_) (fun k l S hk h => ?_) hd xs.length 0 l S (by omega) h0
  · simp [itGo, hat _ _ _ h]
  · have e1 : xs[k]? = some xs[k] := List.getElem?_eq_getElem hk
    exact ⟨.tup [.int k, xs[k]], by simp [itGo, hat _ _ _ h, e1]; omega, hs k l S _ e1 h⟩
theorem isi_tup (h : Dt m n d) : oIsi "tuple" d S = .ok (.bl (isTupB d)) S := by cases h <;> rfl
theorem is_member_J {o0 o1 o2 : D} {o4 : Option D} (h : Dt m n (.tup xs)) : ∀ {least : Nat}, Wp NoX (fLoop (.tup xs) (gN 4) lb_is_paper_0J 0 [some o0, some o1, some o2, some (nD least), o4] S) fun f S' => S' = S ∧ if (mbOf least xs).isSome = true then ∃ o3 o4, f = .nx [some o0, some o1, some o2, o3, o4] else f = .rt (.bl false) := by
  intro least
  refine wp_tup (fun pre l S' => S' = S ∧ ∃ lv o4, l = [some o0, some o1, some o2, some (nD lv), o4] ∧ (mbOf least xs).isSome = (mbOf lv (xs.drop pre.length)).isSome) ⟨rfl, _, _, rfl, by simp⟩ ?_ ?_
  · rintro pre d post l S2 hsp ⟨rfl, lv, o4, rfl, he⟩
    have hdr : xs.drop pre.length = d :: post := by rw [hsp]; simp
    have hdt := h.part d (by rw [hsp]; simp)
    rw [hdr] at he
    unfold lb_is_paper_0J
    have e15 : ((16 : Int) - 1) = 15 := by decide
    simp_arith [Ly.v_fld, Ly.v_meth, Ly.k_me2, Ly.v_make, Ly.k_mk, Ly.v_fldset, Ly.k_fs, Ly.v_fldaug, Ly.k_fa2, Ly.look1, List.mem_cons, List.not_mem_nil, or_false, true_or, or_true, d_REGISTERSM, oSub_int, e15]
    refine Wp.call (isNum_ok hdt) ?_
    rintro _ S3 ⟨rfl, rfl⟩
    simp_arith [Ly.v_fld, Ly.v_meth, Ly.k_me2, Ly.v_make, Ly.k_mk, Ly.v_fldset, Ly.k_fs, Ly.v_fldaug, Ly.k_fa2, Ly.look1, List.mem_cons, List.not_mem_nil, or_false, true_or, or_true, tb]
    have hdr2 : xs.drop (pre ++ [d]).length = post := by
      rw [List.length_append, List.length_singleton, ← List.drop_drop, hdr]; rfl
    by_cases hn : nmB (lv : Int) 15 d = true
    · cases d with
      | int i =>
        have hc : (lv : Int) ≤ i ∧ i ≤ 15 := by simpa [nmB] using hn
        have ei : i + 1 = ((i.toNat + 1 : Nat) : Int) := by omega
        simp_arith [Ly.v_fld, Ly.v_meth, Ly.k_me2, Ly.v_make, Ly.k_mk, Ly.v_fldset, Ly.k_fs, Ly.v_fldaug, Ly.k_fa2, Ly.look1, List.mem_cons, List.not_mem_nil, or_false, true_or, or_true, hn, oAdd_int, ei]
        refine ⟨_, _, rfl, ?_⟩
        rw [hdr2, he, mbOf, if_pos hc]
        cases mbOf (i.toNat + 1) post <;> rfl
      | _ => simp [nmB] at hn
    · simp only [Bool.not_eq_true] at hn
      have hno : (mbOf least xs).isSome = false := by
        rw [he]
        cases d with
        | int i =>
          have hc : ¬ ((lv : Int) ≤ i ∧ i ≤ 15) := by simpa [nmB] using hn
          rw [mbOf, if_neg hc]; rfl
        | _ => rfl
      simp_arith [Ly.v_fld, Ly.v_meth, Ly.k_me2, Ly.v_make, Ly.k_mk, Ly.v_fldset, Ly.k_fs, Ly.v_fldaug, Ly.k_fa2, Ly.look1, List.mem_cons, List.not_mem_nil, or_false, true_or, or_true, hn, hno]
  · rintro l S2 ⟨rfl, lv, o4, rfl, he⟩
    rw [List.drop_length] at he
    refine ⟨rfl, ?_⟩
    rw [he]
    exact ⟨_, _, rfl⟩
theorem is_paper_J (h : Dt m n d) : Wp NoX (m_is_paperJ [codeD rs rows, d] S) fun v S' => v = .bl (papOf rows.length d).isSome ∧ S' = S := by
  refine wp_def0 rfl ?_
  unfold b_is_paperJ
  have no : isTupB d = false → papOf rows.length d = none := fun h => by cases d <;> first | rfl | cases h
  rw [v_seq]
  simp_arith [Ly.v_fld, Ly.v_meth, Ly.k_me2, Ly.v_make, Ly.k_mk, Ly.v_fldset, Ly.k_fs, Ly.v_fldaug, Ly.k_fa2, Ly.look1, List.mem_cons, List.not_mem_nil, or_false, true_or, or_true, isi_tup h, tb]
  cases ht : isTupB d with
  | false =>
    simp_arith [Ly.v_fld, Ly.v_meth, Ly.k_me2, Ly.v_make, Ly.k_mk, Ly.v_fldset, Ly.k_fs, Ly.v_fldaug, Ly.k_fa2, Ly.look1, List.mem_cons, List.not_mem_nil, or_false, true_or, or_true, no ht]
    exact rfl
  | true =>
    cases h with
    | tup hl hx =>
      rename_i n xs
      have hT : Dt m (n + 1) (.tup xs) := .tup hl hx
      simp_arith [Ly.v_fld, Ly.v_meth, Ly.k_me2, Ly.v_make, Ly.k_mk, Ly.v_fldset, Ly.k_fs, Ly.v_fldaug, Ly.k_fa2, Ly.look1, List.mem_cons, List.not_mem_nil, or_false, true_or, or_true, bLen_tup, codeD, tix1, List.length_map, oNe_int]
      by_cases hlen : xs.length = rows.length
      · have : ((xs.length : Nat) : Int) = (rows.length : Int) := by omega
        simp_arith [Ly.v_fld, Ly.v_meth, Ly.k_me2, Ly.v_make, Ly.k_mk, Ly.v_fldset, Ly.k_fs, Ly.v_fldaug, Ly.k_fa2, Ly.look1, List.mem_cons, List.not_mem_nil, or_false, true_or, or_true, this, oIt]
        have ep : papOf rows.length (.tup xs) = memsOf xs := if_pos hlen
        rw [ep]
        refine wp_tup (fun pre l S' => S' = S ∧ (∃ o2 o3 o4, l = [some (.tup [.tup (rs.map Rg.D), .tup (rows.map MRow.D)]), some (.tup xs), o2, o3, o4]) ∧ (memsOf xs).isSome = (memsOf (xs.drop pre.length)).isSome) ⟨rfl, ⟨_, _, _, rfl⟩, by simp⟩ ?_ ?_
        · rintro pre d post l S2 hsp ⟨rfl, ⟨o2, o3, o4, rfl⟩, he⟩
          have hdr : xs.drop pre.length = d :: post := by rw [hsp]; simp
          have hdr2 : xs.drop (pre ++ [d]).length = post := by
            rw [List.length_append, List.length_singleton, ← List.drop_drop, hdr]; rfl
          have hdt := hx d (by rw [hsp]; simp)
          rw [hdr, memsOf] at he
          unfold lb_is_paper_1J
          simp_arith [Ly.v_fld, Ly.v_meth, Ly.k_me2, Ly.v_make, Ly.k_mk, Ly.v_fldset, Ly.k_fs, Ly.v_fldaug, Ly.k_fa2, Ly.look1, List.mem_cons, List.not_mem_nil, or_false, true_or, or_true, isi_tup hdt, tb]
          cases htd : isTupB d with
          | false =>
            have : memOf d = none := by cases d <;> first | rfl | cases htd
            rw [this] at he
            simp_arith [Ly.v_fld, Ly.v_meth, Ly.k_me2, Ly.v_make, Ly.k_mk, Ly.v_fldset, Ly.k_fs, Ly.v_fldaug, Ly.k_fa2, Ly.look1, List.mem_cons, List.not_mem_nil, or_false, true_or, or_true, he]
            simp
          | true =>
            cases d with
            | tup ys =>
              simp_arith [Ly.v_fld, Ly.v_meth, Ly.k_me2, Ly.v_make, Ly.k_mk, Ly.v_fldset, Ly.k_fs, Ly.v_fldaug, Ly.k_fa2, Ly.look1, List.mem_cons, List.not_mem_nil, or_false, true_or, or_true, oIt]
              refine (is_member_J (least := 0) hdt).mono (fun _ _ _ _ h => h) ?_
              rintro f S3 ⟨rfl, hf⟩
              have em : memOf (.tup ys) = mbOf 0 ys := rfl
              rw [em] at he
              cases hm : mbOf 0 ys with
              | none =>
                rw [hm] at hf he
                simp only [Option.isSome_none, Bool.false_eq_true, if_false] at hf
                subst hf
                simp_arith [Ly.v_fld, Ly.v_meth, Ly.k_me2, Ly.v_make, Ly.k_mk, Ly.v_fldset, Ly.k_fs, Ly.v_fldaug, Ly.k_fa2, Ly.look1, List.mem_cons, List.not_mem_nil, or_false, true_or, or_true, he]
                simp
              | some mm =>
                rw [hm] at hf he
                simp only [Option.isSome_some, if_true] at hf
                obtain ⟨o3, o4, rfl⟩ := hf
                simp_arith [Ly.v_fld, Ly.v_meth, Ly.k_me2, Ly.v_make, Ly.k_mk, Ly.v_fldset, Ly.k_fs, Ly.v_fldaug, Ly.k_fa2, Ly.look1, List.mem_cons, List.not_mem_nil, or_false, true_or, or_true]
                refine ⟨⟨_, _, _, rfl⟩, ?_⟩
                rw [hdr2, he]
                cases memsOf post <;> rfl
            | _ => cases htd
        · rintro l S2 ⟨rfl, ⟨o2, o3, o4, rfl⟩, he⟩
          rw [List.drop_length] at he
          simp_arith [Ly.v_fld, Ly.v_meth, Ly.k_me2, Ly.v_make, Ly.k_mk, Ly.v_fldset, Ly.k_fs, Ly.v_fldaug, Ly.k_fa2, Ly.look1, List.mem_cons, List.not_mem_nil, or_false, true_or, or_true, he]
          simp [memsOf]
      · have : ¬ ((xs.length : Nat) : Int) = (rows.length : Int) := by omega
        have ep : papOf rows.length (.tup xs) = none := if_neg hlen
        simp_arith [Ly.v_fld, Ly.v_meth, Ly.k_me2, Ly.v_make, Ly.k_mk, Ly.v_fldset, Ly.k_fs, Ly.v_fldaug, Ly.k_fa2, Ly.look1, List.mem_cons, List.not_mem_nil, or_false, true_or, or_true, this, ep]
        simp
    | non => cases ht
    | bl b => cases ht
    | int i => cases ht
    | str x => cases ht
end
end Ly
set_option Elab.async false
set_option linter.all false
set_option maxRecDepth 100000
namespace Ly
open PySem PySem.Spec L2
open PyProof.Rows hiding St
local macro_rules | `(tactic| simp_arith [$ls,*]) => `(tactic| simp only [Ly.line_le, Ly.atX_no, Ly.v_ok, Ly.v_bad, Ly.v_bind, Ly.k_bd, Ly.v_at, Ly.v_bin, Ly.k_bi, Ly.k_bi2, Ly.v_var, Ly.v_c, Ly.v_un, Ly.k_un, Ly.v_if, Ly.k_ife, Ly.v_and, Ly.k_and, Ly.k_and2, Ly.v_or, Ly.k_or, Ly.k_or2, Ly.v_tup, Ly.k_tup, Ly.v_lst, Ly.k_lst, Ly.v_call, Ly.k_ca, Ly.v_fn, Ly.k_fn, Ly.v_bm, Ly.k_bm, Ly.k_bm2, Ly.v_sl, Ly.k_sl, Ly.k_sl2, Ly.k_sl3, Ly.v_ixK, Ly.k_ixk, Ly.v_inK, Ly.k_ink, Ly.v_notinK, Ly.k_nink, Ly.v_getK2, Ly.k_gk2, Ly.k_gk, Ly.v_get2, Ly.k_g2, Ly.k_g22, Ly.k_g23, Ly.v_nil, Ly.v_cons, Ly.k_co, Ly.k_co2, Ly.v_no, Ly.v_some, Ly.k_so, Ly.k_cm, Ly.v_cmp, Ly.v_tru, Ly.k_tr, Ly.v_notB, Ly.k_no, Ly.v_andB, Ly.k_an, Ly.v_orB, Ly.k_orb, Ly.v_yes, Ly.v_inKB, Ly.k_inkB, Ly.v_notinKB, Ly.k_ninkB, Ly.v_set, Ly.k_st, Ly.v_expr, Ly.k_ex, Ly.v_ret, Ly.k_re, Ly.v_retN, Ly.v_pass, Ly.v_brk, Ly.v_cnt, Ly.v_seq, Ly.k_sq_nx, Ly.k_sq_rt, Ly.k_sq_bk, Ly.k_sq_ct, Ly.v_ifS, Ly.k_ifs, Ly.v_asg, Ly.k_as, Ly.k_as2, Ly.v_aug, Ly.k_au, Ly.v_for, Ly.k_fo, Ly.v_it, Ly.k_it, Ly.k_ij, Ly.v_rng1, Ly.v_rng2, Ly.v_enum, Ly.v_zip, Ly.v_ez, Ly.v_gN, Ly.v_gsN, Ly.v_gsC, Ly.k_gc, Ly.v_gT, Ly.v_gTw, Ly.v_gSb, Ly.k_gsb, Ly.k_gsb2, Ly.k_gsb3, Ly.k_en_rt, Ly.k_en_nx, Ly.k_tu_nx, Ly.k_tu_ct, Ly.k_tu_bk, Ly.k_tu_rt, Ly.v_lc, Ly.k_lc, Ly.v_augI, Ly.k_ag, Ly.k_ag2, Ly.k_ag3, Ly.k_ag4, Ly.k_ag5, Ly.v_del, Ly.k_dl, Ly.k_dl2, Ly.v_setd, Ly.v_pop2, Ly.k_d3, Ly.k_d32, Ly.k_d33, Ly.v_get1, Ly.k_g1, Ly.k_g12, Ly.v_rg1, Ly.k_rg, Ly.v_rg2, Ly.k_rg2, Ly.k_rg22, Ly.v_dicK, Ly.v_dicT, Ly.v_dc, Ly.k_dc, List.getElem?_cons_zero, List.getElem?_cons_succ, List.set_cons_zero, List.set_cons_succ, List.length_cons, List.length_nil, List.map_cons, List.map_nil, List.cons_append, List.nil_append, List.replicate, if_true, if_false, Bool.false_eq_true, Bool.not_true, Bool.not_false, Bool.true_and, Bool.false_and, decide_true, decide_false, decide_eq_true_eq, Nat.zero_add, Nat.reduceAdd, Nat.reduceLeDiff, true_and, and_true, $ls,*])
theorem hold_iff {as : List AR} {ms : List (List Nat)} : holdsN as ms = true ↔ ∀ r, r < as.length → ∀ w ∈ (as.getD r AR0).ws, ∀ a ∈ ms.getD w [], a ∈ (as.getD r AR0).behind (ms.getD r []) := by
  unfold holdsN
  simp [List.all_eq_true]
section
variable {S S' : Hs} {rs : List Rg} {rows : List MRow} {m n : Nat} {d : D}
theorem ars_at {k : Nat} (hk : k < rows.length) : (ars rs rows).getD k AR0 = (rows.getD k (.stop 0)).ar rs k := by
  have : (ars rs rows)[k]? = some ((rows.getD k (.stop 0)).ar rs k) := by rw [ars_get]; simp [List.getD, List.getElem?_eq_getElem hk]
  simp [List.getD, this]
theorem wp_all_in {X : XP} {q : Nat} {bh L : List Nat} {o0 o1 o2 o3 o5 : D} {o6 : Option D} (hq : S[q]? = some (.dic (natDic bh (.bl true)))) :
    Wp X (fLoop (.tup (nDs L)) (gN 6) lb_holds_0J 0 [some o0, some o1, some o2, some o3, some (.ref q), some o5, o6] S) fun f S' => S' = S ∧ if (∀ a ∈ L, a ∈ bh) then ∃ o6, f = .nx [some o0, some o1, some o2, some o3, some (.ref q), some o5, o6] else f = .rt (.bl false) := by
  refine wp_tup (fun pre l S' => S' = S ∧ (∃ o6, l = [some o0, some o1, some o2, some o3, some (.ref q), some o5, o6]) ∧ ∀ d ∈ pre, ∃ x, d = nD x ∧ x ∈ bh) ⟨rfl, ⟨_, rfl⟩, by simp⟩ ?_ ?_
  · rintro pre d post l S2 hsp ⟨rfl, ⟨o6, rfl⟩, hpre⟩
    have hd : d ∈ nDs L := by rw [hsp]; simp
    obtain ⟨x, hx, rfl⟩ := List.mem_map.mp hd
    unfold lb_holds_0J
    simp_arith [Ly.v_fld, Ly.v_meth, Ly.k_me2, Ly.v_make, Ly.k_mk, Ly.v_fldset, Ly.k_fs, Ly.v_fldaug, Ly.k_fa2, Ly.look1, List.mem_cons, List.not_mem_nil, or_false, true_or, or_true, oNotIn_dic hq]
    by_cases hp : x ∈ bh
    · simp_arith [Ly.v_fld, Ly.v_meth, Ly.k_me2, Ly.v_make, Ly.k_mk, Ly.v_fldset, Ly.k_fs, Ly.v_fldaug, Ly.k_fa2, Ly.look1, List.mem_cons, List.not_mem_nil, or_false, true_or, or_true, hp]
      refine ⟨⟨_, rfl⟩, fun d hd => ?_⟩
      rcases List.mem_append.mp hd with h | h
      · exact hpre d h
      · rw [List.mem_singleton.mp h]; exact ⟨x, rfl, hp⟩
    · simp_arith [Ly.v_fld, Ly.v_meth, Ly.k_me2, Ly.v_make, Ly.k_mk, Ly.v_fldset, Ly.k_fs, Ly.v_fldaug, Ly.k_fa2, Ly.look1, List.mem_cons, List.not_mem_nil, or_false, true_or, or_true, hp]
      rw [if_neg (fun h => hp (h x hx))]; trivial
  · rintro l S2 ⟨rfl, ⟨o6, rfl⟩, hpre⟩
    refine ⟨rfl, ?_⟩
    rw [if_pos]
    · exact ⟨_, rfl⟩
    · intro x hx
      obtain ⟨y, e, hy⟩ := hpre (nD x) (List.mem_map.mpr ⟨x, hx, rfl⟩)
      have : x = y := by unfold nD at e; injection e with e; omega
      rw [this]; exact hy
theorem holds_J (c : CodeOk rs rows) (hl : rs.length ≤ 100000) (h : Dt m n d) : Wp NoX (m_holdsJ [codeD rs rows, d] S) fun v S' => v = .bl (match papOf rows.length d with | some ms => holdsN (ars rs rows) ms | none => false) ∧ Kp [] S S' := by
  refine wp_def0 rfl ?_
  unfold b_holdsJ
  rw [v_seq]
  simp_arith [Ly.v_fld, Ly.v_meth, Ly.k_me2, Ly.v_make, Ly.k_mk, Ly.v_fldset, Ly.k_fs, Ly.v_fldaug, Ly.k_fa2, Ly.look1, List.mem_cons, List.not_mem_nil, or_false, true_or, or_true, -v_seq]
  refine Wp.call (is_paper_J h) ?_
  rintro _ S1 ⟨rfl, rfl⟩
  cases hp : papOf rows.length d with
  | none =>
    simp_arith [Ly.v_fld, Ly.v_meth, Ly.k_me2, Ly.v_make, Ly.k_mk, Ly.v_fldset, Ly.k_fs, Ly.v_fldaug, Ly.k_fa2, Ly.look1, List.mem_cons, List.not_mem_nil, or_false, true_or, or_true, tb]
    exact Kp.refl
  | some ms =>
    obtain ⟨rfl, hmb, hlen⟩ := papOf_spec hp
    simp_arith [Ly.v_fld, Ly.v_meth, Ly.k_me2, Ly.v_make, Ly.k_mk, Ly.v_fldset, Ly.k_fs, Ly.v_fldaug, Ly.k_fa2, Ly.look1, List.mem_cons, List.not_mem_nil, or_false, true_or, or_true, tb, oEnum, sqOf, -v_seq]
    rw [v_seq]
    have hnr : (ars rs rows).length = rows.length := ars_len
    simp_arith [Ly.v_fld, Ly.v_meth, Ly.k_me2, Ly.v_make, Ly.k_mk, Ly.v_fldset, Ly.k_fs, Ly.v_fldaug, Ly.k_fa2, Ly.look1, List.mem_cons, List.not_mem_nil, or_false, true_or, or_true, oEnum, sqOf, -v_seq]
    refine wp_enumJ (xs := ms.map tuN) (fun k l S' => (∃ o2 o3 o4 o5 o6, l = [some (codeD rs rows), some (.tup (ms.map tuN)), o2, o3, o4, o5, o6]) ∧ Kp [] S1 S' ∧ ∀ r, r < k → ∀ w ∈ ((ars rs rows).getD r AR0).ws, ∀ a ∈ ms.getD w [], a ∈ ((ars rs rows).getD r AR0).behind (ms.getD r [])) (fun k l S' _ => rfl) ⟨⟨_, _, _, _, _, rfl⟩, Kp.refl, by omega⟩ ?_ ?_
    · rintro k l S2 x hx ⟨⟨o2, o3, o4, o5, o6, rfl⟩, k2, hin⟩
      rw [List.getElem?_map] at hx
      cases e : ms[k]? with
      | none => rw [e] at hx; cases hx
      | some p =>
        rw [e] at hx
        simp only [Option.map_some, Option.some.injEq] at hx
        subst hx
        have hk : k < rows.length := by rw [← hlen]; exact (List.getElem?_eq_some_iff.mp e).1
        have hpm := hmb p (List.mem_of_getElem? e)
        obtain ⟨c1, c2, c3⟩ := c.row hk
        have ear : (ars rs rows).getD k AR0 = (rows.getD k (.stop 0)).ar rs k := ars_at hk
        have epk : ms.getD k [] = p := by simp [List.getD, e]
        unfold lb_holds_2J
        simp_arith [Ly.v_fld, Ly.v_meth, Ly.k_me2, Ly.v_make, Ly.k_mk, Ly.v_fldset, Ly.k_fs, Ly.v_fldaug, Ly.k_fa2, Ly.look1, List.mem_cons, List.not_mem_nil, or_false, true_or, or_true, v_gT, -v_seq]
        rw [v_seq]
        simp_arith [Ly.v_fld, Ly.v_meth, Ly.k_me2, Ly.v_make, Ly.k_mk, Ly.v_fldset, Ly.k_fs, Ly.v_fldaug, Ly.k_fa2, Ly.look1, List.mem_cons, List.not_mem_nil, or_false, true_or, or_true, -v_seq]
        refine Wp.call (behind_J c.cg hl c1 (fun x hx => wr_lt c2 hx) hpm) ?_
        rintro _ S3 ⟨rfl, k3⟩
        have hbm := AR.behind_mb (a := (rows.getD k (.stop 0)).ar rs k) hpm
        have hbl := hbm.len
        simp_arith [Ly.v_fld, Ly.v_meth, Ly.k_me2, Ly.v_make, Ly.k_mk, Ly.v_fldset, Ly.k_fs, Ly.v_fldaug, Ly.k_fa2, Ly.look1, List.mem_cons, List.not_mem_nil, or_false, true_or, or_true, oIt, wipeL, -v_seq]
        refine dcTrue hbm.nodup (by omega) (by simp) (fun k S => ?_) fun S4 hq k4 => ?_
        · simp only [itGo]; cases (nDs (((rows.getD _ (.stop 0)).ar rs _).behind p))[k]? <;> rfl
        simp_arith [Ly.v_fld, Ly.v_meth, Ly.k_me2, Ly.v_make, Ly.k_mk, Ly.v_fldset, Ly.k_fs, Ly.v_fldaug, Ly.k_fa2, Ly.look1, List.mem_cons, List.not_mem_nil, or_false, true_or, or_true]
        refine Wp.call (ways_J c1) ?_
        rintro _ S5 ⟨rfl, k5⟩
        have hq5 := k5.get hq (by simp)
        have k25 : Kp [] S1 S5 := ((k2.trans k3).trans k4).trans k5
        simp_arith [Ly.v_fld, Ly.v_meth, Ly.k_me2, Ly.v_make, Ly.k_mk, Ly.v_fldset, Ly.k_fs, Ly.v_fldaug, Ly.k_fa2, Ly.look1, List.mem_cons, List.not_mem_nil, or_false, true_or, or_true, oIt]
        refine wp_tup (fun pre l S' => S' = S5 ∧ (∃ o5 o6, l = [some (codeD rs rows), some (.tup (ms.map tuN)), some (nD k), some (tuN p), some (.ref S3.length), o5, o6]) ∧ ∀ d ∈ pre, ∃ w, d = nD w ∧ ∀ a ∈ ms.getD w [], a ∈ ((rows.getD k (.stop 0)).ar rs k).behind p) ⟨rfl, ⟨_, _, rfl⟩, by simp⟩ ?_ ?_
        · rintro pre d post l S6 hsp ⟨rfl, ⟨o5, o6, rfl⟩, hpre⟩
          have hd : d ∈ nDs ((rows.getD k (.stop 0)).ways k) := by rw [hsp]; simp
          obtain ⟨w, hw, rfl⟩ := List.mem_map.mp hd
          have hwl : w < rows.length := by
            rw [← hnr]
            exact (asOk c).ws ((rows.getD k (.stop 0)).ar rs k) (List.mem_of_getElem? (i := k) (by rw [ars_get, c1]; rfl)) w hw
          have ew : ms[w]? = some (ms.getD w []) := by simp [List.getD, List.getElem?_eq_getElem (show w < ms.length by omega)]
          unfold lb_holds_1J
          simp_arith [Ly.v_fld, Ly.v_meth, Ly.k_me2, Ly.v_make, Ly.k_mk, Ly.v_fldset, Ly.k_fs, Ly.v_fldaug, Ly.k_fa2, Ly.look1, List.mem_cons, List.not_mem_nil, or_false, true_or, or_true, show oIx (.tup (ms.map tuN)) (nD w) S6 = .ok (tuN (ms.getD w [])) S6 from oIx_tup (by rw [List.getElem?_map, ew]; rfl), oIt]
          refine (wp_all_in hq5).mono (fun _ _ _ _ h => h) ?_
          rintro f S7 ⟨rfl, hf⟩
          by_cases hall : ∀ a ∈ ms.getD w [], a ∈ ((rows.getD k (.stop 0)).ar rs k).behind p
          · rw [if_pos hall] at hf
            obtain ⟨o6, rfl⟩ := hf
            simp_arith [Ly.v_fld, Ly.v_meth, Ly.k_me2, Ly.v_make, Ly.k_mk, Ly.v_fldset, Ly.k_fs, Ly.v_fldaug, Ly.k_fa2, Ly.look1, List.mem_cons, List.not_mem_nil, or_false, true_or, or_true]
            refine ⟨⟨_, _, rfl⟩, fun d hd => ?_⟩
            rcases List.mem_append.mp hd with h | h
            · exact hpre d h
            · rw [List.mem_singleton.mp h]; exact ⟨w, rfl, hall⟩
          · rw [if_neg hall] at hf
            subst hf
            simp_arith [Ly.v_fld, Ly.v_meth, Ly.k_me2, Ly.v_make, Ly.k_mk, Ly.v_fldset, Ly.k_fs, Ly.v_fldaug, Ly.k_fa2, Ly.look1, List.mem_cons, List.not_mem_nil, or_false, true_or, or_true]
            refine ⟨?_, k25⟩
            congr 1; symm
            rw [← Bool.not_eq_true]
            intro hh
            refine hall fun a ha => ?_
            have := hold_iff.mp hh k (by rw [hnr]; exact hk) w (by rw [ear]; exact hw) a ha
            rw [ear, epk] at this; exact this
        · rintro l S6 ⟨rfl, ⟨o5, o6, rfl⟩, hpre⟩
          simp_arith [Ly.v_fld, Ly.v_meth, Ly.k_me2, Ly.v_make, Ly.k_mk, Ly.v_fldset, Ly.k_fs, Ly.v_fldaug, Ly.k_fa2, Ly.look1, List.mem_cons, List.not_mem_nil, or_false, true_or, or_true]
          refine ⟨⟨_, _, _, _, _, rfl⟩, k25, fun r hr w hw a ha => ?_⟩
          rcases Nat.lt_or_ge r k with h | h
          · exact hin r h w hw a ha
          · have : r = k := by omega
            subst this
            rw [ear] at hw ⊢
            rw [epk]
            obtain ⟨w2, e2, h2⟩ := hpre (nD w) (List.mem_map.mpr ⟨w, hw, rfl⟩)
            have : w = w2 := by unfold nD at e2; injection e2 with e2; omega
            subst this
            exact h2 a ha
    · rintro l S2 ⟨⟨o2, o3, o4, o5, o6, rfl⟩, k2, hin⟩
      rw [List.length_map, hlen, ← hnr] at hin
      simp_arith [Ly.v_fld, Ly.v_meth, Ly.k_me2, Ly.v_make, Ly.k_mk, Ly.v_fldset, Ly.k_fs, Ly.v_fldaug, Ly.k_fa2, Ly.look1, List.mem_cons, List.not_mem_nil, or_false, true_or, or_true]
      exact ⟨by rw [hold_iff.mpr hin], k2⟩
end
end Ly
set_option Elab.async false
set_option linter.all false
set_option maxRecDepth 100000
namespace Ly
open PySem PySem.Spec L2
open PyProof.Rows hiding St
noncomputable def lb_regions_0G : MS := (mSeq (mSet 4 (mBin oIx (mLst (lCons (mC (.int 1)) (lCons (mC (.int 2)) (lCons (mC (.int 4)) (lCons (mC (.int 8)) (lCons (mC (.int 3)) lNil)))))) (mFn m_next (lCons (mVar 0) (lCons (mC (.int 5)) lNil)))))
    (mSeq (mExpr (mBM "list" oAppend (mVar 1) (lCons (mTup (lCons (mVar 2) (lCons (mVar 4) (lCons (mBin oIx (mLst (lCons (mC (.str "public")) (lCons (mC (.str "secret")) lNil))) (mFn m_next (lCons (mVar 0) (lCons (mC (.int 2)) lNil)))) lNil)))) lNil)))
    (mAug 2 oIAdd (mVar 4))))
noncomputable def b_regionsG : MS := (mSeq (mSet 1 (mLst lNil))
    (mSeq (mSet 2 (mC (.int 0)))
    (mSeq (mFor (mRng1 (lCons (mBin oAdd (mC (.int 1)) (mFn m_next (lCons (mVar 0) (lCons (mC (.int 4)) lNil)))) lNil)) (gN 3) lb_regions_0G)
    (mRet (mCall bTuple (lCons (mVar 1) lNil))))))
noncomputable def m_regionsG : MD := mDef 1 4 b_regionsG
noncomputable def c_span_0G : MB := (mCmp oGe (mVar 5) (mVar 3))
noncomputable def lb_span_1G : MS := (mSet 5 (mBin oFdiv (mVar 5) (mC (.int 2))))
noncomputable def b_spanG : MS := (mSeq (mAsg (mBin oIx (mVar 1) (mFn m_next (lCons (mVar 0) (lCons (mCall bLen (lCons (mVar 1) lNil)) lNil)))) (gT 3 (gsC (gN 2) (gsC (gN 3) (gsC (gN 4) gsN)))))
    (mSeq (mSet 5 (mBin oIx (mLst (lCons (mC (.int 0)) (lCons (mC (.int 0)) (lCons (mC (.int 1)) (lCons (mC (.int 3)) (lCons (mC (.int 7)) lNil)))))) (mFn m_next (lCons (mVar 0) (lCons (mC (.int 5)) lNil)))))
    (mSeq (mIfS (mCmp oGt (mFn m_next (lCons (mVar 0) (lCons (mC (.int 7)) lNil))) (mC (.int 0))) (mSeq (mWhile c_span_0G lb_span_1G)
    (mRet (mTup (lCons (mBin oAdd (mVar 2) (mFn m_next (lCons (mVar 0) (lCons (mBin oSub (mVar 3) (mVar 5)) lNil)))) (lCons (mVar 5) lNil))))) mPass)
    (mRet (mTup (lCons (mFn m_next (lCons (mVar 0) (lCons (mC (.int 30)) lNil))) (lCons (mVar 5) lNil)))))))
noncomputable def m_spanG : MD := mDef 2 4 b_spanG
noncomputable def b_rowG : MS := (mSeq (mSet 3 (mFn m_next (lCons (mVar 0) (lCons (mC (.int 14)) lNil))))
    (mSeq (mSet 4 (mFn m_next (lCons (mVar 0) (lCons (mC (.int 6)) lNil))))
    (mSeq (mSet 5 (mFn m_next (lCons (mVar 0) (lCons (mC (.int 6)) lNil))))
    (mSeq (mSet 6 (mFn m_next (lCons (mVar 0) (lCons (mC (.int 6)) lNil))))
    (mSeq (mIfS (mCmp oLt (mVar 3) (mC (.int 2))) (mRet (mTup (lCons (mC (.str "const")) (lCons (mVar 4) (lCons (mBin oIx (mLst (lCons (mFn m_next (lCons (mVar 0) (lCons (mC (.int 9)) lNil))) (lCons (mBin oSub (mC (.int 4294967295)) (mFn m_next (lCons (mVar 0) (lCons (mC (.int 5)) lNil)))) (lCons (mBin oMul (mFn m_next (lCons (mVar 0) (lCons (mC (.int 900)) lNil))) (mC (.int 4771117))) lNil)))) (mFn m_next (lCons (mVar 0) (lCons (mC (.int 3)) lNil)))) lNil))))) mPass)
    (mSeq (mIfS (mCmp oLt (mVar 3) (mC (.int 6))) (mRet (mTup (lCons (mC (.str "op")) (lCons (mBin oIx (mLst (lCons (mC (.str "+")) (lCons (mC (.str "-")) (lCons (mC (.str "*")) (lCons (mC (.str "&")) (lCons (mC (.str "|")) (lCons (mC (.str "^")) (lCons (mC (.str "<<")) (lCons (mC (.str ">>")) (lCons (mC (.str "==")) (lCons (mC (.str "<")) (lCons (mC (.str "<=")) (lCons (mC (.str "div")) (lCons (mC (.str "mod")) lNil)))))))))))))) (mFn m_next (lCons (mVar 0) (lCons (mC (.int 13)) lNil)))) (lCons (mVar 4) (lCons (mVar 5) (lCons (mVar 6) lNil))))))) mPass)
    (mSeq (mIfS (mCmp oEq (mVar 3) (mC (.int 6))) (mRet (mTup (lCons (mC (.str "select")) (lCons (mVar 4) (lCons (mFn m_next (lCons (mVar 0) (lCons (mC (.int 6)) lNil))) (lCons (mVar 5) (lCons (mVar 6) lNil))))))) mPass)
    (mSeq (mIfS (mCmp oLt (mVar 3) (mC (.int 9))) (mSeq (mAsg (mFn m_spanG (lCons (mVar 0) (lCons (mVar 1) lNil))) (gT 2 (gsC (gN 7) (gsC (gN 8) gsN))))
    (mRet (mTup (lCons (mC (.str "load")) (lCons (mVar 4) (lCons (mVar 5) (lCons (mVar 7) (lCons (mVar 8) lNil)))))))) mPass)
    (mSeq (mIfS (mCmp oLt (mVar 3) (mC (.int 11))) (mSeq (mAsg (mFn m_spanG (lCons (mVar 0) (lCons (mVar 1) lNil))) (gT 2 (gsC (gN 7) (gsC (gN 8) gsN))))
    (mRet (mTup (lCons (mC (.str "store")) (lCons (mVar 5) (lCons (mVar 7) (lCons (mVar 8) (lCons (mVar 6) lNil)))))))) mPass)
    (mSeq (mIfS (mCmp oEq (mVar 3) (mC (.int 11))) (mRet (mTup (lCons (mC (.str "out")) (lCons (mVar 5) lNil)))) mPass)
    (mSeq (mIfS (mCmp oEq (mVar 3) (mC (.int 12))) (mRet (mTup (lCons (mC (.str "branch")) (lCons (mVar 5) (lCons (mFn m_next (lCons (mVar 0) (lCons (mVar 2) lNil))) lNil))))) mPass)
    (mRet (mBin oIx (mLst (lCons (mTup (lCons (mC (.str "jump")) (lCons (mFn m_next (lCons (mVar 0) (lCons (mVar 2) lNil))) lNil))) (lCons (mTup (lCons (mC (.str "stop")) (lCons (mVar 5) lNil))) (lCons (mTup (lCons (mC (.str "const")) (lCons (mVar 4) (lCons (mC (.int 1)) lNil)))) lNil)))) (mFn m_next (lCons (mVar 0) (lCons (mC (.int 3)) lNil))))))))))))))))
noncomputable def m_rowG : MD := mDef 3 6 b_rowG
noncomputable def b_codeG : MS := (mSeq (mSet 1 (mFn m_regionsG (lCons (mVar 0) lNil)))
    (mSeq (mSet 2 (mBin oAdd (mC (.int 2)) (mFn m_next (lCons (mVar 0) (lCons (mC (.int 16)) lNil)))))
    (mSeq (mSet 3 (mLc (mRng1 (lCons (mBin oSub (mVar 2) (mC (.int 1))) lNil)) (cN 4) mYes (mFn m_rowG (lCons (mVar 0) (lCons (mVar 1) (lCons (mVar 2) lNil)))) [4]))
    (mRet (mTup (lCons (mVar 1) (lCons (mCall bTuple (lCons (mBin oAdd (mVar 3) (mLst (lCons (mBin oIx (mLst (lCons (mTup (lCons (mC (.str "stop")) (lCons (mFn m_next (lCons (mVar 0) (lCons (mC (.int 6)) lNil))) lNil))) (lCons (mTup (lCons (mC (.str "jump")) (lCons (mFn m_next (lCons (mVar 0) (lCons (mVar 2) lNil))) lNil))) lNil))) (mBin oFdiv (mFn m_next (lCons (mVar 0) (lCons (mC (.int 4)) lNil))) (mC (.int 3)))) lNil))) lNil)) lNil)))))))
noncomputable def m_codeG : MD := mDef 1 4 b_codeG
noncomputable def b_regionG : MS := (mSeq (mSet 3 (mLc (mIt (mBin oIx (mVar 0) (mC (.int 0)))) (cN 4) (mAndB (mCmp oLe (mBin oIx (mVar 4) (mC (.int 0))) (mVar 1)) (mCmp oLt (mBin oAdd (mVar 1) (mVar 2)) (mBin oAdd (mBin oIx (mVar 4) (mC (.int 0))) (mBin oIx (mVar 4) (mC (.int 1)))))) (mVar 4) [4]))
    (mSeq (mIfS (mCmp oEq (mVar 3) (mLst lNil)) (mRet (mC .non)) mPass)
    (mRet (mBin oIx (mVar 3) (mC (.int 0))))))
noncomputable def m_regionG : MD := mDef 3 2 b_regionG
noncomputable def b_behindG : MS := (mSeq (mSet 3 (mBin oIx (mBin oIx (mVar 0) (mC (.int 1))) (mVar 1)))
    (mSeq (mIfS (mCmp oEq (mBin oIx (mVar 3) (mC (.int 0))) (mC (.str "const"))) (mRet (mLc (mRng1 (lCons (mC (.int 16)) lNil)) (cN 6) (mOrB (mCmp oIn (mVar 6) (mVar 2)) (mCmp oEq (mVar 6) (mBin oIx (mVar 3) (mC (.int 1))))) (mVar 6) [6])) mPass)
    (mSeq (mIfS (mCmp oEq (mBin oIx (mVar 3) (mC (.int 0))) (mC (.str "op"))) (mSeq (mSet 4 (mAnd (mBin oIn (mBin oIx (mVar 3) (mC (.int 3))) (mVar 2)) (mBin oIn (mBin oIx (mVar 3) (mC (.int 4))) (mVar 2))))
    (mRet (mLc (mRng1 (lCons (mC (.int 16)) lNil)) (cN 6) (mOrB (mAndB (mCmp oNe (mVar 6) (mBin oIx (mVar 3) (mC (.int 2)))) (mCmp oIn (mVar 6) (mVar 2))) (mAndB (mCmp oEq (mVar 6) (mBin oIx (mVar 3) (mC (.int 2)))) (mTru (mVar 4)))) (mVar 6) [6]))) mPass)
    (mSeq (mIfS (mCmp oEq (mBin oIx (mVar 3) (mC (.int 0))) (mC (.str "select"))) (mSeq (mSet 4 (mAnd (mBin oIn (mBin oIx (mVar 3) (mC (.int 2))) (mVar 2)) (mAnd (mBin oIn (mBin oIx (mVar 3) (mC (.int 3))) (mVar 2)) (mBin oIn (mBin oIx (mVar 3) (mC (.int 4))) (mVar 2)))))
    (mRet (mLc (mRng1 (lCons (mC (.int 16)) lNil)) (cN 6) (mOrB (mAndB (mCmp oNe (mVar 6) (mBin oIx (mVar 3) (mC (.int 1)))) (mCmp oIn (mVar 6) (mVar 2))) (mAndB (mCmp oEq (mVar 6) (mBin oIx (mVar 3) (mC (.int 1)))) (mTru (mVar 4)))) (mVar 6) [6]))) mPass)
    (mSeq (mIfS (mCmp oEq (mBin oIx (mVar 3) (mC (.int 0))) (mC (.str "load"))) (mSeq (mSet 5 (mFn m_regionG (lCons (mVar 0) (lCons (mBin oIx (mVar 3) (mC (.int 3))) (lCons (mBin oIx (mVar 3) (mC (.int 4))) lNil)))))
    (mSeq (mSet 4 (mAnd (mBin oIsNot (mVar 5) (mC .non)) (mBin oEq (mBin oIx (mVar 5) (mC (.int 2))) (mC (.str "public")))))
    (mRet (mLc (mRng1 (lCons (mC (.int 16)) lNil)) (cN 6) (mOrB (mAndB (mCmp oNe (mVar 6) (mBin oIx (mVar 3) (mC (.int 1)))) (mCmp oIn (mVar 6) (mVar 2))) (mAndB (mCmp oEq (mVar 6) (mBin oIx (mVar 3) (mC (.int 1)))) (mTru (mVar 4)))) (mVar 6) [6])))) mPass)
    (mRet (mCall bList (lCons (mVar 2) lNil))))))))
noncomputable def m_behindG : MD := mDef 3 4 b_behindG
noncomputable def b_waysG : MS := (mSeq (mSet 2 (mBin oIx (mBin oIx (mVar 0) (mC (.int 1))) (mVar 1)))
    (mSeq (mIfS (mCmp oEq (mBin oIx (mVar 2) (mC (.int 0))) (mC (.str "stop"))) (mRet (mLst lNil)) mPass)
    (mSeq (mIfS (mCmp oEq (mBin oIx (mVar 2) (mC (.int 0))) (mC (.str "jump"))) (mRet (mLst (lCons (mBin oIx (mVar 2) (mC (.int 1))) lNil))) mPass)
    (mSeq (mIfS (mAndB (mCmp oEq (mBin oIx (mVar 2) (mC (.int 0))) (mC (.str "branch"))) (mCmp oNe (mBin oIx (mVar 2) (mC (.int 2))) (mBin oAdd (mVar 1) (mC (.int 1))))) (mRet (mCall bSorted (lCons (mLst (lCons (mBin oAdd (mVar 1) (mC (.int 1))) (lCons (mBin oIx (mVar 2) (mC (.int 2))) lNil))) lNil))) mPass)
    (mRet (mLst (lCons (mBin oAdd (mVar 1) (mC (.int 1))) lNil)))))))
noncomputable def m_waysG : MD := mDef 2 1 b_waysG
noncomputable def lb_greatest_0G : MS := (mAsg (mLc (mIt (mBin oIx (mVar 1) (mVar 6))) (cN 8) (mCmp oIn (mVar 8) (mVar 5)) (mVar 8) [8]) (gSb (mVar 1) (mVar 6)))
noncomputable def lb_greatest_1G : MS := (mSeq (mSet 5 (mFn m_behindG (lCons (mVar 0) (lCons (mVar 4) (lCons (mBin oIx (mVar 1) (mVar 4)) lNil)))))
    (mFor (mIt (mFn m_waysG (lCons (mVar 0) (lCons (mVar 4) lNil)))) (gN 6) lb_greatest_0G))
noncomputable def lb_greatest_2G : MS := (mSeq (mSet 3 (mCall bRepr (lCons (mVar 1) lNil)))
    (mSeq (mFor (mRng1 (lCons (mCall bLen (lCons (mVar 1) lNil)) lNil)) (gN 4) lb_greatest_1G)
    (mIfS (mCmp oEq (mCall bRepr (lCons (mVar 1) lNil)) (mVar 3)) mBrk mPass)))
noncomputable def b_greatestG : MS := (mSeq (mSet 1 (mLc (mIt (mBin oIx (mVar 0) (mC (.int 1)))) (cN 7) mYes (mRg1 oLRg (mC (.int 16))) [7]))
    (mSeq (mFor (mRng1 (lCons (mC (.int 400)) lNil)) (gN 2) lb_greatest_2G)
    (mRet (mCall bTuple (lCons (mLc (mIt (mVar 1)) (cN 9) mYes (mCall bTuple (lCons (mVar 9) lNil)) [9]) lNil)))))
noncomputable def m_greatestG : MD := mDef 1 9 b_greatestG
end Ly
set_option Elab.async false
set_option linter.all false
set_option maxRecDepth 100000
namespace Ly
open PySem PySem.Spec L2
open PyProof.Rows hiding St
local macro_rules | `(tactic| simp_arith [$ls,*]) => `(tactic| simp only [Ly.line_le, Ly.atX_no, Ly.v_ok, Ly.v_bad, Ly.v_bind, Ly.k_bd, Ly.v_at, Ly.v_bin, Ly.k_bi, Ly.k_bi2, Ly.v_var, Ly.v_c, Ly.v_un, Ly.k_un, Ly.v_if, Ly.k_ife, Ly.v_and, Ly.k_and, Ly.k_and2, Ly.v_or, Ly.k_or, Ly.k_or2, Ly.v_tup, Ly.k_tup, Ly.v_lst, Ly.k_lst, Ly.v_call, Ly.k_ca, Ly.v_fn, Ly.k_fn, Ly.v_bm, Ly.k_bm, Ly.k_bm2, Ly.v_sl, Ly.k_sl, Ly.k_sl2, Ly.k_sl3, Ly.v_ixK, Ly.k_ixk, Ly.v_inK, Ly.k_ink, Ly.v_notinK, Ly.k_nink, Ly.v_getK2, Ly.k_gk2, Ly.k_gk, Ly.v_get2, Ly.k_g2, Ly.k_g22, Ly.k_g23, Ly.v_nil, Ly.v_cons, Ly.k_co, Ly.k_co2, Ly.v_no, Ly.v_some, Ly.k_so, Ly.k_cm, Ly.v_cmp, Ly.v_tru, Ly.k_tr, Ly.v_notB, Ly.k_no, Ly.v_andB, Ly.k_an, Ly.v_orB, Ly.k_orb, Ly.v_yes, Ly.v_inKB, Ly.k_inkB, Ly.v_notinKB, Ly.k_ninkB, Ly.v_set, Ly.k_st, Ly.v_expr, Ly.k_ex, Ly.v_ret, Ly.k_re, Ly.v_retN, Ly.v_pass, Ly.v_brk, Ly.v_cnt, Ly.v_seq, Ly.k_sq_nx, Ly.k_sq_rt, Ly.k_sq_bk, Ly.k_sq_ct, Ly.v_ifS, Ly.k_ifs, Ly.v_asg, Ly.k_as, Ly.k_as2, Ly.v_aug, Ly.k_au, Ly.v_for, Ly.k_fo, Ly.v_it, Ly.k_it, Ly.k_ij, Ly.v_rng1, Ly.v_rng2, Ly.v_enum, Ly.v_zip, Ly.v_ez, Ly.v_gN, Ly.v_gsN, Ly.v_gsC, Ly.k_gc, Ly.v_gT, Ly.v_gTw, Ly.v_gSb, Ly.k_gsb, Ly.k_gsb2, Ly.k_gsb3, Ly.k_en_rt, Ly.k_en_nx, Ly.k_tu_nx, Ly.k_tu_ct, Ly.k_tu_bk, Ly.k_tu_rt, Ly.v_lc, Ly.k_lc, Ly.v_augI, Ly.k_ag, Ly.k_ag2, Ly.k_ag3, Ly.k_ag4, Ly.k_ag5, Ly.v_del, Ly.k_dl, Ly.k_dl2, Ly.v_setd, Ly.v_pop2, Ly.k_d3, Ly.k_d32, Ly.k_d33, Ly.v_get1, Ly.k_g1, Ly.k_g12, Ly.v_rg1, Ly.k_rg, Ly.v_rg2, Ly.k_rg2, Ly.k_rg22, Ly.v_dicK, Ly.v_dicT, Ly.v_dc, Ly.k_dc, List.getElem?_cons_zero, List.getElem?_cons_succ, List.set_cons_zero, List.set_cons_succ, List.length_cons, List.length_nil, List.map_cons, List.map_nil, List.cons_append, List.nil_append, List.replicate, if_true, if_false, Bool.false_eq_true, Bool.not_true, Bool.not_false, Bool.true_and, Bool.false_and, decide_true, decide_false, decide_eq_true_eq, Nat.zero_add, Nat.reduceAdd, Nat.reduceLeDiff, true_and, and_true, $ls,*])
def DrG (S : Hs) (i j : Nat) : Prop := ∃ row, NxtA S i j row
section
variable {S S' g : Hs} {i j : Nat} {many : Int} {X : XP}
theorem DrG.new (d : DrG S i j) : DrG (S ++ g) i j := by obtain ⟨r, d⟩ := d; exact ⟨r, d.new⟩
theorem DrG.lt (d : DrG S i j) : i < S.length := by obtain ⟨r, d⟩ := d; exact d.lt
theorem DrG.ltj (d : DrG S i j) : j < S.length := by obtain ⟨r, d⟩ := d; exact d.ltj
theorem DrG.kp {A : List Nat} (d : DrG S i j) (k : Kp A S S') (hi : i ∉ A) (hj : j ∉ A) : DrG S' i j := by
  obtain ⟨r, a, d⟩ := d
  exact ⟨r, a, k.get d.d hi, k.get d.r hj, d.ne, d.nn⟩
theorem DrG.kp0 (d : DrG S i j) (k : Kp [] S S') : DrG S' i j := d.kp k (by simp) (by simp)
theorem nxG {Q : D → Hs → Prop} (d : DrG S i j) (hm : 0 < many) (h : ∀ (x : Nat) S', (x : Int) < many → DrG S' i j → Kp [i] S S' → Q (nD x) S') : Wp X (m_next [.ref i, .int many] S) Q := by
  obtain ⟨r, d⟩ := d
  refine Wp.call (next_ok d hm) ?_
  rintro _ S' ⟨x, rfl, h0, h1, d', k⟩
  rw [nat_of h0]
  exact h x.toNat S' (by omega) ⟨r, d'⟩ k
def DwG (i j : Nat) (S : Hs) (P : D → Prop) : D → Hs → Prop := fun v S' => P v ∧ DrG S' i j ∧ Kp [i] S S'
end
theorem lc_drawG {α : Type} {X : XP} {Q : D → Hs → Prop} {te : M} {l : Ls} {s : Nat} {lo : Int} {m : Nat} {S : Hs} {i j : Nat} (f : α → D) (P : Nat → α → Prop) (h : DrG S i j) (hm : m ≤ 1000000)
    (ht : ∀ k S', k < m → DrG S' i j → Kp [i] S S' → Wp NoX (te (l.set s (some (.int (lo + k)))) S') fun v S2 => ∃ x, v = f x ∧ P k x ∧ DrG S2 i j ∧ Kp [i] S' S2)
    (hd : ∀ (xs : List α) (S' : Hs), xs.length = m → (∀ k x, xs[k]? = some x → P k x) → S'[S.length]? = some (.lst (xs.map f)) → DrG S' i j → Kp [i] S S' → Q (.ref S.length) S') :
    Wp X (cLoop (.rng lo m) (cN s) mYes te l S.length 0 (S ++ [.lst []])) Q := by
  have hi := h.lt
  have hj := h.ltj
  refine wp_lcRng (fun k acc S' => ∃ xs : List α, acc = xs.map f ∧ xs.length = k ∧ (∀ k x, xs[k]? = some x → P k x) ∧ S'[S.length]? = some (.lst acc) ∧ DrG S' i j ∧ Kp [i] S S') ⟨[], rfl, rfl, by simp, by simp, h.new, Kp.new⟩ ?_ ?_
  · rintro k acc S' hk ⟨xs, rfl, hl, hp, hq, hn, hK⟩
    refine ⟨_, rfl, ?_⟩
    simp_arith []
    refine (ht k S' hk hn hK).mono (fun _ _ _ _ h => h) ?_
    rintro v S2 ⟨x, rfl, px, hn2, hK2⟩
    have hq2 := hK2.get hq (by simp; omega)
    refine ⟨hq2, by simp only [List.length_map]; exact line_big (by omega), xs ++ [x], by simp, by simp [hl], ?_, get_put hq2, hn2.kp (A := [S.length]) (Kp.set (by simp)) (by simp; omega) (by simp; omega), (hK.trans hK2).setNew (Nat.le_refl _)⟩
    intro k' x' e
    by_cases hk' : k' < xs.length
    · rw [List.getElem?_append_left hk'] at e; exact hp _ _ e
    · rw [List.getElem?_append_right (by omega)] at e
      have : k' - xs.length = 0 := by
        rcases Nat.eq_zero_or_pos (k' - xs.length) with z | z
        · exact z
        · rw [List.getElem?_eq_none (by simp; omega)] at e; cases e
      rw [this] at e
      simp at e
      subst e
      have : k' = k := by omega
      rw [this]; exact px
  · rintro acc S' ⟨xs, rfl, hl, hp, hq, hD, hK⟩
    exact hd xs S' hl hp hq hD hK
theorem contig_addG {b : Nat} {xs : List Rg} {r : Rg} (h : Contig b xs) (hb : r.base = b + sizes xs) (hs : 0 < r.size) : Contig b (xs ++ [r]) := by
  induction xs generalizing b with
  | nil => exact ⟨by simpa [sizes] using hb, hs, trivial⟩
  | cons x xs ih =>
    obtain ⟨h1, h2, h3⟩ := h
    exact ⟨h1, h2, ih h3 (by rw [hb]; simp [sizes]; omega)⟩
theorem sizes_addG {xs : List Rg} {r : Rg} : sizes (xs ++ [r]) = sizes xs + r.size := by simp [sizes]
section
variable {S S' : Hs} {i j : Nat}
def LabsG (regs : List Rg) : Prop := ∀ g ∈ regs, g.label = "public" ∨ g.label = "secret"
theorem regions_G (d : DrG S i j) : Wp NoX (m_regionsG [.ref i] S) (DwG i j S fun v => ∃ regs : List Rg, v = .tup (regs.map Rg.D) ∧ Contig 0 regs ∧ sizes regs ≤ 32 ∧ 0 < regs.length ∧ regs.length ≤ 4 ∧ LabsG regs) := by
  refine wp_def0 rfl ?_
  unfold b_regionsG
  simp_arith [Ly.v_fld, Ly.v_meth, Ly.k_me2, Ly.v_make, Ly.k_mk, Ly.v_fldset, Ly.k_fs, Ly.v_fldaug, Ly.k_fa2, Ly.look1, List.mem_cons, List.not_mem_nil, or_false, true_or, or_true, -v_for]
  have hdl := d.lt
  have hdj := d.ltj
  simp_arith [Ly.v_fld, Ly.v_meth, Ly.k_me2, Ly.v_make, Ly.k_mk, Ly.v_fldset, Ly.k_fs, Ly.v_fldaug, Ly.k_fa2, Ly.look1, List.mem_cons, List.not_mem_nil, or_false, true_or, or_true, -v_for, v_for]
  refine nxG d.new (by decide) fun p S1 hp d1 k1 => ?_
  have hq : S1[S.length]? = some (.lst []) := k1.get (i := S.length) (by simp) (by simp; omega)
  simp_arith [Ly.v_fld, Ly.v_meth, Ly.k_me2, Ly.v_make, Ly.k_mk, Ly.v_fldset, Ly.k_fs, Ly.v_fldaug, Ly.k_fa2, Ly.look1, List.mem_cons, List.not_mem_nil, or_false, true_or, or_true, oAdd_int, show oRng1 [.int (1 + (p : Int))] S1 = _ from rng1 _ (by omega) (by omega)]
  rw [show (1 + (p : Int)).toNat = 1 + p by omega]
  refine wp_rng (fun k l S' => ∃ (regs : List Rg) (o3 o4 : Option D), l = [some (.ref i), some (.ref S.length), some (nD (sizes regs)), o3, o4] ∧ S'[S.length]? = some (.lst (regs.map Rg.D)) ∧ DrG S' i j ∧ Kp [i] S S' ∧ Contig 0 regs ∧ sizes regs ≤ 8 * k ∧ regs.length = k ∧ LabsG regs) ⟨[], none, none, rfl, hq, d1, Kp.new.trans k1, trivial, by simp [sizes], rfl, fun g h => by cases h⟩ ?_ ?_
  · rintro k l S' hk ⟨regs, o3, o4, rfl, hq', d', K', hc, hsz, hln, hlab⟩
    unfold lb_regions_0G
    simp_arith [Ly.v_fld, Ly.v_meth, Ly.k_me2, Ly.v_make, Ly.k_mk, Ly.v_fldset, Ly.k_fs, Ly.v_fldaug, Ly.k_fa2, Ly.look1, List.mem_cons, List.not_mem_nil, or_false, true_or, or_true, oAdd_int]
    have hq1 : (S' ++ [O.lst [.int 1, .int 2, .int 4, .int 8, .int 3]])[S.length]? = some (.lst (regs.map Rg.D)) := Kp.get (A := []) Kp.new hq' (by simp)
    refine nxG d'.new (by decide) fun y S3 hy d3 k3 => ?_
    have h3l := d'.lt
    have hq3 := k3.get hq1 (by simp; omega)
    have hz : S3[S'.length]? = some (.lst [.int 1, .int 2, .int 4, .int 8, .int 3]) := k3.get (i := S'.length) (by simp) (by simp; omega)
    obtain ⟨m, hm, h0, h31⟩ : ∃ m : Nat, ([.int 1, .int 2, .int 4, .int 8, .int 3] : List D)[y]? = some (nD m) ∧ 0 < m ∧ m ≤ 8 := by
      rcases (show y = 0 ∨ y = 1 ∨ y = 2 ∨ y = 3 ∨ y = 4 by omega) with rfl | rfl | rfl | rfl | rfl
      · exact ⟨1, rfl, by decide, by decide⟩
      · exact ⟨2, rfl, by decide, by decide⟩
      · exact ⟨4, rfl, by decide, by decide⟩
      · exact ⟨8, rfl, by decide, by decide⟩
      · exact ⟨3, rfl, by decide, by decide⟩
    simp_arith [Ly.v_fld, Ly.v_meth, Ly.k_me2, Ly.v_make, Ly.k_mk, Ly.v_fldset, Ly.k_fs, Ly.v_fldaug, Ly.k_fa2, Ly.look1, List.mem_cons, List.not_mem_nil, or_false, true_or, or_true, oIx_lst hz (Int.natCast_nonneg y) (by simp; omega) hm, hasTy_lst hq3]
    refine nxG d3.new (by decide) fun z S4 hz d4 k4 => ?_
    have hq4 := k4.get (i := S.length) (o := .lst (regs.map Rg.D)) (by rw [List.getElem?_append_left (Real.lt hq3)]; exact hq3) (by simp; omega)
    have hzz : S4[S3.length]? = some (.lst [.str "public", .str "secret"]) := k4.get (i := S3.length) (by simp) (by have := d3.lt; simp; omega)
    obtain ⟨lb, hlb, hlb2⟩ : ∃ lb : Str, ([.str "public", .str "secret"] : List D)[z]? = some (.str lb) ∧ (lb = "public" ∨ lb = "secret") := by
      rcases (show z = 0 ∨ z = 1 by omega) with rfl | rfl
      · exact ⟨_, rfl, .inl rfl⟩
      · exact ⟨_, rfl, .inr rfl⟩
    have e1 : ((sizes regs : Nat) : Int) + (m : Int) = ((sizes regs + m : Nat) : Int) := by omega
    simp_arith [Ly.v_fld, Ly.v_meth, Ly.k_me2, Ly.v_make, Ly.k_mk, Ly.v_fldset, Ly.k_fs, Ly.v_fldaug, Ly.k_fa2, Ly.look1, List.mem_cons, List.not_mem_nil, or_false, true_or, or_true, oIx_lst hzz (Int.natCast_nonneg z) (by simp; omega) hlb, oAppend_lst hq4 (by simp only [List.length_map]; exact line_big (by omega)), oIAdd, oAdd_int, e1]
    have K4 : Kp [i] S S4 := K'.trans (Kp.new.trans (k3.trans (Kp.new.trans k4)))
    refine ⟨regs ++ [⟨sizes regs, m, lb⟩], _, _, by rw [sizes_addG], ?_, d4.kp (A := [S.length]) (Kp.set (by simp)) (by simp; omega) (by simp; omega), K4.setNew (Nat.le_refl _), contig_addG hc (by simp) h0, by rw [sizes_addG]; simp only; omega, by simp [hln], fun g hg => ?_⟩
    · rw [get_put hq4]; simp [Rg.D]
    · rcases List.mem_append.mp hg with h | h
      · exact hlab g h
      · rw [List.mem_singleton.mp h]; exact hlb2
  · rintro l S' ⟨regs, o3, o4, rfl, hq', d', K', hc, hsz, hln, hlab⟩
    simp_arith [Ly.v_fld, Ly.v_meth, Ly.k_me2, Ly.v_make, Ly.k_mk, Ly.v_fldset, Ly.k_fs, Ly.v_fldaug, Ly.k_fa2, Ly.look1, List.mem_cons, List.not_mem_nil, or_false, true_or, or_true, bTuple_lst hq']
    exact ⟨⟨regs, rfl, hc, by omega, by omega, by omega, hlab⟩, d', K'⟩
theorem span_G (d : DrG S i j) {regs : List Rg} (hc : Contig 0 regs) (hs : sizes regs ≤ 32) (hp : 0 < regs.length) (hl : regs.length ≤ 4) : Wp NoX (m_spanG [.ref i, .tup (regs.map Rg.D)] S) (DwG i j S fun v => ∃ b m : Nat, v = .tup [nD b, nD m] ∧ b ≤ 100 ∧ m ≤ 7) := by
  refine wp_def0 rfl ?_
  unfold b_spanG
  rw [v_seq]
  simp_arith [Ly.v_fld, Ly.v_meth, Ly.k_me2, Ly.v_make, Ly.k_mk, Ly.v_fldset, Ly.k_fs, Ly.v_fldaug, Ly.k_fa2, Ly.look1, List.mem_cons, List.not_mem_nil, or_false, true_or, or_true, bLen_tup, List.length_map, -v_seq]
  refine nxG d (by omega) fun p S1 hp1 d1 k1 => ?_
  have hpl : p < regs.length := by omega
  have hg : regs[p]? = some regs[p] := List.getElem?_eq_getElem hpl
  have hb := contig_bound hc regs[p] (List.getElem_mem hpl)
  have h0 := (contig_baseJ hc hg).2
  generalize regs[p] = g at *
  simp_arith [Ly.v_fld, Ly.v_meth, Ly.k_me2, Ly.v_make, Ly.k_mk, Ly.v_fldset, Ly.k_fs, Ly.v_fldaug, Ly.k_fa2, Ly.look1, List.mem_cons, List.not_mem_nil, or_false, true_or, or_true, ixMap hg, Rg.D, -v_seq]
  rw [v_seq]
  simp_arith [Ly.v_fld, Ly.v_meth, Ly.k_me2, Ly.v_make, Ly.k_mk, Ly.v_fldset, Ly.k_fs, Ly.v_fldaug, Ly.k_fa2, Ly.look1, List.mem_cons, List.not_mem_nil, or_false, true_or, or_true, -v_seq]
  refine nxG d1.new (by decide) fun y S2 hy d2 k2 => ?_
  have hi1 := d1.lt
  have hz : S2[S1.length]? = some (.lst [.int 0, .int 0, .int 1, .int 3, .int 7]) := k2.get (i := S1.length) (by simp) (by simp; omega)
  obtain ⟨m, hm, h31⟩ : ∃ m : Nat, ([.int 0, .int 0, .int 1, .int 3, .int 7] : List D)[y]? = some (nD m) ∧ m ≤ 7 := by
    rcases (show y = 0 ∨ y = 1 ∨ y = 2 ∨ y = 3 ∨ y = 4 by omega) with rfl | rfl | rfl | rfl | rfl
    · exact ⟨0, rfl, by decide⟩
    · exact ⟨0, rfl, by decide⟩
    · exact ⟨1, rfl, by decide⟩
    · exact ⟨3, rfl, by decide⟩
    · exact ⟨7, rfl, by decide⟩
  simp_arith [Ly.v_fld, Ly.v_meth, Ly.k_me2, Ly.v_make, Ly.k_mk, Ly.v_fldset, Ly.k_fs, Ly.v_fldaug, Ly.k_fa2, Ly.look1, List.mem_cons, List.not_mem_nil, or_false, true_or, or_true, oIx_lst hz (Int.natCast_nonneg y) (by simp; omega) hm, -v_seq]
  rw [v_seq]
  simp_arith [Ly.v_fld, Ly.v_meth, Ly.k_me2, Ly.v_make, Ly.k_mk, Ly.v_fldset, Ly.k_fs, Ly.v_fldaug, Ly.k_fa2, Ly.look1, List.mem_cons, List.not_mem_nil, or_false, true_or, or_true, -v_seq]
  refine nxG d2 (by decide) fun z S3 hz3 d3 k3 => ?_
  have K3 : Kp [i] S S3 := k1.trans (Kp.new.trans (k2.trans k3))
  simp_arith [Ly.v_fld, Ly.v_meth, Ly.k_me2, Ly.v_make, Ly.k_mk, Ly.v_fldset, Ly.k_fs, Ly.v_fldaug, Ly.k_fa2, Ly.look1, List.mem_cons, List.not_mem_nil, or_false, true_or, or_true, oGt_int, -v_seq]
  by_cases hz0 : (0 : Int) < (z : Int)
  · rw [if_pos (by simpa using hz0)]
    rw [v_seq]
    refine wp_while (fun n l S' => ∃ m : Nat, n = m ∧ m ≤ 7 ∧ l = [some (.ref i), some (.tup (regs.map Rg.D)), some (nD g.base), some (nD g.size), some (.str g.label), some (nD m)] ∧ S' = S3) ?_ m _ _ ⟨m, rfl, h31, rfl, rfl⟩
    rintro n l S' ⟨m, rfl, hm7, rfl, rfl⟩
    unfold c_span_0G lb_span_1G
    simp_arith [Ly.v_fld, Ly.v_meth, Ly.k_me2, Ly.v_make, Ly.k_mk, Ly.v_fldset, Ly.k_fs, Ly.v_fldaug, Ly.k_fa2, Ly.look1, List.mem_cons, List.not_mem_nil, or_false, true_or, or_true, oGe_int]
    by_cases hge : g.size ≤ n
    · have e2 : ((n : Int) / 2) = ((n / 2 : Nat) : Int) := by omega
      rw [if_pos (by simpa using hge)]
      simp_arith [Ly.v_fld, Ly.v_meth, Ly.k_me2, Ly.v_make, Ly.k_mk, Ly.v_fldset, Ly.k_fs, Ly.v_fldaug, Ly.k_fa2, Ly.look1, List.mem_cons, List.not_mem_nil, or_false, true_or, or_true, oFdiv_int (show (0:Int) < 2 by decide) (show Nat.log2 2 < 9000 by decide), e2]
      exact ⟨n / 2, by omega, n / 2, rfl, by omega, rfl⟩
    · have e2 : ((g.size : Int) - (n : Int)) = ((g.size - n : Nat) : Int) := by omega
      rw [if_neg (by simpa using hge)]
      simp_arith [Ly.v_fld, Ly.v_meth, Ly.k_me2, Ly.v_make, Ly.k_mk, Ly.v_fldset, Ly.k_fs, Ly.v_fldaug, Ly.k_fa2, Ly.look1, List.mem_cons, List.not_mem_nil, or_false, true_or, or_true, oSub_int]
      refine nxG d3 (by omega) fun x S4 hx d4 k4 => ?_
      have e3 : (g.base : Int) + (x : Int) = ((g.base + x : Nat) : Int) := by omega
      simp_arith [Ly.v_fld, Ly.v_meth, Ly.k_me2, Ly.v_make, Ly.k_mk, Ly.v_fldset, Ly.k_fs, Ly.v_fldaug, Ly.k_fa2, Ly.look1, List.mem_cons, List.not_mem_nil, or_false, true_or, or_true, oAdd_int, e3]
      exact ⟨⟨_, _, rfl, by omega, hm7⟩, d4, K3.trans k4⟩
  · rw [if_neg (by simpa using hz0)]
    refine nxG d3 (by decide) fun x S4 hx d4 k4 => ?_
    simp_arith [Ly.v_fld, Ly.v_meth, Ly.k_me2, Ly.v_make, Ly.k_mk, Ly.v_fldset, Ly.k_fs, Ly.v_fldaug, Ly.k_fa2, Ly.look1, List.mem_cons, List.not_mem_nil, or_false, true_or, or_true]
    exact ⟨⟨_, _, rfl, by omega, h31⟩, d4, K3.trans k4⟩
theorem row_G (d : DrG S i j) {regs : List Rg} (hc : Contig 0 regs) (hs : sizes regs ≤ 32) (hp : 0 < regs.length) (hl : regs.length ≤ 4) {many : Nat} (hm : 0 < many) : Wp NoX (m_rowG [.ref i, .tup (regs.map Rg.D), nD many] S) (DwG i j S fun v => ∃ r : MRow, v = r.D ∧ r.ok many) := by
  have hmi : (0 : Int) < (many : Int) := by omega
  refine wp_def0 rfl ?_
  unfold b_rowG
  simp_arith [Ly.v_fld, Ly.v_meth, Ly.k_me2, Ly.v_make, Ly.k_mk, Ly.v_fldset, Ly.k_fs, Ly.v_fldaug, Ly.k_fa2, Ly.look1, List.mem_cons, List.not_mem_nil, or_false, true_or, or_true]
  refine nxG d (by decide) fun t S1 ht d1 k1 => ?_
  simp_arith [Ly.v_fld, Ly.v_meth, Ly.k_me2, Ly.v_make, Ly.k_mk, Ly.v_fldset, Ly.k_fs, Ly.v_fldaug, Ly.k_fa2, Ly.look1, List.mem_cons, List.not_mem_nil, or_false, true_or, or_true]
  refine nxG d1 (by decide) fun dd S2 hdd d2 k2 => ?_
  simp_arith [Ly.v_fld, Ly.v_meth, Ly.k_me2, Ly.v_make, Ly.k_mk, Ly.v_fldset, Ly.k_fs, Ly.v_fldaug, Ly.k_fa2, Ly.look1, List.mem_cons, List.not_mem_nil, or_false, true_or, or_true]
  refine nxG d2 (by decide) fun a S3 ha d3 k3 => ?_
  simp_arith [Ly.v_fld, Ly.v_meth, Ly.k_me2, Ly.v_make, Ly.k_mk, Ly.v_fldset, Ly.k_fs, Ly.v_fldaug, Ly.k_fa2, Ly.look1, List.mem_cons, List.not_mem_nil, or_false, true_or, or_true]
  refine nxG d3 (by decide) fun b S4 hb d4 k4 => ?_
  have K4 : Kp [i] S S4 := k1.trans (k2.trans (k3.trans k4))
  clear k1 k2 k3 k4 d1 d2 d3
  by_cases h1 : (t : Int) < 2
  · simp_arith [Ly.v_fld, Ly.v_meth, Ly.k_me2, Ly.v_make, Ly.k_mk, Ly.v_fldset, Ly.k_fs, Ly.v_fldaug, Ly.k_fa2, Ly.look1, List.mem_cons, List.not_mem_nil, or_false, true_or, or_true, oLt_int, h1]
    refine nxG d4 (by decide) fun x1 S5 hx1 d5 k5 => ?_
    simp_arith [Ly.v_fld, Ly.v_meth, Ly.k_me2, Ly.v_make, Ly.k_mk, Ly.v_fldset, Ly.k_fs, Ly.v_fldaug, Ly.k_fa2, Ly.look1, List.mem_cons, List.not_mem_nil, or_false, true_or, or_true]
    refine nxG d5 (by decide) fun x2 S6 hx2 d6 k6 => ?_
    simp_arith [Ly.v_fld, Ly.v_meth, Ly.k_me2, Ly.v_make, Ly.k_mk, Ly.v_fldset, Ly.k_fs, Ly.v_fldaug, Ly.k_fa2, Ly.look1, List.mem_cons, List.not_mem_nil, or_false, true_or, or_true, oSub_int]
    refine nxG d6 (by decide) fun x3 S7 hx3 d7 k7 => ?_
    simp_arith [Ly.v_fld, Ly.v_meth, Ly.k_me2, Ly.v_make, Ly.k_mk, Ly.v_fldset, Ly.k_fs, Ly.v_fldaug, Ly.k_fa2, Ly.look1, List.mem_cons, List.not_mem_nil, or_false, true_or, or_true, oMul_int (mulok_r (show Int.natAbs 4771117 < 2 ^ 64 by decide))]
    refine nxG d7.new (by decide) fun x4 S8 hx4 d8 k8 => ?_
    have h7 := d7.lt
    have hz : S8[S7.length]? = some (.lst [nD x1, .int (4294967295 - (x2 : Int)), .int ((x3 : Int) * 4771117)]) := k8.get (i := S7.length) (by simp) (by simp; omega)
    obtain ⟨w, hw, hlt⟩ : ∃ w : Nat, ([nD x1, .int (4294967295 - (x2 : Int)), .int ((x3 : Int) * 4771117)] : List D)[x4]? = some (nD w) ∧ w < 4294967296 := by
      rcases (show x4 = 0 ∨ x4 = 1 ∨ x4 = 2 by omega) with rfl | rfl | rfl
      · exact ⟨x1, rfl, by omega⟩
      · exact ⟨4294967295 - x2, by simp [nD]; omega, by omega⟩
      · exact ⟨x3 * 4771117, by simp [nD], by omega⟩
    simp_arith [Ly.v_fld, Ly.v_meth, Ly.k_me2, Ly.v_make, Ly.k_mk, Ly.v_fldset, Ly.k_fs, Ly.v_fldaug, Ly.k_fa2, Ly.look1, List.mem_cons, List.not_mem_nil, or_false, true_or, or_true, oIx_lst hz (Int.natCast_nonneg x4) (by simp; omega) hw]
    exact ⟨⟨.const dd w, rfl, by omega, hlt⟩, d8, K4.trans (k5.trans (k6.trans (k7.trans (Kp.new.trans k8))))⟩
  by_cases h2 : (t : Int) < 6
  · simp_arith [Ly.v_fld, Ly.v_meth, Ly.k_me2, Ly.v_make, Ly.k_mk, Ly.v_fldset, Ly.k_fs, Ly.v_fldaug, Ly.k_fa2, Ly.look1, List.mem_cons, List.not_mem_nil, or_false, true_or, or_true, oLt_int, h1, h2]
    refine nxG d4.new (by decide) fun y S5 hy d5 k5 => ?_
    have h4 := d4.lt
    have hz : S5[S4.length]? = some (.lst (signsL.map D.str)) := k5.get (i := S4.length) (by simp [signsL]) (by simp; omega)
    have hyl : y < signsL.length := by simp [signsL]; omega
    have hw : (signsL.map D.str)[y]? = some (.str signsL[y]) := by rw [List.getElem?_map, List.getElem?_eq_getElem hyl]; rfl
    have hmem : signsL[y] ∈ signsL := List.getElem_mem hyl
    generalize signsL[y] = sg at *
    simp_arith [Ly.v_fld, Ly.v_meth, Ly.k_me2, Ly.v_make, Ly.k_mk, Ly.v_fldset, Ly.k_fs, Ly.v_fldaug, Ly.k_fa2, Ly.look1, List.mem_cons, List.not_mem_nil, or_false, true_or, or_true, oIx_lst hz (Int.natCast_nonneg y) (by simp [signsL]; omega) hw]
    exact ⟨⟨.op sg dd a b, rfl, hmem, by omega, by omega, by omega⟩, d5, K4.trans (Kp.new.trans k5)⟩
  by_cases h3 : (t : Int) = 6
  · simp_arith [Ly.v_fld, Ly.v_meth, Ly.k_me2, Ly.v_make, Ly.k_mk, Ly.v_fldset, Ly.k_fs, Ly.v_fldaug, Ly.k_fa2, Ly.look1, List.mem_cons, List.not_mem_nil, or_false, true_or, or_true, oLt_int, h1, h2, oEq_int, h3]
    refine nxG d4 (by decide) fun y S5 hy d5 k5 => ?_
    simp_arith [Ly.v_fld, Ly.v_meth, Ly.k_me2, Ly.v_make, Ly.k_mk, Ly.v_fldset, Ly.k_fs, Ly.v_fldaug, Ly.k_fa2, Ly.look1, List.mem_cons, List.not_mem_nil, or_false, true_or, or_true]
    exact ⟨⟨.select dd y a b, rfl, by omega, by omega, by omega, by omega⟩, d5, K4.trans k5⟩
  by_cases h4 : (t : Int) < 9
  · simp_arith [Ly.v_fld, Ly.v_meth, Ly.k_me2, Ly.v_make, Ly.k_mk, Ly.v_fldset, Ly.k_fs, Ly.v_fldaug, Ly.k_fa2, Ly.look1, List.mem_cons, List.not_mem_nil, or_false, true_or, or_true, oLt_int, h1, h2, oEq_int, h3, h4]
    refine Wp.call (span_G d4 hc hs hp hl) ?_
    rintro _ S5 ⟨⟨ba, mk, rfl, hb1, hb2⟩, d5, k5⟩
    simp_arith [Ly.v_fld, Ly.v_meth, Ly.k_me2, Ly.v_make, Ly.k_mk, Ly.v_fldset, Ly.k_fs, Ly.v_fldaug, Ly.k_fa2, Ly.look1, List.mem_cons, List.not_mem_nil, or_false, true_or, or_true]
    exact ⟨⟨.load dd a ba mk, rfl, by omega, by omega, by omega, by omega⟩, d5, K4.trans k5⟩
  by_cases h5 : (t : Int) < 11
  · simp_arith [Ly.v_fld, Ly.v_meth, Ly.k_me2, Ly.v_make, Ly.k_mk, Ly.v_fldset, Ly.k_fs, Ly.v_fldaug, Ly.k_fa2, Ly.look1, List.mem_cons, List.not_mem_nil, or_false, true_or, or_true, oLt_int, h1, h2, oEq_int, h3, h4, h5]
    refine Wp.call (span_G d4 hc hs hp hl) ?_
    rintro _ S5 ⟨⟨ba, mk, rfl, hb1, hb2⟩, d5, k5⟩
    simp_arith [Ly.v_fld, Ly.v_meth, Ly.k_me2, Ly.v_make, Ly.k_mk, Ly.v_fldset, Ly.k_fs, Ly.v_fldaug, Ly.k_fa2, Ly.look1, List.mem_cons, List.not_mem_nil, or_false, true_or, or_true]
    exact ⟨⟨.store a ba mk b, rfl, by omega, by omega, by omega, by omega⟩, d5, K4.trans k5⟩
  by_cases h6 : (t : Int) = 11
  · simp_arith [Ly.v_fld, Ly.v_meth, Ly.k_me2, Ly.v_make, Ly.k_mk, Ly.v_fldset, Ly.k_fs, Ly.v_fldaug, Ly.k_fa2, Ly.look1, List.mem_cons, List.not_mem_nil, or_false, true_or, or_true, oLt_int, h1, h2, oEq_int, h3, h4, h5, h6]
    exact ⟨⟨.out a, rfl, by show a < 16; omega⟩, d4, K4⟩
  by_cases h7 : (t : Int) = 12
  · simp_arith [Ly.v_fld, Ly.v_meth, Ly.k_me2, Ly.v_make, Ly.k_mk, Ly.v_fldset, Ly.k_fs, Ly.v_fldaug, Ly.k_fa2, Ly.look1, List.mem_cons, List.not_mem_nil, or_false, true_or, or_true, oLt_int, h1, h2, oEq_int, h3, h4, h5, h6, h7]
    refine nxG d4 hmi fun y S5 hy d5 k5 => ?_
    simp_arith [Ly.v_fld, Ly.v_meth, Ly.k_me2, Ly.v_make, Ly.k_mk, Ly.v_fldset, Ly.k_fs, Ly.v_fldaug, Ly.k_fa2, Ly.look1, List.mem_cons, List.not_mem_nil, or_false, true_or, or_true]
    exact ⟨⟨.branch a y, rfl, by omega, by omega⟩, d5, K4.trans k5⟩
  simp_arith [Ly.v_fld, Ly.v_meth, Ly.k_me2, Ly.v_make, Ly.k_mk, Ly.v_fldset, Ly.k_fs, Ly.v_fldaug, Ly.k_fa2, Ly.look1, List.mem_cons, List.not_mem_nil, or_false, true_or, or_true, oLt_int, h1, h2, oEq_int, h3, h4, h5, h6, h7]
  refine nxG d4 hmi fun y S5 hy d5 k5 => ?_
  simp_arith [Ly.v_fld, Ly.v_meth, Ly.k_me2, Ly.v_make, Ly.k_mk, Ly.v_fldset, Ly.k_fs, Ly.v_fldaug, Ly.k_fa2, Ly.look1, List.mem_cons, List.not_mem_nil, or_false, true_or, or_true]
  refine nxG d5.new (by decide) fun z S6 hz6 d6 k6 => ?_
  have h5l := d5.lt
  have hz : S6[S5.length]? = some (.lst [(MRow.jump y).D, (MRow.stop a).D, (MRow.const dd 1).D]) := k6.get (i := S5.length) (by simp [MRow.D, nD]) (by simp; omega)
  obtain ⟨r, hw, hok⟩ : ∃ r : MRow, ([(MRow.jump y).D, (MRow.stop a).D, (MRow.const dd 1).D] : List D)[z]? = some r.D ∧ r.ok many := by
    rcases (show z = 0 ∨ z = 1 ∨ z = 2 by omega) with rfl | rfl | rfl
    · exact ⟨.jump y, rfl, by show y < many; omega⟩
    · exact ⟨.stop a, rfl, by show a < 16; omega⟩
    · exact ⟨.const dd 1, rfl, by omega, by decide⟩
  simp_arith [Ly.v_fld, Ly.v_meth, Ly.k_me2, Ly.v_make, Ly.k_mk, Ly.v_fldset, Ly.k_fs, Ly.v_fldaug, Ly.k_fa2, Ly.look1, List.mem_cons, List.not_mem_nil, or_false, true_or, or_true, oIx_lst hz (Int.natCast_nonneg z) (by simp; omega) hw]
  exact ⟨⟨r, rfl, hok⟩, d6, K4.trans (k5.trans (Kp.new.trans k6))⟩
structure CodeG (regs : List Rg) (rows : List MRow) : Prop where
  ok : CodeOk regs rows
  few : regs.length ≤ 4
  short : rows.length ≤ 17
  lab : LabsG regs
theorem code_G (d : DrG S i j) : Wp NoX (m_codeG [.ref i] S) (DwG i j S fun v => ∃ regs rows, v = codeD regs rows ∧ CodeG regs rows) := by
  refine wp_def0 rfl ?_
  unfold b_codeG
  simp_arith [Ly.v_fld, Ly.v_meth, Ly.k_me2, Ly.v_make, Ly.k_mk, Ly.v_fldset, Ly.k_fs, Ly.v_fldaug, Ly.k_fa2, Ly.look1, List.mem_cons, List.not_mem_nil, or_false, true_or, or_true]
  refine Wp.call (regions_G d) ?_
  rintro _ S1 ⟨⟨regs, rfl, hc, hsz, hpos, hfew, hlab⟩, d1, k1⟩
  simp_arith [Ly.v_fld, Ly.v_meth, Ly.k_me2, Ly.v_make, Ly.k_mk, Ly.v_fldset, Ly.k_fs, Ly.v_fldaug, Ly.k_fa2, Ly.look1, List.mem_cons, List.not_mem_nil, or_false, true_or, or_true]
  refine nxG d1 (by decide) fun x S3 hx d3 k3 => ?_
  have e : (2 : Int) + (x : Int) = ((2 + x : Nat) : Int) := by omega
  have e2 : ((2 + x : Nat) : Int) - 1 = ((1 + x : Nat) : Int) := by omega
  simp_arith [Ly.v_fld, Ly.v_meth, Ly.k_me2, Ly.v_make, Ly.k_mk, Ly.v_fldset, Ly.k_fs, Ly.v_fldaug, Ly.k_fa2, Ly.look1, List.mem_cons, List.not_mem_nil, or_false, true_or, or_true, oAdd_int, e, oSub_int, e2, show oRng1 [.int ((1 + x : Nat) : Int)] S3 = _ from rng1 _ (by omega) (by omega), wipe1, Int.toNat_natCast]
  refine lc_drawG (i := i) (j := j) MRow.D (fun _ r => r.ok (2 + x)) d3 (by omega) ?_ ?_
  · intro k S' hk d' k'
    simp_arith [Ly.v_fld, Ly.v_meth, Ly.k_me2, Ly.v_make, Ly.k_mk, Ly.v_fldset, Ly.k_fs, Ly.v_fldaug, Ly.k_fa2, Ly.look1, List.mem_cons, List.not_mem_nil, or_false, true_or, or_true]
    refine Wp.call (row_G d' hc hsz hpos hfew (many := 2 + x) (by omega)) ?_
    rintro _ S4 ⟨⟨r, rfl, hr⟩, d4, k4⟩
    exact ⟨r, rfl, hr, d4, k4⟩
  · intro rows S4 hln hok hq4 d4 k4
    have K4 : Kp [i] S S4 := k1.trans (k3.trans k4)
    have i3 := d3.lt
    have j3 := d3.ltj
    simp_arith [Ly.v_fld, Ly.v_meth, Ly.k_me2, Ly.v_make, Ly.k_mk, Ly.v_fldset, Ly.k_fs, Ly.v_fldaug, Ly.k_fa2, Ly.look1, List.mem_cons, List.not_mem_nil, or_false, true_or, or_true]
    refine nxG d4 (by decide) fun y S5 hy d5 k5 => ?_
    simp_arith [Ly.v_fld, Ly.v_meth, Ly.k_me2, Ly.v_make, Ly.k_mk, Ly.v_fldset, Ly.k_fs, Ly.v_fldaug, Ly.k_fa2, Ly.look1, List.mem_cons, List.not_mem_nil, or_false, true_or, or_true]
    refine nxG d5 (by omega) fun z S6 hz d6 k6 => ?_
    simp_arith [Ly.v_fld, Ly.v_meth, Ly.k_me2, Ly.v_make, Ly.k_mk, Ly.v_fldset, Ly.k_fs, Ly.v_fldaug, Ly.k_fa2, Ly.look1, List.mem_cons, List.not_mem_nil, or_false, true_or, or_true]
    refine nxG d6.new (by decide) fun u S7 hu d7 k7 => ?_
    have h6l := d6.lt
    have hq7 : S7[S3.length]? = some (.lst (rows.map MRow.D)) := k7.get (i := S3.length) (Kp.get (A := []) Kp.new (k6.get (k5.get hq4 (by simp; omega)) (by simp; omega)) (by simp)) (by simp; omega)
    have hz : S7[S6.length]? = some (.lst [(MRow.stop y).D, (MRow.jump z).D]) := k7.get (i := S6.length) (by simp [MRow.D, nD]) (by simp; omega)
    have e4 : ((u : Int) / 3) = ((u / 3 : Nat) : Int) := by omega
    obtain ⟨r, hw, hr1, hr2⟩ : ∃ r : MRow, ([(MRow.stop y).D, (MRow.jump z).D] : List D)[u / 3]? = some r.D ∧ r.ok (2 + x) ∧ r.last = true := by
      rcases (show u / 3 = 0 ∨ u / 3 = 1 by omega) with h | h <;> rw [h]
      · exact ⟨.stop y, rfl, by show y < 16; omega, rfl⟩
      · exact ⟨.jump z, rfl, by show z < 2 + x; omega, rfl⟩
    simp_arith [Ly.v_fld, Ly.v_meth, Ly.k_me2, Ly.v_make, Ly.k_mk, Ly.v_fldset, Ly.k_fs, Ly.v_fldaug, Ly.k_fa2, Ly.look1, List.mem_cons, List.not_mem_nil, or_false, true_or, or_true, oFdiv_int (show (0:Int) < 3 by decide) (show Nat.log2 3 < 9000 by decide), e4, oIx_lst hz (Int.natCast_nonneg _) (by simp; omega) hw]
    have hq8 : (S7 ++ [O.lst [r.D]])[S3.length]? = some (.lst (rows.map MRow.D)) := Kp.get (A := []) Kp.new hq7 (by simp)
    have hr8 : (S7 ++ [O.lst [r.D]])[S7.length]? = some (.lst [r.D]) := get_end
    simp_arith [Ly.v_fld, Ly.v_meth, Ly.k_me2, Ly.v_make, Ly.k_mk, Ly.v_fldset, Ly.k_fs, Ly.v_fldaug, Ly.k_fa2, Ly.look1, List.mem_cons, List.not_mem_nil, or_false, true_or, or_true, oAdd_lst hq8 hr8 (by simp; exact line_le (by omega))]
    rw [show ∀ T : Hs, ∀ o : O, bTuple [.ref T.length] (T ++ [o]) = (match o with | .lst ds => .ok (.tup ds) (T ++ [o]) | _ => bTuple [.ref T.length] (T ++ [o])) from fun T o => by cases o <;> first | rfl | exact bTuple_lst get_end]
    simp_arith [Ly.v_fld, Ly.v_meth, Ly.k_me2, Ly.v_make, Ly.k_mk, Ly.v_fldset, Ly.k_fs, Ly.v_fldaug, Ly.k_fa2, Ly.look1, List.mem_cons, List.not_mem_nil, or_false, true_or, or_true]
    refine ⟨⟨regs, rows ++ [r], by simp [codeD], ⟨⟨hc, by omega, ?_, by simp, by simp; omega, ?_⟩, hfew, by simp; omega, hlab⟩⟩, d7.new.new, (K4.trans (k5.trans (k6.trans (Kp.new.trans k7)))).app.app⟩
    · intro r' hr'
      have hl : (rows ++ [r]).length = 2 + x := by simp [hln]; omega
      rw [hl]
      rcases List.mem_append.mp hr' with h | h
      · obtain ⟨n, hn⟩ := List.getElem?_of_mem h
        exact hok n r' hn
      · rw [List.mem_singleton.mp h]; exact hr1
    · intro r' hr'
      rw [show (rows ++ [r]).length - 1 = rows.length by simp, List.getElem?_append_right (Nat.le_refl _), Nat.sub_self] at hr'
      simp at hr'
      rw [← hr']; exact hr2
end
end Ly
set_option Elab.async false
set_option linter.all false
set_option maxRecDepth 100000
namespace Ly
open PySem PySem.Spec L2
open PyProof.Rows hiding St
local macro_rules | `(tactic| simp_arith [$ls,*]) => `(tactic| simp only [Ly.line_le, Ly.atX_no, Ly.v_ok, Ly.v_bad, Ly.v_bind, Ly.k_bd, Ly.v_at, Ly.v_bin, Ly.k_bi, Ly.k_bi2, Ly.v_var, Ly.v_c, Ly.v_un, Ly.k_un, Ly.v_if, Ly.k_ife, Ly.v_and, Ly.k_and, Ly.k_and2, Ly.v_or, Ly.k_or, Ly.k_or2, Ly.v_tup, Ly.k_tup, Ly.v_lst, Ly.k_lst, Ly.v_call, Ly.k_ca, Ly.v_fn, Ly.k_fn, Ly.v_bm, Ly.k_bm, Ly.k_bm2, Ly.v_sl, Ly.k_sl, Ly.k_sl2, Ly.k_sl3, Ly.v_ixK, Ly.k_ixk, Ly.v_inK, Ly.k_ink, Ly.v_notinK, Ly.k_nink, Ly.v_getK2, Ly.k_gk2, Ly.k_gk, Ly.v_get2, Ly.k_g2, Ly.k_g22, Ly.k_g23, Ly.v_nil, Ly.v_cons, Ly.k_co, Ly.k_co2, Ly.v_no, Ly.v_some, Ly.k_so, Ly.k_cm, Ly.v_cmp, Ly.v_tru, Ly.k_tr, Ly.v_notB, Ly.k_no, Ly.v_andB, Ly.k_an, Ly.v_orB, Ly.k_orb, Ly.v_yes, Ly.v_inKB, Ly.k_inkB, Ly.v_notinKB, Ly.k_ninkB, Ly.v_set, Ly.k_st, Ly.v_expr, Ly.k_ex, Ly.v_ret, Ly.k_re, Ly.v_retN, Ly.v_pass, Ly.v_brk, Ly.v_cnt, Ly.v_seq, Ly.k_sq_nx, Ly.k_sq_rt, Ly.k_sq_bk, Ly.k_sq_ct, Ly.v_ifS, Ly.k_ifs, Ly.v_asg, Ly.k_as, Ly.k_as2, Ly.v_aug, Ly.k_au, Ly.v_for, Ly.k_fo, Ly.v_it, Ly.k_it, Ly.k_ij, Ly.v_rng1, Ly.v_rng2, Ly.v_enum, Ly.v_zip, Ly.v_ez, Ly.v_gN, Ly.v_gsN, Ly.v_gsC, Ly.k_gc, Ly.v_gT, Ly.v_gTw, Ly.v_gSb, Ly.k_gsb, Ly.k_gsb2, Ly.k_gsb3, Ly.k_en_rt, Ly.k_en_nx, Ly.k_tu_nx, Ly.k_tu_ct, Ly.k_tu_bk, Ly.k_tu_rt, Ly.v_lc, Ly.k_lc, Ly.v_augI, Ly.k_ag, Ly.k_ag2, Ly.k_ag3, Ly.k_ag4, Ly.k_ag5, Ly.v_del, Ly.k_dl, Ly.k_dl2, Ly.v_setd, Ly.v_pop2, Ly.k_d3, Ly.k_d32, Ly.k_d33, Ly.v_get1, Ly.k_g1, Ly.k_g12, Ly.v_rg1, Ly.k_rg, Ly.v_rg2, Ly.k_rg2, Ly.k_rg22, Ly.v_dicK, Ly.v_dicT, Ly.v_dc, Ly.k_dc, List.getElem?_cons_zero, List.getElem?_cons_succ, List.set_cons_zero, List.set_cons_succ, List.length_cons, List.length_nil, List.map_cons, List.map_nil, List.cons_append, List.nil_append, List.replicate, if_true, if_false, Bool.false_eq_true, Bool.not_true, Bool.not_false, Bool.true_and, Bool.false_and, decide_true, decide_false, decide_eq_true_eq, Nat.zero_add, Nat.reduceAdd, Nat.reduceLeDiff, true_and, and_true, $ls,*])
def NatsAt (S : Hs) (d : D) (p : List Nat) : Prop := d = tuN p ∨ ∃ q, d = .ref q ∧ S[q]? = some (.lst (nDs p))
section
variable {S S' : Hs} {rs : List Rg} {rows : List MRow} {d : D} {p : List Nat}
theorem NatsAt.kp (h : NatsAt S d p) (k : Kp [] S S') : NatsAt S' d p := by
  rcases h with h | ⟨q, h, e⟩
  · exact .inl h
  · exact .inr ⟨q, h, k.get e (by simp)⟩
theorem NatsAt.inn (h : NatsAt S d p) {n : Nat} : oIn (nD n) d S = .ok (.bl (decide (n ∈ p))) S := by
  rcases h with rfl | ⟨q, rfl, e⟩
  · exact in_nats
  · exact oIn_lst e
theorem NatsAt.lst (h : NatsAt S d p) : bList [d] S = .ok (.ref S.length) (S ++ [.lst (nDs p)]) := by
  rcases h with rfl | ⟨q, rfl, e⟩
  · rfl
  · simp [bList, e]
theorem rngG {n k : Nat} (hk : k ≤ n) : itGo (.rng 0 n) k S = some (((List.range n)[k]?).map nD) := by
  by_cases h : k < n
  · rw [List.getElem?_range h]; simp [itGo, h, nD]
  · rw [List.getElem?_eq_none (by simp; omega)]; simp [itGo, h]
theorem lc16 {X : XP} {tt : MB} {l : Ls} {s : Nat} {P : D → Hs → Prop} (f : Nat → Bool) (hs : s < l.length) (ht : ∀ y, y < 16 → ∀ S', Kp [] S S' → Wp NoX (tt (l.set s (some (nD y))) S') fun t S2 => S2 = S' ∧ t = f y)
    (hd : ∀ S', S'[S.length]? = some (.lst (nDs (bits16 f))) → Kp [] S S' → P (.ref S.length) S') : Wp X (cLoop (.rng 0 16) (cN s) tt (mVar s) l S.length 0 (S ++ [.lst []])) P := by
  refine lc_pure nD (S := S) (xs := List.range 16) (fun y => if f y = true then some (nD y) else none) (fun S' _ j hj => rngG (by simpa using hj)) (by simp) (fun y hy S' hS' => ?_) (fun S' h1 h2 => ?_)
  · refine ⟨l.set s (some (nD y)), rfl, (ht y (by simpa using hy) S' hS').mono (fun _ _ _ _ h => h) ?_⟩
    rintro t S2 ⟨rfl, rfl⟩
    refine ⟨Kp.refl, ?_⟩
    cases f y with
    | false => simp
    | true =>
      simp only [if_true]
      simp_arith [Ly.v_fld, Ly.v_meth, Ly.k_me2, Ly.v_make, Ly.k_mk, Ly.v_fldset, Ly.k_fs, Ly.v_fldaug, Ly.k_fa2, Ly.look1, List.mem_cons, List.not_mem_nil, or_false, true_or, or_true, List.getElem?_set_self hs]
      exact Kp.refl
  · refine hd S' ?_ h2
    rw [h1]
    congr 2
    unfold bits16
    generalize List.range 16 = L
    induction L with
    | nil => rfl
    | cons a L ih =>
      rw [List.filterMap_cons, List.filter_cons]
      cases f a with
      | false => simpa using ih
      | true => simp only [if_true, List.map_cons, ih]
theorem region_G (hl : rs.length ≤ 1000000) (hlab : LabsG rs) {b m : Nat} : Wp NoX (m_regionG [codeD rs rows, nD b, nD m] S) fun v S' => v = (match rgOf rs b m with | none => .non | some g => g.D) ∧ Kp [] S S' := by
  refine wp_def0 rfl ?_
  unfold b_regionG
  rw [v_seq]
  simp_arith [Ly.v_fld, Ly.v_meth, Ly.k_me2, Ly.v_make, Ly.k_mk, Ly.v_fldset, Ly.k_fs, Ly.v_fldaug, Ly.k_fa2, Ly.look1, List.mem_cons, List.not_mem_nil, or_false, true_or, or_true, codeD, tix0, oIt, wipe1, -v_seq]
  refine lc_pure Rg.D (S := S) (xs := rs) (fun g => if (decide (g.base ≤ b ∧ b + m < g.base + g.size)) = true then some g.D else none) (fun S' _ j hj => ?_) hl (fun g hg S' hS' => ?_) (fun S' h1 h2 => ?_)
  · simp only [itGo, List.getElem?_map]; first | done | (cases rs[j]? <;> rfl)
  · refine ⟨_, rfl, ?_⟩
    have e1 : (((g.base : Nat) : Int) ≤ (b : Int)) = (g.base ≤ b) := by rw [Int.ofNat_le]
    simp_arith [Ly.v_fld, Ly.v_meth, Ly.k_me2, Ly.v_make, Ly.k_mk, Ly.v_fldset, Ly.k_fs, Ly.v_fldaug, Ly.k_fa2, Ly.look1, List.mem_cons, List.not_mem_nil, or_false, true_or, or_true, rgD_base, oLe_int, e1]
    by_cases c1 : g.base ≤ b
    · have e2 : ((b : Int) + (m : Int) < (g.base : Int) + (g.size : Int)) = (b + m < g.base + g.size) := by rw [← Int.natCast_add, ← Int.natCast_add, Int.ofNat_lt]
      simp_arith [Ly.v_fld, Ly.v_meth, Ly.k_me2, Ly.v_make, Ly.k_mk, Ly.v_fldset, Ly.k_fs, Ly.v_fldaug, Ly.k_fa2, Ly.look1, List.mem_cons, List.not_mem_nil, or_false, true_or, or_true, c1, rgD_base, rgD_size, oAdd_int, oLt_int, e2, true_and]
      by_cases c2 : b + m < g.base + g.size
      · simp_arith [Ly.v_fld, Ly.v_meth, Ly.k_me2, Ly.v_make, Ly.k_mk, Ly.v_fldset, Ly.k_fs, Ly.v_fldaug, Ly.k_fa2, Ly.look1, List.mem_cons, List.not_mem_nil, or_false, true_or, or_true, c2]; exact ⟨Kp.refl, Kp.refl⟩
      · simp_arith [Ly.v_fld, Ly.v_meth, Ly.k_me2, Ly.v_make, Ly.k_mk, Ly.v_fldset, Ly.k_fs, Ly.v_fldaug, Ly.k_fa2, Ly.look1, List.mem_cons, List.not_mem_nil, or_false, true_or, or_true, c2]; exact Kp.refl
    · simp_arith [Ly.v_fld, Ly.v_meth, Ly.k_me2, Ly.v_make, Ly.k_mk, Ly.v_fldset, Ly.k_fs, Ly.v_fldaug, Ly.k_fa2, Ly.look1, List.mem_cons, List.not_mem_nil, or_false, true_or, or_true, c1, false_and]; first | exact Kp.refl | skip
  · have hfm : ∀ L : List Rg, L.filterMap (fun g => if (decide (g.base ≤ b ∧ b + m < g.base + g.size)) = true then some g.D else none) = (L.filter fun g => decide (g.base ≤ b ∧ b + m < g.base + g.size)).map Rg.D := fun L => by
      induction L with
      | nil => rfl
      | cons g L ih =>
        rw [List.filterMap_cons, List.filter_cons]
        cases decide (g.base ≤ b ∧ b + m < g.base + g.size) with
        | false => simpa using ih
        | true => simp only [if_true, List.map_cons, ih]
    rw [hfm] at h1
    have hh : rgOf rs b m = (rs.filter fun g => decide (g.base ≤ b ∧ b + m < g.base + g.size)).head? := by unfold rgOf; rw [List.head?_filter]
    have hLab : ∀ g ∈ (rs.filter fun g => decide (g.base ≤ b ∧ b + m < g.base + g.size)), PyData.strOk g.label = true := fun g hg => by
      rcases hlab g (List.mem_filter.mp hg).1 with e | e <;> rw [e] <;> decide +kernel
    generalize (rs.filter fun g => decide (g.base ≤ b ∧ b + m < g.base + g.size)) = L at *
    have hpl : D.plains (L.map Rg.D) = true := by
      clear h1 hh
      induction L with
      | nil => rfl
      | cons g L ih => simp only [List.map_cons, D.plains, ih (fun g h => hLab g (List.mem_cons_of_mem _ h)), Rg.D, D.plain, hLab g List.mem_cons_self, Bool.and_self]
    have hdp : PyData.depthAll (D.toPs (L.map Rg.D)) ≤ 30 := by
      clear h1 hh hpl hLab
      induction L with
      | nil => simp [D.toPs, PyData.depthAll]
      | cons g L ih =>
        simp only [List.map_cons, D.toPs, PyData.depthAll]
        refine Nat.max_le.mpr ⟨?_, ih⟩
        simp [Rg.D, D.toP, D.toPs, PyData.depth, PyData.depthAll]
    have q1 : (S' ++ [O.lst []])[S.length]? = some (.lst (L.map Rg.D)) := Kp.get (A := []) Kp.new h1 (by simp)
    have q2 : (S' ++ [O.lst []])[S'.length]? = some (.lst []) := get_end
    simp_arith [Ly.v_fld, Ly.v_meth, Ly.k_me2, Ly.v_make, Ly.k_mk, Ly.v_fldset, Ly.k_fs, Ly.v_fldaug, Ly.k_fa2, Ly.look1, List.mem_cons, List.not_mem_nil, or_false, true_or, or_true, -v_seq]
    rw [v_seq]
    simp_arith [Ly.v_fld, Ly.v_meth, Ly.k_me2, Ly.v_make, Ly.k_mk, Ly.v_fldset, Ly.k_fs, Ly.v_fldaug, Ly.k_fa2, Ly.look1, List.mem_cons, List.not_mem_nil, or_false, true_or, or_true, show oEq (.ref S.length) (.ref S'.length) (S' ++ [O.lst []]) = .ok (.bl (L.map Rg.D).isEmpty) (S' ++ [O.lst []]) from by unfold oEq; rw [eq_nil q1 q2 hpl hdp]]
    cases L with
    | nil =>
      simp_arith [Ly.v_fld, Ly.v_meth, Ly.k_me2, Ly.v_make, Ly.k_mk, Ly.v_fldset, Ly.k_fs, Ly.v_fldaug, Ly.k_fa2, Ly.look1, List.mem_cons, List.not_mem_nil, or_false, true_or, or_true, List.map_nil, List.isEmpty_nil]
      rw [hh]
      exact ⟨rfl, h2.app⟩
    | cons g L =>
      simp_arith [Ly.v_fld, Ly.v_meth, Ly.k_me2, Ly.v_make, Ly.k_mk, Ly.v_fldset, Ly.k_fs, Ly.v_fldaug, Ly.k_fa2, Ly.look1, List.mem_cons, List.not_mem_nil, or_false, true_or, or_true, List.map_cons, List.isEmpty_cons]
      have e := oIx_lst (k := 0) q1 (by omega) (by simp) (d := g.D) (by simp)
      simp_arith [Ly.v_fld, Ly.v_meth, Ly.k_me2, Ly.v_make, Ly.k_mk, Ly.v_fldset, Ly.k_fs, Ly.v_fldaug, Ly.k_fa2, Ly.look1, List.mem_cons, List.not_mem_nil, or_false, true_or, or_true, e]
      rw [hh]
      exact ⟨rfl, h2.app⟩
end
end Ly
set_option Elab.async false
set_option linter.all false
set_option maxRecDepth 100000
namespace Ly
open PySem PySem.Spec L2
open PyProof.Rows hiding St
local macro_rules | `(tactic| simp_arith [$ls,*]) => `(tactic| simp only [Ly.line_le, Ly.atX_no, Ly.v_ok, Ly.v_bad, Ly.v_bind, Ly.k_bd, Ly.v_at, Ly.v_bin, Ly.k_bi, Ly.k_bi2, Ly.v_var, Ly.v_c, Ly.v_un, Ly.k_un, Ly.v_if, Ly.k_ife, Ly.v_and, Ly.k_and, Ly.k_and2, Ly.v_or, Ly.k_or, Ly.k_or2, Ly.v_tup, Ly.k_tup, Ly.v_lst, Ly.k_lst, Ly.v_call, Ly.k_ca, Ly.v_fn, Ly.k_fn, Ly.v_bm, Ly.k_bm, Ly.k_bm2, Ly.v_sl, Ly.k_sl, Ly.k_sl2, Ly.k_sl3, Ly.v_ixK, Ly.k_ixk, Ly.v_inK, Ly.k_ink, Ly.v_notinK, Ly.k_nink, Ly.v_getK2, Ly.k_gk2, Ly.k_gk, Ly.v_get2, Ly.k_g2, Ly.k_g22, Ly.k_g23, Ly.v_nil, Ly.v_cons, Ly.k_co, Ly.k_co2, Ly.v_no, Ly.v_some, Ly.k_so, Ly.k_cm, Ly.v_cmp, Ly.v_tru, Ly.k_tr, Ly.v_notB, Ly.k_no, Ly.v_andB, Ly.k_an, Ly.v_orB, Ly.k_orb, Ly.v_yes, Ly.v_inKB, Ly.k_inkB, Ly.v_notinKB, Ly.k_ninkB, Ly.v_set, Ly.k_st, Ly.v_expr, Ly.k_ex, Ly.v_ret, Ly.k_re, Ly.v_retN, Ly.v_pass, Ly.v_brk, Ly.v_cnt, Ly.v_seq, Ly.k_sq_nx, Ly.k_sq_rt, Ly.k_sq_bk, Ly.k_sq_ct, Ly.v_ifS, Ly.k_ifs, Ly.v_asg, Ly.k_as, Ly.k_as2, Ly.v_aug, Ly.k_au, Ly.v_for, Ly.k_fo, Ly.v_it, Ly.k_it, Ly.k_ij, Ly.v_rng1, Ly.v_rng2, Ly.v_enum, Ly.v_zip, Ly.v_ez, Ly.v_gN, Ly.v_gsN, Ly.v_gsC, Ly.k_gc, Ly.v_gT, Ly.v_gTw, Ly.v_gSb, Ly.k_gsb, Ly.k_gsb2, Ly.k_gsb3, Ly.k_en_rt, Ly.k_en_nx, Ly.k_tu_nx, Ly.k_tu_ct, Ly.k_tu_bk, Ly.k_tu_rt, Ly.v_lc, Ly.k_lc, Ly.v_augI, Ly.k_ag, Ly.k_ag2, Ly.k_ag3, Ly.k_ag4, Ly.k_ag5, Ly.v_del, Ly.k_dl, Ly.k_dl2, Ly.v_setd, Ly.v_pop2, Ly.k_d3, Ly.k_d32, Ly.k_d33, Ly.v_get1, Ly.k_g1, Ly.k_g12, Ly.v_rg1, Ly.k_rg, Ly.v_rg2, Ly.k_rg2, Ly.k_rg22, Ly.v_dicK, Ly.v_dicT, Ly.v_dc, Ly.k_dc, List.getElem?_cons_zero, List.getElem?_cons_succ, List.set_cons_zero, List.set_cons_succ, List.length_cons, List.length_nil, List.map_cons, List.map_nil, List.cons_append, List.nil_append, List.replicate, if_true, if_false, Bool.false_eq_true, Bool.not_true, Bool.not_false, Bool.true_and, Bool.false_and, decide_true, decide_false, decide_eq_true_eq, Nat.zero_add, Nat.reduceAdd, Nat.reduceLeDiff, true_and, and_true, $ls,*])
section
variable {S S' : Hs} {rs : List Rg} {rows : List MRow} {d : D} {p : List Nat}
theorem tix_1G {a b : D} {r : List D} : oIx (.tup (a :: b :: r)) (.int 1) S = .ok b S := oIx_tup (n := 1) rfl
theorem tix_2G {a b c : D} {r : List D} : oIx (.tup (a :: b :: c :: r)) (.int 2) S = .ok c S := oIx_tup (n := 2) rfl
theorem tix_3G {a b c e : D} {r : List D} : oIx (.tup (a :: b :: c :: e :: r)) (.int 3) S = .ok e S := oIx_tup (n := 3) rfl
theorem tix_4G {a b c e f : D} {r : List D} : oIx (.tup (a :: b :: c :: e :: f :: r)) (.int 4) S = .ok f S := oIx_tup (n := 4) rfl
theorem natEqG {a b : Nat} : (((a : Nat) : Int) = (b : Int)) = (a = b) := by rw [Int.ofNat_inj]
theorem pick_G {x y : Nat} {pub : Bool} {P : Bool → Hs → Prop} (h : P (if y = x then pub else decide (y ∈ p)) S) {X : XP} {l : Ls} {ox : M} {k m c : Nat} (hx : ∀ S, ox l S = .ok (nD x) S) (hk : l[k]? = some (some (nD y))) (hm : l[m]? = some (some d)) (hc : l[c]? = some (some (.bl pub))) (hd : NatsAt S d p) :
    Wp X (mOrB (mAndB (mCmp oNe (mVar k) ox) (mCmp oIn (mVar k) (mVar m))) (mAndB (mCmp oEq (mVar k) ox) (mTru (mVar c))) l S) P := by
  by_cases e : y = x
  · rw [if_pos e] at h
    subst e
    simp_arith [Ly.v_fld, Ly.v_meth, Ly.k_me2, Ly.v_make, Ly.k_mk, Ly.v_fldset, Ly.k_fs, Ly.v_fldaug, Ly.k_fa2, Ly.look1, List.mem_cons, List.not_mem_nil, or_false, true_or, or_true, hk, hx, oNe_int, oEq_int, hc, oTru_bl]
    exact h
  · rw [if_neg e] at h
    have e' : ¬ (((y : Nat) : Int) = (x : Int)) := by omega
    simp_arith [Ly.v_fld, Ly.v_meth, Ly.k_me2, Ly.v_make, Ly.k_mk, Ly.v_fldset, Ly.k_fs, Ly.v_fldaug, Ly.k_fa2, Ly.look1, List.mem_cons, List.not_mem_nil, or_false, true_or, or_true, hk, hx, oNe_int, oEq_int, hm, hd.inn, e']
    by_cases hq : y ∈ p
    · simpa [hq] using h
    · simpa [hq] using h
def NewAt (S S' : Hs) (v : D) (L : List Nat) : Prop := ∃ q, v = .ref q ∧ S'[q]? = some (.lst (nDs L)) ∧ S.length ≤ q ∧ Kp [] S S'
theorem rg16G : oRng1 [.int 16] S = .ok (.rng 0 16) S := rng1 (n := 16) S (by decide) (by decide)
theorem sel_G {X : XP} {l : Ls} {ox : M} {x : Nat} {pub : Bool} {Q : D → Hs → Prop} (hx : ∀ y S, ox ((l.set 6 none).set 6 (some (nD y))) S = .ok (nD x) S) (h2 : l[2]? = some (some d)) (h4 : l[4]? = some (some (.bl pub))) (hl : l.length = 7) (hd : NatsAt S d p)
    (hP : ∀ S', S'[S.length]? = some (.lst (nDs (bits16 fun y => if y = x then pub else decide (y ∈ p)))) → Kp [] S S' → Q (.ref S.length) S') :
    Wp X (mLc (mRng1 (lCons (mC (.int 16)) lNil)) (cN 6) (mOrB (mAndB (mCmp oNe (mVar 6) ox) (mCmp oIn (mVar 6) (mVar 2))) (mAndB (mCmp oEq (mVar 6) ox) (mTru (mVar 4)))) (mVar 6) [6] l S) Q := by
  simp_arith [Ly.v_fld, Ly.v_meth, Ly.k_me2, Ly.v_make, Ly.k_mk, Ly.v_fldset, Ly.k_fs, Ly.v_fldaug, Ly.k_fa2, Ly.look1, List.mem_cons, List.not_mem_nil, or_false, true_or, or_true, rg16G, wipe1]
  refine lc16 (fun y => if y = x then pub else decide (y ∈ p)) (by simp [hl]) (fun y hy S' hS' => ?_) hP
  refine pick_G (x := x) (pub := pub) (p := p) (d := d) ⟨rfl, rfl⟩ (hx y) ?_ ?_ ?_ (hd.kp hS')
  · rw [List.getElem?_set_self (by simp [hl])]
  · rw [List.getElem?_set_ne (by decide), List.getElem?_set_ne (by decide), h2]
  · rw [List.getElem?_set_ne (by decide), List.getElem?_set_ne (by decide), h4]
theorem behind_G (hl : rs.length ≤ 1000000) (hlab : LabsG rs) {k : Nat} {r : MRow} (hr : rows[k]? = some r) (hd : NatsAt S d p) :
    Wp NoX (m_behindG [codeD rs rows, nD k, d] S) fun v S' => NewAt S S' v ((r.ar rs k).behind p) := by
  refine wp_def0 rfl ?_
  unfold b_behindG
  have ex : ∀ S, oIx (.tup (rows.map MRow.D)) (nD k) S = .ok r.D S := fun S => oIx_tup (by rw [List.getElem?_map, hr]; rfl)
  rw [v_seq]
  simp_arith [Ly.v_fld, Ly.v_meth, Ly.k_me2, Ly.v_make, Ly.k_mk, Ly.v_fldset, Ly.k_fs, Ly.v_fldaug, Ly.k_fa2, Ly.look1, List.mem_cons, List.not_mem_nil, or_false, true_or, or_true, codeD, tix1, ex, -v_seq]
  have other : (r.ar rs k).behind p = p → NewAt S (S ++ [O.lst (nDs p)]) (.ref S.length) ((r.ar rs k).behind p) := fun h => by rw [h]; exact ⟨_, rfl, get_end, Nat.le_refl _, Kp.new⟩
  cases r with
  | const x w =>
    simp_arith [Ly.v_fld, Ly.v_meth, Ly.k_me2, Ly.v_make, Ly.k_mk, Ly.v_fldset, Ly.k_fs, Ly.v_fldaug, Ly.k_fa2, Ly.look1, List.mem_cons, List.not_mem_nil, or_false, true_or, or_true, MRow.D, tix0, oEq_str, tix_1G, rg16G, wipe1]
    refine lc16 (fun y => if y = x then true else decide (y ∈ p)) (by simp) (fun y hy S' hS' => ?_) (fun S' h1 h2 => ?_)
    · simp_arith [Ly.v_fld, Ly.v_meth, Ly.k_me2, Ly.v_make, Ly.k_mk, Ly.v_fldset, Ly.k_fs, Ly.v_fldaug, Ly.k_fa2, Ly.look1, List.mem_cons, List.not_mem_nil, or_false, true_or, or_true, (hd.kp hS').inn, tix_1G, oEq_int, natEqG]
      by_cases e : y = x
      · by_cases e2 : y ∈ p
        · simp [e2, e]
        · simp [e2, e]
      · by_cases e2 : y ∈ p
        · simp [e2, e]
        · simp [e2, e]
    · exact ⟨S.length, rfl, h1, Nat.le_refl _, h2⟩
  | op s x a b =>
    have n1 : (Str.ofString "op" = Str.ofString "const") = False := by simp [ofString_inj]
    have hpub : (MRow.ar rs k (.op s x a b)).pub p = (decide (a ∈ p) && decide (b ∈ p)) := by simp [AR.pub, MRow.ar, MRow.ld?, MRow.rds]
    have hb : (MRow.ar rs k (.op s x a b)).behind p = bits16 fun y => if y = x then (decide (a ∈ p) && decide (b ∈ p)) else decide (y ∈ p) := by rw [← hpub]; rfl
    simp_arith [Ly.v_fld, Ly.v_meth, Ly.k_me2, Ly.v_make, Ly.k_mk, Ly.v_fldset, Ly.k_fs, Ly.v_fldaug, Ly.k_fa2, Ly.look1, List.mem_cons, List.not_mem_nil, or_false, true_or, or_true, MRow.D, tix0, oEq_str, n1, tix_3G, tix_4G, hd.inn, oTru_bl, -v_lc]
    by_cases ca : a ∈ p
    · simp only [decide_eq_true_eq, ca, if_true]
      refine sel_G (x := x) (p := p) (pub := decide (b ∈ p)) (fun y S => by simp [mBin, mVar, mC, tix_2G]) rfl rfl rfl hd fun S' h1 h2 => ?_
      exact ⟨S.length, rfl, by rw [hb]; simpa [ca] using h1, Nat.le_refl _, h2⟩
    · simp only [decide_eq_true_eq, ca, if_false]
      refine sel_G (x := x) (p := p) (pub := false) (fun y S => by simp [mBin, mVar, mC, tix_2G]) rfl rfl rfl hd fun S' h1 h2 => ?_
      exact ⟨S.length, rfl, by rw [hb]; simpa [ca] using h1, Nat.le_refl _, h2⟩
  | select x c a b =>
    have n1 : (Str.ofString "select" = Str.ofString "const") = False := by simp [ofString_inj]
    have n2 : (Str.ofString "select" = Str.ofString "op") = False := by simp [ofString_inj]
    have hpub : (MRow.ar rs k (.select x c a b)).pub p = (decide (c ∈ p) && (decide (a ∈ p) && decide (b ∈ p))) := by simp [AR.pub, MRow.ar, MRow.ld?, MRow.rds]
    have hb : (MRow.ar rs k (.select x c a b)).behind p = bits16 fun y => if y = x then (decide (c ∈ p) && (decide (a ∈ p) && decide (b ∈ p))) else decide (y ∈ p) := by rw [← hpub]; rfl
    simp_arith [Ly.v_fld, Ly.v_meth, Ly.k_me2, Ly.v_make, Ly.k_mk, Ly.v_fldset, Ly.k_fs, Ly.v_fldaug, Ly.k_fa2, Ly.look1, List.mem_cons, List.not_mem_nil, or_false, true_or, or_true, MRow.D, tix0, oEq_str, n1, n2, tix_2G, tix_3G, tix_4G, hd.inn, oTru_bl, -v_lc]
    have go : ∀ {X : XP} {Q : D → Hs → Prop} (pub : Bool), pub = (decide (c ∈ p) && (decide (a ∈ p) && decide (b ∈ p))) → (∀ S', NewAt S S' (.ref S.length) ((MRow.ar rs k (.select x c a b)).behind p) → Q (.ref S.length) S') →
        Wp X (mLc (mRng1 (lCons (mC (.int 16)) lNil)) (cN 6) (mOrB (mAndB (mCmp oNe (mVar 6) (mBin oIx (mVar 3) (mC (.int 1)))) (mCmp oIn (mVar 6) (mVar 2))) (mAndB (mCmp oEq (mVar 6) (mBin oIx (mVar 3) (mC (.int 1)))) (mTru (mVar 4)))) (mVar 6) [6]
          [some (.tup [.tup (rs.map Rg.D), .tup (rows.map MRow.D)]), some (nD k), some d, some (.tup [.str "select", nD x, nD c, nD a, nD b]), some (.bl pub), none, none] S) Q := fun pub hp hQ => by
      refine sel_G (x := x) (p := p) (pub := pub) (fun y S => by simp [mBin, mVar, mC, tix_1G]) rfl rfl rfl hd fun S' h1 h2 => hQ S' ?_
      exact ⟨S.length, rfl, by rw [hb, ← hp]; exact h1, Nat.le_refl _, h2⟩
    by_cases cc : c ∈ p
    · by_cases ca : a ∈ p
      · simp only [cc, ca, if_true]
        exact go _ (by simp [cc, ca]) fun S' h => h
      · simp only [cc, ca, if_true, if_false]
        exact go _ (by simp [cc, ca]) fun S' h => h
    · simp only [cc, if_false]
      exact go _ (by simp [cc]) fun S' h => h
  | load x a b m =>
    have n1 : (Str.ofString "load" = Str.ofString "const") = False := by simp [ofString_inj]
    have n2 : (Str.ofString "load" = Str.ofString "op") = False := by simp [ofString_inj]
    have n3 : (Str.ofString "load" = Str.ofString "select") = False := by simp [ofString_inj]
    have hb : (MRow.ar rs k (.load x a b m)).behind p = bits16 fun y => if y = x then isPub (rgOf rs b m) else decide (y ∈ p) := rfl
    simp_arith [Ly.v_fld, Ly.v_meth, Ly.k_me2, Ly.v_make, Ly.k_mk, Ly.v_fldset, Ly.k_fs, Ly.v_fldaug, Ly.k_fa2, Ly.look1, List.mem_cons, List.not_mem_nil, or_false, true_or, or_true, MRow.D, tix0, oEq_str, n1, n2, n3, tix_3G, tix_4G, -v_lc]
    refine Wp.call (region_G hl hlab) ?_
    rintro v S1 ⟨rfl, k1⟩
    have go : ∀ {X : XP} {Q : D → Hs → Prop} {z : D} (pub : Bool), pub = isPub (rgOf rs b m) → (∀ S', NewAt S S' (.ref S1.length) ((MRow.ar rs k (.load x a b m)).behind p) → Q (.ref S1.length) S') →
        Wp X (mLc (mRng1 (lCons (mC (.int 16)) lNil)) (cN 6) (mOrB (mAndB (mCmp oNe (mVar 6) (mBin oIx (mVar 3) (mC (.int 1)))) (mCmp oIn (mVar 6) (mVar 2))) (mAndB (mCmp oEq (mVar 6) (mBin oIx (mVar 3) (mC (.int 1)))) (mTru (mVar 4)))) (mVar 6) [6]
          [some (.tup [.tup (rs.map Rg.D), .tup (rows.map MRow.D)]), some (nD k), some d, some (.tup [.str "load", nD x, nD a, nD b, nD m]), some (.bl pub), some z, none] S1) Q := fun pub hp hQ => by
      refine sel_G (x := x) (p := p) (pub := pub) (fun y S => by simp [mBin, mVar, mC, tix_1G]) rfl rfl rfl (hd.kp k1) fun S' h1 h2 => hQ S' ?_
      exact ⟨S1.length, rfl, by rw [hb, ← hp]; exact h1, k1.le, k1.trans h2⟩
    cases hg : rgOf rs b m with
    | none =>
      simp_arith [Ly.v_fld, Ly.v_meth, Ly.k_me2, Ly.v_make, Ly.k_mk, Ly.v_fldset, Ly.k_fs, Ly.v_fldaug, Ly.k_fa2, Ly.look1, List.mem_cons, List.not_mem_nil, or_false, true_or, or_true, show ∀ S, oIsNot .non .non S = .ok (.bl false) S from fun _ => rfl, oTru_bl, -v_lc]
      exact go _ (by rw [hg]; rfl) fun S' h => h
    | some g =>
      simp_arith [Ly.v_fld, Ly.v_meth, Ly.k_me2, Ly.v_make, Ly.k_mk, Ly.v_fldset, Ly.k_fs, Ly.v_fldaug, Ly.k_fa2, Ly.look1, List.mem_cons, List.not_mem_nil, or_false, true_or, or_true, show ∀ S, oIsNot g.D .non S = .ok (.bl true) S from fun _ => rfl, oTru_bl, rgD_label, oEq_str, -v_lc]
      exact go _ (by rw [hg]; rfl) fun S' h => h
  | store a b m v =>
    have n1 : (Str.ofString "store" = Str.ofString "const") = False := by simp [ofString_inj]
    have n2 : (Str.ofString "store" = Str.ofString "op") = False := by simp [ofString_inj]
    have n3 : (Str.ofString "store" = Str.ofString "select") = False := by simp [ofString_inj]
    have n4 : (Str.ofString "store" = Str.ofString "load") = False := by simp [ofString_inj]
    simp_arith [Ly.v_fld, Ly.v_meth, Ly.k_me2, Ly.v_make, Ly.k_mk, Ly.v_fldset, Ly.k_fs, Ly.v_fldaug, Ly.k_fa2, Ly.look1, List.mem_cons, List.not_mem_nil, or_false, true_or, or_true, MRow.D, tix0, oEq_str, n1, n2, n3, n4, hd.lst]
    exact other rfl
  | out a =>
    have n1 : (Str.ofString "out" = Str.ofString "const") = False := by simp [ofString_inj]
    have n2 : (Str.ofString "out" = Str.ofString "op") = False := by simp [ofString_inj]
    have n3 : (Str.ofString "out" = Str.ofString "select") = False := by simp [ofString_inj]
    have n4 : (Str.ofString "out" = Str.ofString "load") = False := by simp [ofString_inj]
    simp_arith [Ly.v_fld, Ly.v_meth, Ly.k_me2, Ly.v_make, Ly.k_mk, Ly.v_fldset, Ly.k_fs, Ly.v_fldaug, Ly.k_fa2, Ly.look1, List.mem_cons, List.not_mem_nil, or_false, true_or, or_true, MRow.D, tix0, oEq_str, n1, n2, n3, n4, hd.lst]
    exact other rfl
  | jump t =>
    have n1 : (Str.ofString "jump" = Str.ofString "const") = False := by simp [ofString_inj]
    have n2 : (Str.ofString "jump" = Str.ofString "op") = False := by simp [ofString_inj]
    have n3 : (Str.ofString "jump" = Str.ofString "select") = False := by simp [ofString_inj]
    have n4 : (Str.ofString "jump" = Str.ofString "load") = False := by simp [ofString_inj]
    simp_arith [Ly.v_fld, Ly.v_meth, Ly.k_me2, Ly.v_make, Ly.k_mk, Ly.v_fldset, Ly.k_fs, Ly.v_fldaug, Ly.k_fa2, Ly.look1, List.mem_cons, List.not_mem_nil, or_false, true_or, or_true, MRow.D, tix0, oEq_str, n1, n2, n3, n4, hd.lst]
    exact other rfl
  | branch a t =>
    have n1 : (Str.ofString "branch" = Str.ofString "const") = False := by simp [ofString_inj]
    have n2 : (Str.ofString "branch" = Str.ofString "op") = False := by simp [ofString_inj]
    have n3 : (Str.ofString "branch" = Str.ofString "select") = False := by simp [ofString_inj]
    have n4 : (Str.ofString "branch" = Str.ofString "load") = False := by simp [ofString_inj]
    simp_arith [Ly.v_fld, Ly.v_meth, Ly.k_me2, Ly.v_make, Ly.k_mk, Ly.v_fldset, Ly.k_fs, Ly.v_fldaug, Ly.k_fa2, Ly.look1, List.mem_cons, List.not_mem_nil, or_false, true_or, or_true, MRow.D, tix0, oEq_str, n1, n2, n3, n4, hd.lst]
    exact other rfl
  | stop a =>
    have n1 : (Str.ofString "stop" = Str.ofString "const") = False := by simp [ofString_inj]
    have n2 : (Str.ofString "stop" = Str.ofString "op") = False := by simp [ofString_inj]
    have n3 : (Str.ofString "stop" = Str.ofString "select") = False := by simp [ofString_inj]
    have n4 : (Str.ofString "stop" = Str.ofString "load") = False := by simp [ofString_inj]
    simp_arith [Ly.v_fld, Ly.v_meth, Ly.k_me2, Ly.v_make, Ly.k_mk, Ly.v_fldset, Ly.k_fs, Ly.v_fldaug, Ly.k_fa2, Ly.look1, List.mem_cons, List.not_mem_nil, or_false, true_or, or_true, MRow.D, tix0, oEq_str, n1, n2, n3, n4, hd.lst]
    exact other rfl
theorem ways_G {k : Nat} {r : MRow} (hr : rows[k]? = some r) : Wp NoX (m_waysG [codeD rs rows, nD k] S) fun v S' => NewAt S S' v (r.ways k) := by
  refine wp_def0 rfl ?_
  have ex : ∀ S, oIx (.tup (rows.map MRow.D)) (nD k) S = .ok r.D S := fun S => oIx_tup (by rw [List.getElem?_map, hr]; rfl)
  have ek : ((k : Int) + 1) = ((k + 1 : Nat) : Int) := by omega
  have fin : ∀ {L : List Nat}, r.ways k = L → NewAt S (S ++ [O.lst (nDs L)]) (.ref S.length) (r.ways k) := fun h => ⟨_, rfl, by rw [h]; exact get_end, Nat.le_refl _, Kp.new⟩
  have one : ∀ w : Str, (w = "stop") = False → (w = "jump") = False → (w = "branch") = False → (∃ ds, r.D = .tup (.str w :: ds)) → r.ways k = [k + 1] → Wp NoX (b_waysG [some (codeD rs rows), some (nD k), none] S) (enK fun v S' => NewAt S S' v (r.ways k)) := by
    rintro w h1 h2 h3 ⟨ds, e⟩ hw
    unfold b_waysG
    simp_arith [Ly.v_fld, Ly.v_meth, Ly.k_me2, Ly.v_make, Ly.k_mk, Ly.v_fldset, Ly.k_fs, Ly.v_fldaug, Ly.k_fa2, Ly.look1, List.mem_cons, List.not_mem_nil, or_false, true_or, or_true, codeD, tix1, ex, e, tix0, oEq_str, h1, h2, h3, oAdd_int, ek]
    exact fin (L := [k + 1]) hw
  cases r with
  | stop a =>
    unfold b_waysG
    simp_arith [Ly.v_fld, Ly.v_meth, Ly.k_me2, Ly.v_make, Ly.k_mk, Ly.v_fldset, Ly.k_fs, Ly.v_fldaug, Ly.k_fa2, Ly.look1, List.mem_cons, List.not_mem_nil, or_false, true_or, or_true, codeD, tix1, ex, MRow.D, tix0, oEq_str]
    exact fin (L := []) rfl
  | jump t =>
    have n1 : (Str.ofString "jump" = Str.ofString "stop") = False := by simp [ofString_inj]
    unfold b_waysG
    simp_arith [Ly.v_fld, Ly.v_meth, Ly.k_me2, Ly.v_make, Ly.k_mk, Ly.v_fldset, Ly.k_fs, Ly.v_fldaug, Ly.k_fa2, Ly.look1, List.mem_cons, List.not_mem_nil, or_false, true_or, or_true, codeD, tix1, ex, MRow.D, tix0, oEq_str, n1, tix_1G]
    exact fin (L := [t]) rfl
  | branch a t =>
    have n1 : (Str.ofString "branch" = Str.ofString "stop") = False := by simp [ofString_inj]
    have n2 : (Str.ofString "branch" = Str.ofString "jump") = False := by simp [ofString_inj]
    unfold b_waysG
    simp_arith [Ly.v_fld, Ly.v_meth, Ly.k_me2, Ly.v_make, Ly.k_mk, Ly.v_fldset, Ly.k_fs, Ly.v_fldaug, Ly.k_fa2, Ly.look1, List.mem_cons, List.not_mem_nil, or_false, true_or, or_true, codeD, tix1, ex, MRow.D, tix0, oEq_str, n1, n2, tix_2G, oAdd_int, ek, oNe_int]
    by_cases h : t = k + 1
    · have h' : ((t : Nat) : Int) = ((k + 1 : Nat) : Int) := by omega
      simp_arith [Ly.v_fld, Ly.v_meth, Ly.k_me2, Ly.v_make, Ly.k_mk, Ly.v_fldset, Ly.k_fs, Ly.v_fldaug, Ly.k_fa2, Ly.look1, List.mem_cons, List.not_mem_nil, or_false, true_or, or_true, h', oAdd_int, ek]
      exact fin (L := [k + 1]) (by simp [MRow.ways, h])
    · have h' : ¬ (((t : Nat) : Int) = ((k + 1 : Nat) : Int)) := by omega
      have hz : (S ++ [O.lst [nD (k + 1), nD t]])[S.length]? = some (.lst (nDs [k + 1, t])) := get_end
      have hs : sortN [k + 1, t] = (MRow.branch a t).ways k := by
        have := sort2 (a := k + 1) (b := t)
        rw [show addN [k + 1] t = [k + 1, t] by simp [addN, h]] at this
        rw [this]; simp [MRow.ways, h]
      simp_arith [Ly.v_fld, Ly.v_meth, Ly.k_me2, Ly.v_make, Ly.k_mk, Ly.v_fldset, Ly.k_fs, Ly.v_fldaug, Ly.k_fa2, Ly.look1, List.mem_cons, List.not_mem_nil, or_false, true_or, or_true, h', bSorted_lst hz]
      refine ⟨_, rfl, ?_, ?_, Kp.new.app⟩
      · rw [← hs]
        have : (S ++ [O.lst [nD (k + 1), nD t]]).length = S.length + 1 := by simp
        exact get_end
      · simp
  | const x w => exact one "const" (by simp [ofString_inj]) (by simp [ofString_inj]) (by simp [ofString_inj]) ⟨_, rfl⟩ rfl
  | op s x a b => exact one "op" (by simp [ofString_inj]) (by simp [ofString_inj]) (by simp [ofString_inj]) ⟨_, rfl⟩ rfl
  | select x c a b => exact one "select" (by simp [ofString_inj]) (by simp [ofString_inj]) (by simp [ofString_inj]) ⟨_, rfl⟩ rfl
  | load x a b m => exact one "load" (by simp [ofString_inj]) (by simp [ofString_inj]) (by simp [ofString_inj]) ⟨_, rfl⟩ rfl
  | store a b m v => exact one "store" (by simp [ofString_inj]) (by simp [ofString_inj]) (by simp [ofString_inj]) ⟨_, rfl⟩ rfl
  | out a => exact one "out" (by simp [ofString_inj]) (by simp [ofString_inj]) (by simp [ofString_inj]) ⟨_, rfl⟩ rfl
end
end Ly
set_option Elab.async false
set_option linter.all false
set_option maxRecDepth 100000
namespace Ly
open PySem PySem.Spec L2
open PyProof.Rows hiding St
def gmWay (bh : List Nat) (ms : List (List Nat)) (w : Nat) : List (List Nat) := ms.set w ((ms.getD w []).filter fun a => decide (a ∈ bh))
def gmStep (as : List AR) (ms : List (List Nat)) (r : Nat) : List (List Nat) := (as.getD r AR0).ws.foldl (gmWay ((as.getD r AR0).behind (ms.getD r []))) ms
def gmTurn (as : List AR) (ms : List (List Nat)) : List (List Nat) := (List.range as.length).foldl (gmStep as) ms
def gmIt (as : List AR) : Nat → List (List Nat) → List (List Nat)
  | 0, ms => ms
  | n + 1, ms => gmTurn as (gmIt as n ms)
structure GmSt (as : List AR) (ms : List (List Nat)) : Prop where
  len : ms.length = as.length
  mb : ∀ m ∈ ms, Mb m
def LeM (ms ms' : List (List Nat)) : Prop := ms.length = ms'.length ∧ ∀ i, (ms.getD i []).Sublist (ms'.getD i [])
def Sub (hs ms : List (List Nat)) : Prop := ∀ i a, a ∈ hs.getD i [] → a ∈ ms.getD i []
section
variable {as : List AR} {ms ms' : List (List Nat)} {bh : List Nat} {w r : Nat}
theorem GmSt.get (h : GmSt as ms) {i : Nat} (hi : i < as.length) : Mb (ms.getD i []) := by
  have e : ms[i]? = some (ms.getD i []) := by simp [List.getD, List.getElem?_eq_getElem (show i < ms.length by rw [h.len]; exact hi)]
  exact h.mb _ (List.mem_of_getElem? e)
theorem LeM.refl : LeM ms ms := ⟨rfl, fun _ => List.Sublist.refl _⟩
theorem LeM.trans {ms2 : List (List Nat)} (a : LeM ms ms') (b : LeM ms' ms2) : LeM ms ms2 := ⟨a.1.trans b.1, fun i => (a.2 i).trans (b.2 i)⟩
theorem LeM.anti (a : LeM ms ms') (b : LeM ms' ms) : ms = ms' := by
  refine List.ext_getElem? fun i => ?_
  by_cases hi : i < ms.length
  · have h2 : i < ms'.length := by rw [← a.1]; exact hi
    have e := (a.2 i).eq_of_length_le (b.2 i).length_le
    rw [List.getElem?_eq_getElem hi, List.getElem?_eq_getElem h2]
    simp only [List.getD, List.getElem?_eq_getElem hi, List.getElem?_eq_getElem h2, Option.getD_some] at e
    rw [e]
  · rw [List.getElem?_eq_none (by omega), List.getElem?_eq_none (by have := a.1; omega)]
theorem getD_setG {i : Nat} {x : List Nat} : (ms.set w x).getD i [] = if i = w ∧ w < ms.length then x else ms.getD i [] := by
  simp only [List.getD]
  by_cases e : w = i
  · subst e
    by_cases h : w < ms.length
    · rw [List.getElem?_set_self h, if_pos ⟨rfl, h⟩]; rfl
    · rw [if_neg (fun c => h c.2), List.set_eq_of_length_le (by omega)]
  · rw [List.getElem?_set_ne e, if_neg (fun c => e c.1.symm)]
theorem gmWay_le : LeM (gmWay bh ms w) ms := by
  refine ⟨by simp [gmWay], fun i => ?_⟩
  unfold gmWay
  rw [getD_setG]
  split
  · rename_i h; rw [h.1]; exact List.filter_sublist
  · exact List.Sublist.refl _
theorem gmWay_st (h : GmSt as ms) (hw : w < as.length) : GmSt as (gmWay bh ms w) := by
  refine ⟨by simp [gmWay, h.len], fun m hm => ?_⟩
  rcases List.mem_or_eq_of_mem_set hm with h1 | h1
  · exact h.mb m h1
  · rw [h1]; exact (h.get hw).filter _
theorem gmFold_le : ∀ {ws : List Nat} {ms : List (List Nat)}, LeM (ws.foldl (gmWay bh) ms) ms
  | [], ms => LeM.refl
  | w :: ws, ms => (gmFold_le (ws := ws) (ms := gmWay bh ms w)).trans gmWay_le
theorem gmFold_st : ∀ {ws : List Nat} {ms : List (List Nat)}, GmSt as ms → (∀ w ∈ ws, w < as.length) → GmSt as (ws.foldl (gmWay bh) ms)
  | [], ms, h, _ => h
  | w :: ws, ms, h, hw => gmFold_st (ws := ws) (ms := gmWay bh ms w) (gmWay_st h (hw w (by simp))) fun x hx => hw x (List.mem_cons_of_mem _ hx)
theorem gmFold_eq : ∀ {ws : List Nat} {ms : List (List Nat)}, ws.foldl (gmWay bh) ms = ms → ∀ w ∈ ws, gmWay bh ms w = ms
  | [], ms, _, w, hw => by cases hw
  | x :: ws, ms, h, w, hw => by
    have h1 : gmWay bh ms x = ms := by
      refine LeM.anti gmWay_le ?_
      have := gmFold_le (bh := bh) (ws := ws) (ms := gmWay bh ms x)
      rw [show ws.foldl (gmWay bh) (gmWay bh ms x) = ms from h] at this
      exact this
    rcases List.mem_cons.mp hw with rfl | hw
    · exact h1
    · refine gmFold_eq (ws := ws) ?_ w hw
      have h : ws.foldl (gmWay bh) (gmWay bh ms x) = ms := h
      rw [h1] at h; exact h
theorem ws_lt (A : AsOk as) (hr : r < as.length) : ∀ w ∈ (as.getD r AR0).ws, w < as.length := fun w hw => by
  refine A.ws _ (List.mem_of_getElem? (i := r) ?_) w hw
  simp [List.getD, List.getElem?_eq_getElem hr]
theorem gmStep_st (A : AsOk as) (h : GmSt as ms) (hr : r < as.length) : GmSt as (gmStep as ms r) := gmFold_st h (ws_lt A hr)
theorem gmSteps_st (A : AsOk as) : ∀ {L : List Nat} {ms : List (List Nat)}, GmSt as ms → (∀ r ∈ L, r < as.length) → GmSt as (L.foldl (gmStep as) ms)
  | [], ms, h, _ => h
  | r :: L, ms, h, hr => gmSteps_st A (L := L) (ms := gmStep as ms r) (gmStep_st A h (hr r (by simp))) fun x hx => hr x (List.mem_cons_of_mem _ hx)
theorem gmTurn_st (A : AsOk as) (h : GmSt as ms) : GmSt as (gmTurn as ms) := gmSteps_st A h fun r hr => List.mem_range.mp hr
theorem gmSteps_le : ∀ {L : List Nat} {ms : List (List Nat)}, LeM (L.foldl (gmStep as) ms) ms
  | [], ms => LeM.refl
  | r :: L, ms => (gmSteps_le (L := L) (ms := gmStep as ms r)).trans gmFold_le
theorem gmTurn_le : LeM (gmTurn as ms) ms := gmSteps_le
theorem gmSteps_eq : ∀ {L : List Nat} {ms : List (List Nat)}, L.foldl (gmStep as) ms = ms → ∀ r ∈ L, gmStep as ms r = ms
  | [], ms, _, r, hr => by cases hr
  | x :: L, ms, h, r, hr => by
    have h : L.foldl (gmStep as) (gmStep as ms x) = ms := h
    have h1 : gmStep as ms x = ms := by
      refine LeM.anti gmFold_le ?_
      have := gmSteps_le (as := as) (L := L) (ms := gmStep as ms x)
      rwa [h] at this
    rcases List.mem_cons.mp hr with rfl | hr
    · exact h1
    · rw [h1] at h; exact gmSteps_eq h r hr
theorem gm_holds (h : GmSt as ms) (A : AsOk as) (e : gmTurn as ms = ms) : holdsN as ms = true := by
  rw [hold_iff]
  intro r hr w hw a ha
  have h1 := gmSteps_eq e r (List.mem_range.mpr hr)
  have h2 := gmFold_eq h1 w hw
  have h3 : (gmWay ((as.getD r AR0).behind (ms.getD r [])) ms w).getD w [] = ms.getD w [] := by rw [h2]
  unfold gmWay at h3
  rw [getD_setG, if_pos ⟨rfl, by rw [h.len]; exact ws_lt A hr w hw⟩] at h3
  rw [← h3] at ha
  exact of_decide_eq_true (List.mem_filter.mp ha).2
theorem behind_mono {a : AR} {p q : List Nat} (hp : Mb p) (hq : Mb q) (h : ∀ x ∈ p, x ∈ q) : ∀ x ∈ a.behind p, x ∈ a.behind q := fun y hy => by
  rw [AR.mem_behind hp] at hy
  rw [AR.mem_behind hq]
  refine ⟨hy.1, ?_⟩
  have h2 := hy.2
  cases hw : a.wr with
  | none => rw [hw] at h2; exact h y h2
  | some x =>
    rw [hw] at h2
    simp only at h2 ⊢
    by_cases e : y = x
    · rw [if_pos e] at h2 ⊢
      unfold AR.pub at h2 ⊢
      cases hl : a.ld with
      | some b => rw [hl] at h2; exact h2
      | none =>
        rw [hl] at h2
        simp only [List.all_eq_true, decide_eq_true_eq] at h2 ⊢
        exact fun z hz => h z (h2 z hz)
    · rw [if_neg e] at h2 ⊢
      exact h y h2
structure HoldM (as : List AR) (hs : List (List Nat)) : Prop where
  st : GmSt as hs
  ok : holdsN as hs = true
theorem gmWay_sub {hs : List (List Nat)} (hS : Sub hs ms) (hb : ∀ a ∈ hs.getD w [], a ∈ bh) : Sub hs (gmWay bh ms w) := fun i a ha => by
  unfold gmWay
  rw [getD_setG]
  split
  · rename_i c
    rw [c.1] at ha
    exact List.mem_filter.mpr ⟨hS w a ha, decide_eq_true (hb a ha)⟩
  · exact hS i a ha
theorem gmFold_sub {hs : List (List Nat)} : ∀ {ws : List Nat} {ms : List (List Nat)}, Sub hs ms → (∀ w ∈ ws, ∀ a ∈ hs.getD w [], a ∈ bh) → Sub hs (ws.foldl (gmWay bh) ms)
  | [], ms, h, _ => h
  | w :: ws, ms, h, hb => gmFold_sub (ws := ws) (ms := gmWay bh ms w) (gmWay_sub h (hb w (by simp))) fun x hx => hb x (List.mem_cons_of_mem _ hx)
theorem hold_way {hs : List (List Nat)} (H : HoldM as hs) (h : GmSt as ms) (hS : Sub hs ms) (hr : r < as.length) : ∀ w ∈ (as.getD r AR0).ws, ∀ a ∈ hs.getD w [], a ∈ (as.getD r AR0).behind (ms.getD r []) := fun w hw a ha =>
  behind_mono (H.st.get hr) (h.get hr) (hS r) a (hold_iff.mp H.ok r hr w hw a ha)
theorem gmSteps_sub (A : AsOk as) {hs : List (List Nat)} (H : HoldM as hs) : ∀ {L : List Nat} {ms : List (List Nat)}, GmSt as ms → (∀ r ∈ L, r < as.length) → Sub hs ms → Sub hs (L.foldl (gmStep as) ms)
  | [], ms, _, _, h => h
  | r :: L, ms, h, hr, hS => gmSteps_sub A H (L := L) (ms := gmStep as ms r) (gmStep_st A h (hr r (by simp))) (fun x hx => hr x (List.mem_cons_of_mem _ hx)) (gmFold_sub hS (hold_way H h hS (hr r (by simp))))
theorem gmTurn_sub (A : AsOk as) {hs : List (List Nat)} (H : HoldM as hs) (h : GmSt as ms) (hS : Sub hs ms) : Sub hs (gmTurn as ms) := gmSteps_sub A H h (fun r hr => List.mem_range.mp hr) hS
theorem gmIt_st (A : AsOk as) (h : GmSt as ms) : ∀ n, GmSt as (gmIt as n ms)
  | 0 => h
  | n + 1 => gmTurn_st A (gmIt_st A h n)
theorem gmIt_sub (A : AsOk as) {hs : List (List Nat)} (H : HoldM as hs) (h : GmSt as ms) (hS : Sub hs ms) : ∀ n, Sub hs (gmIt as n ms)
  | 0 => hS
  | n + 1 => gmTurn_sub A H (gmIt_st A h n) (gmIt_sub A H h hS n)
def gmSum (ms : List (List Nat)) : Nat := (ms.map (·.length)).sum
theorem le_sum : ∀ {ms ms' : List (List Nat)}, LeM ms ms' → gmSum ms ≤ gmSum ms' ∧ (gmSum ms = gmSum ms' → ms = ms')
  | [], [], _ => ⟨Nat.le_refl _, fun _ => rfl⟩
  | [], y :: b, h => by cases h.1
  | x :: a, [], h => by cases h.1
  | x :: a, y :: b, h => by
    have h0 : x.Sublist y := by simpa using h.2 0
    have ht : LeM a b := ⟨by simpa using h.1, fun i => by simpa using h.2 (i + 1)⟩
    obtain ⟨i1, i2⟩ := le_sum ht
    have hl := h0.length_le
    unfold gmSum at i1 i2 ⊢
    simp only [List.map_cons, List.sum_cons]
    refine ⟨by omega, fun e => ?_⟩
    rw [h0.eq_of_length (by omega), i2 (by omega)]
theorem gm_fix : ∀ {n k : Nat}, gmTurn as (gmIt as k ms) = gmIt as k ms → gmIt as (k + n) ms = gmIt as k ms
  | 0, k, h => rfl
  | n + 1, k, h => by
    show gmTurn as (gmIt as (k + n) ms) = _
    rw [gm_fix h, h]
theorem gm_rest : ∀ n : Nat, (∃ k, k ≤ n ∧ gmTurn as (gmIt as k ms) = gmIt as k ms) ∨ gmSum (gmIt as (n + 1) ms) + n + 1 ≤ gmSum ms
  | 0 => by
    obtain ⟨h1, h2⟩ := le_sum (gmTurn_le (as := as) (ms := ms))
    by_cases e : gmSum (gmTurn as ms) = gmSum ms
    · exact .inl ⟨0, Nat.le_refl _, h2 e⟩
    · right
      show gmSum (gmTurn as ms) + 0 + 1 ≤ _
      omega
  | n + 1 => by
    rcases gm_rest n with ⟨k, hk, h⟩ | h
    · exact .inl ⟨k, by omega, h⟩
    · obtain ⟨h1, h2⟩ := le_sum (gmTurn_le (as := as) (ms := gmIt as (n + 1) ms))
      by_cases e : gmSum (gmTurn as (gmIt as (n + 1) ms)) = gmSum (gmIt as (n + 1) ms)
      · exact .inl ⟨n + 1, Nat.le_refl _, h2 e⟩
      · right
        show gmSum (gmTurn as (gmIt as (n + 1) ms)) + (n + 1) + 1 ≤ _
        omega
theorem gm_stable {n : Nat} (hn : gmSum ms ≤ n) : gmTurn as (gmIt as n ms) = gmIt as n ms := by
  rcases gm_rest (as := as) (ms := ms) n with ⟨k, hk, h⟩ | h
  · have := gm_fix (n := n - k) h
    rw [show k + (n - k) = n by omega] at this
    rw [this, h]
  · omega
theorem sum_mb : ∀ {ms : List (List Nat)}, (∀ m ∈ ms, Mb m) → gmSum ms ≤ 16 * ms.length
  | [], _ => Nat.zero_le _
  | m :: ms, h => by
    have := sum_mb (ms := ms) fun x hx => h x (List.mem_cons_of_mem _ hx)
    have := (h m (by simp)).len
    unfold gmSum at *
    simp only [List.map_cons, List.sum_cons, List.length_cons]; omega
def GpOk (as : List AR) (st : List (List Nat) × List Nat) : Prop := ∀ r, r < as.length → r ∉ st.2 → ∀ w ∈ (as.getD r AR0).ws, ∀ a ∈ st.1.getD w [], a ∈ (as.getD r AR0).behind (st.1.getD r [])
theorem gpWay_fst {st : List (List Nat) × List Nat} : (gpWay bh st w).1 = gmWay bh st.1 w := by
  unfold gpWay gmWay
  split
  · rename_i h
    refine (List.ext_getElem? fun i => ?_).symm
    rw [h]
    by_cases e : w = i
    · subst e
      by_cases hl : w < st.1.length
      · rw [List.getElem?_set_self hl]; simp [List.getD, List.getElem?_eq_getElem hl]
      · rw [List.set_eq_of_length_le (by omega)]
    · rw [List.getElem?_set_ne e]
  · rfl
theorem gpFold_fst : ∀ {ws : List Nat} {st : List (List Nat) × List Nat}, (ws.foldl (gpWay bh) st).1 = ws.foldl (gmWay bh) st.1
  | [], st => rfl
  | w :: ws, st => by rw [List.foldl_cons, List.foldl_cons, gpFold_fst, gpWay_fst]
theorem gpWay_wait {st : List (List Nat) × List Nat} : (∀ x ∈ st.2, x ∈ (gpWay bh st w).2) ∧ ∀ i, i ∉ (gpWay bh st w).2 → (gpWay bh st w).1.getD i [] = st.1.getD i [] := by
  unfold gpWay
  split
  · exact ⟨fun x hx => hx, fun i _ => rfl⟩
  · refine ⟨fun x hx => List.mem_append_left _ hx, fun i hi => ?_⟩
    rw [getD_setG, if_neg]
    rintro ⟨rfl, _⟩
    exact hi (List.mem_append_right _ (by simp))
theorem gpFold_wait : ∀ {ws : List Nat} {st : List (List Nat) × List Nat}, (∀ x ∈ st.2, x ∈ (ws.foldl (gpWay bh) st).2) ∧ ∀ i, i ∉ (ws.foldl (gpWay bh) st).2 → (ws.foldl (gpWay bh) st).1.getD i [] = st.1.getD i []
  | [], st => ⟨fun _ h => h, fun _ _ => rfl⟩
  | w :: ws, st => by
    obtain ⟨a1, a2⟩ := gpWay_wait (bh := bh) (w := w) (st := st)
    obtain ⟨b1, b2⟩ := gpFold_wait (ws := ws) (st := gpWay bh st w)
    refine ⟨fun x hx => b1 x (a1 x hx), fun i hi => ?_⟩
    rw [List.foldl_cons, b2 i hi, a2 i fun c => hi (b1 i c)]
theorem gmFold_in : ∀ {ws : List Nat} {ms : List (List Nat)}, (∀ w ∈ ws, w < ms.length) → ∀ w ∈ ws, ∀ a ∈ (ws.foldl (gmWay bh) ms).getD w [], a ∈ bh
  | [], ms, _, w, hw => by cases hw
  | x :: ws, ms, hl, w, hw => by
    intro a ha
    have hl2 : ∀ y ∈ ws, y < (gmWay bh ms x).length := fun y hy => by rw [gmWay_le.1]; exact hl y (List.mem_cons_of_mem _ hy)
    by_cases h : w ∈ ws
    · exact gmFold_in hl2 w h a ha
    · have e : w = x := by rcases List.mem_cons.mp hw with h' | h'; exact h'; exact absurd h' h
      subst e
      have := (gmFold_le (bh := bh) (ws := ws) (ms := gmWay bh ms w)).2 w
      have ha2 := this.subset ha
      unfold gmWay at ha2
      rw [getD_setG, if_pos ⟨rfl, hl w (by simp)⟩] at ha2
      exact of_decide_eq_true (List.mem_filter.mp ha2).2
theorem gpStep_ok (A : AsOk as) {st : List (List Nat) × List Nat} (h : GpSt as st) (ho : GpOk as st) : GpOk as (gpStep as st) := by
  unfold gpStep
  cases e : st.2.getLast? with
  | none => exact ho
  | some r =>
    simp only
    have hrm : r ∈ st.2 := List.mem_of_getLast? e
    have hr := h.wt r hrm
    have hsp : st.2 = st.2.dropLast ++ [r] := by
      obtain ⟨ys, hy⟩ := List.getLast?_eq_some_iff.mp e
      rw [hy, List.dropLast_concat]
    intro r' hr' hn w hw a ha
    obtain ⟨w1, w2⟩ := gpFold_wait (bh := (as.getD r AR0).behind (st.1.getD r [])) (ws := (as.getD r AR0).ws) (st := (st.1, st.2.dropLast))
    have e' := w2 r' hn
    rw [e']
    by_cases hx : r' = r
    · subst hx
      rw [gpFold_fst] at ha
      exact gmFold_in (fun w hw => by rw [h.len]; exact ws_lt A hr w hw) w hw a ha
    · have hn2 : r' ∉ st.2 := fun c => by
        rw [hsp] at c
        rcases List.mem_append.mp c with c | c
        · exact hn (w1 r' c)
        · exact hx (List.mem_singleton.mp c)
      refine ho r' hr' hn2 w hw a ?_
      rw [gpFold_fst] at ha
      exact (gmFold_le.2 w).subset ha
theorem gpStep_st (A : AsOk as) {st : List (List Nat) × List Nat} (h : GpSt as st) : GpSt as (gpStep as st) := by
  unfold gpStep
  cases e : st.2.getLast? with
  | none => exact h
  | some r =>
    simp only
    have hr := h.wt r (List.mem_of_getLast? e)
    exact (GpSt.fold (st := (st.1, st.2.dropLast)) ⟨h.len, h.mb, fun w hw => h.wt w (List.dropLast_subset _ hw)⟩ (ws_lt A hr)).1
theorem gpStep_sub (A : AsOk as) {hs : List (List Nat)} (H : HoldM as hs) {st : List (List Nat) × List Nat} (h : GpSt as st) (hS : Sub hs st.1) : Sub hs (gpStep as st).1 := by
  unfold gpStep
  cases e : st.2.getLast? with
  | none => exact hS
  | some r =>
    simp only
    have hr := h.wt r (List.mem_of_getLast? e)
    rw [gpFold_fst]
    exact gmFold_sub hS (hold_way H ⟨h.len, h.mb⟩ hS hr)
theorem gpIt_all (A : AsOk as) {hs : List (List Nat)} (H : HoldM as hs) : ∀ {n : Nat} {st : List (List Nat) × List Nat}, GpSt as st → GpOk as st → Sub hs st.1 → GpSt as (gpIt as n st) ∧ GpOk as (gpIt as n st) ∧ Sub hs (gpIt as n st).1
  | 0, st, a, b, c => ⟨a, b, c⟩
  | n + 1, st, a, b, c => gpIt_all A H (n := n) (gpStep_st A a) (gpStep_ok A a b) (gpStep_sub A H a c)
theorem sub_eq {hs : List (List Nat)} (a : GmSt as ms) (b : GmSt as hs) (h1 : Sub ms hs) (h2 : Sub hs ms) : ms = hs := by
  refine List.ext_getElem? fun i => ?_
  by_cases hi : i < as.length
  · have l1 : i < ms.length := by rw [a.len]; exact hi
    have l2 : i < hs.length := by rw [b.len]; exact hi
    have e := (a.get hi).ext (b.get hi) fun x => ⟨h1 i x, h2 i x⟩
    rw [List.getElem?_eq_getElem l1, List.getElem?_eq_getElem l2]
    simp only [List.getD, List.getElem?_eq_getElem l1, List.getElem?_eq_getElem l2, Option.getD_some] at e
    rw [e]
  · rw [List.getElem?_eq_none (by rw [a.len]; omega), List.getElem?_eq_none (by rw [b.len]; omega)]
def gm0 (n : Nat) : List (List Nat) := List.replicate n (List.range 16)
theorem gm0_st : GmSt as (gm0 as.length) := ⟨by simp [gm0], fun m hm => by
  have : m = List.range 16 := by simp [gm0] at hm; exact hm.2
  rw [this]; exact ⟨List.pairwise_lt_range, fun a ha => List.mem_range.mp ha⟩⟩
theorem gm0_sub {hs : List (List Nat)} (b : GmSt as hs) : Sub hs (gm0 as.length) := fun i a ha => by
  by_cases hi : i < as.length
  · have : (gm0 as.length).getD i [] = List.range 16 := by simp [gm0, List.getD, hi]
    rw [this]; exact List.mem_range.mpr ((b.get hi).lt a ha)
  · have : hs.getD i [] = [] := by simp [List.getD, List.getElem?_eq_none (show hs.length ≤ i by rw [b.len]; omega)]
    rw [this] at ha; cases ha
theorem gm_gp (A : AsOk as) {n k : Nat} {gs : List (List Nat)} (hg : gpIt as k (gp0 as.length) = (gs, [])) (hs : gmTurn as (gmIt as n (gm0 as.length)) = gmIt as n (gm0 as.length)) : gmIt as n (gm0 as.length) = gs := by
  have s1 := gmIt_st A gm0_st n
  have H1 : HoldM as (gmIt as n (gm0 as.length)) := ⟨s1, gm_holds s1 A hs⟩
  obtain ⟨a1, a2, a3⟩ := gpIt_all A H1 (n := k) (st := gp0 as.length) gp0_ok (fun r hr hn => absurd (by simpa [gp0] using hr) hn) (gm0_sub s1)
  rw [hg] at a1 a2 a3
  have s2 : GmSt as gs := ⟨a1.len, a1.mb⟩
  have H2 : HoldM as gs := ⟨s2, hold_iff.mpr fun r hr w hw a ha => a2 r hr (by simp) w hw a ha⟩
  exact sub_eq s1 s2 a3 (gmIt_sub A H2 gm0_st (gm0_sub s2) n)
end
end Ly
set_option Elab.async false
set_option linter.all false
set_option maxRecDepth 100000
namespace Ly
open PySem PySem.Spec L2
open PyProof.Rows hiding St
local macro_rules | `(tactic| simp_arith [$ls,*]) => `(tactic| simp only [Ly.line_le, Ly.atX_no, Ly.v_ok, Ly.v_bad, Ly.v_bind, Ly.k_bd, Ly.v_at, Ly.v_bin, Ly.k_bi, Ly.k_bi2, Ly.v_var, Ly.v_c, Ly.v_un, Ly.k_un, Ly.v_if, Ly.k_ife, Ly.v_and, Ly.k_and, Ly.k_and2, Ly.v_or, Ly.k_or, Ly.k_or2, Ly.v_tup, Ly.k_tup, Ly.v_lst, Ly.k_lst, Ly.v_call, Ly.k_ca, Ly.v_fn, Ly.k_fn, Ly.v_bm, Ly.k_bm, Ly.k_bm2, Ly.v_sl, Ly.k_sl, Ly.k_sl2, Ly.k_sl3, Ly.v_ixK, Ly.k_ixk, Ly.v_inK, Ly.k_ink, Ly.v_notinK, Ly.k_nink, Ly.v_getK2, Ly.k_gk2, Ly.k_gk, Ly.v_get2, Ly.k_g2, Ly.k_g22, Ly.k_g23, Ly.v_nil, Ly.v_cons, Ly.k_co, Ly.k_co2, Ly.v_no, Ly.v_some, Ly.k_so, Ly.k_cm, Ly.v_cmp, Ly.v_tru, Ly.k_tr, Ly.v_notB, Ly.k_no, Ly.v_andB, Ly.k_an, Ly.v_orB, Ly.k_orb, Ly.v_yes, Ly.v_inKB, Ly.k_inkB, Ly.v_notinKB, Ly.k_ninkB, Ly.v_set, Ly.k_st, Ly.v_expr, Ly.k_ex, Ly.v_ret, Ly.k_re, Ly.v_retN, Ly.v_pass, Ly.v_brk, Ly.v_cnt, Ly.v_seq, Ly.k_sq_nx, Ly.k_sq_rt, Ly.k_sq_bk, Ly.k_sq_ct, Ly.v_ifS, Ly.k_ifs, Ly.v_asg, Ly.k_as, Ly.k_as2, Ly.v_aug, Ly.k_au, Ly.v_for, Ly.k_fo, Ly.v_it, Ly.k_it, Ly.k_ij, Ly.v_rng1, Ly.v_rng2, Ly.v_enum, Ly.v_zip, Ly.v_ez, Ly.v_gN, Ly.v_gsN, Ly.v_gsC, Ly.k_gc, Ly.v_gT, Ly.v_gTw, Ly.v_gSb, Ly.k_gsb, Ly.k_gsb2, Ly.k_gsb3, Ly.k_en_rt, Ly.k_en_nx, Ly.k_tu_nx, Ly.k_tu_ct, Ly.k_tu_bk, Ly.k_tu_rt, Ly.v_lc, Ly.k_lc, Ly.v_augI, Ly.k_ag, Ly.k_ag2, Ly.k_ag3, Ly.k_ag4, Ly.k_ag5, Ly.v_del, Ly.k_dl, Ly.k_dl2, Ly.v_setd, Ly.v_pop2, Ly.k_d3, Ly.k_d32, Ly.k_d33, Ly.v_get1, Ly.k_g1, Ly.k_g12, Ly.v_rg1, Ly.k_rg, Ly.v_rg2, Ly.k_rg2, Ly.k_rg22, Ly.v_dicK, Ly.v_dicT, Ly.v_dc, Ly.k_dc, List.getElem?_cons_zero, List.getElem?_cons_succ, List.set_cons_zero, List.set_cons_succ, List.length_cons, List.length_nil, List.map_cons, List.map_nil, List.cons_append, List.nil_append, List.replicate, if_true, if_false, Bool.false_eq_true, Bool.not_true, Bool.not_false, Bool.true_and, Bool.false_and, decide_true, decide_false, decide_eq_true_eq, Nat.zero_add, Nat.reduceAdd, Nat.reduceLeDiff, true_and, and_true, $ls,*])
structure PapAt (S : Hs) (q : Nat) (ms : List (List Nat)) (ps : List Nat) : Prop where
  at_ : S[q]? = some (.lst (ps.map D.ref))
  len : ps.length = ms.length
  el : ∀ i, i < ms.length → S[ps.getD i 0]? = some (.lst (nDs (ms.getD i []))) ∧ ps.getD i 0 ≠ q
def PapE (S : Hs) (q : Nat) (ms : List (List Nat)) : Prop := ∃ ps, PapAt S q ms ps
noncomputable def lbW (p b w o : Nat) : MS := (mAsg (mLc (mIt (mBin oIx (mVar p) (mVar w))) (cN o) (mCmp oIn (mVar o) (mVar b)) (mVar o) [o]) (gSb (mVar p) (mVar w)))
noncomputable def lbR (c p r b w o : Nat) : MS := (mSeq (mSet b (mFn m_behindG (lCons (mVar c) (lCons (mVar r) (lCons (mBin oIx (mVar p) (mVar r)) lNil)))))
    (mFor (mIt (mFn m_waysG (lCons (mVar c) (lCons (mVar r) lNil)))) (gN w) (lbW p b w o)))
noncomputable def lbT (c p r b w o : Nat) : MS := mFor (mRng1 (lCons (mCall bLen (lCons (mVar p) lNil)) lNil)) (gN r) (lbR c p r b w o)
structure AgL (T : List Nat) (l l' : Ls) : Prop where
  len : l'.length = l.length
  ag : ∀ i, i ∉ T → l'[i]? = l[i]?
section
variable {S S' : Hs} {q : Nat} {ms : List (List Nat)} {ps : List Nat} {l l1 l2 : Ls} {T : List Nat}
theorem AgL.refl : AgL T l l := ⟨rfl, fun _ _ => rfl⟩
theorem AgL.trans (a : AgL T l l1) (b : AgL T l1 l2) : AgL T l l2 := ⟨b.len.trans a.len, fun i h => (b.ag i h).trans (a.ag i h)⟩
theorem AgL.set {i : Nat} {o : Option D} (h : i ∈ T) : AgL T l (l.set i o) := ⟨by simp, fun k hk => List.getElem?_set_ne fun e => by subst e; exact hk h⟩
theorem AgL.sub {T' : List Nat} (a : AgL T l l1) (h : ∀ i ∈ T, i ∈ T') : AgL T' l l1 := ⟨a.len, fun i hi => a.ag i fun c => hi (h i c)⟩
theorem PapAt.kp (h : PapAt S q ms ps) (k : Kp [] S S') : PapAt S' q ms ps := ⟨k.get h.at_ (by simp), h.len, fun i hi => ⟨k.get (h.el i hi).1 (by simp), (h.el i hi).2⟩⟩
theorem PapE.kp (h : PapE S q ms) (k : Kp [] S S') : PapE S' q ms := by obtain ⟨ps, h⟩ := h; exact ⟨ps, h.kp k⟩
theorem PapAt.ix (h : PapAt S q ms ps) {i : Nat} (hi : i < ms.length) : oIx (.ref q) (nD i) S = .ok (.ref (ps.getD i 0)) S := by
  have hl : i < ps.length := by rw [h.len]; exact hi
  refine oIx_lst h.at_ (Int.natCast_nonneg i) (by simp; omega) ?_
  simp [List.getD, List.getElem?_eq_getElem hl]
theorem PapAt.put (h : PapAt S q ms ps) {n w : Nat} {x : List Nat} (hn : S[n]? = some (.lst (nDs x))) (hnq : n ≠ q) : PapAt (S.set q (.lst ((ps.set w n).map D.ref))) q (ms.set w x) (ps.set w n) := by
  refine ⟨get_put h.at_, by simp [h.len], fun i hi => ?_⟩
  rw [List.length_set] at hi
  have hl : i < ps.length := by rw [h.len]; exact hi
  have e1 : (ps.set w n).getD i 0 = if i = w then n else ps.getD i 0 := by
    simp only [List.getD]
    by_cases e : w = i
    · subst e; rw [List.getElem?_set_self hl]; simp
    · rw [List.getElem?_set_ne e, if_neg (fun c => e c.symm)]
  rw [e1, getD_setG]
  by_cases e : i = w
  · subst e
    rw [if_pos rfl, if_pos ⟨rfl, hi⟩, List.getElem?_set_ne (Ne.symm hnq)]
    exact ⟨hn, hnq⟩
  · rw [if_neg e, if_neg (fun c => e c.1), List.getElem?_set_ne (Ne.symm (h.el i hi).2)]
    exact h.el i hi
theorem filterMap_nats (f : Nat → Bool) (L : List Nat) : L.filterMap (fun y => if f y = true then some (nD y) else none) = nDs (L.filter f) := by
  induction L with
  | nil => rfl
  | cons a L ih =>
    rw [List.filterMap_cons, List.filter_cons]
    cases f a with
    | false => simpa using ih
    | true => simp only [if_true, List.map_cons, ih]
theorem setLG {S : Hs} {q : Nat} {xs : List D} {k : Nat} {d : D} (h : S[q]? = some (.lst xs)) (hk : k < xs.length) : oSet (.ref q) (nD k) d S = .ok () (S.set q (.lst (xs.set k d))) := by
  have e1 : ixN xs.length (k : Int) = some k := by
    unfold ixN
    rw [if_pos (Int.natCast_nonneg k), if_pos (by omega)]
    simp
  simp only [oSet, h, nD, e1]
theorem lbW_ok {p b w o wy : Nat} {bh : List Nat} {d : D} (hA : PapE S q ms) (hw : wy < ms.length) (h1 : l[p]? = some (some (.ref q))) (h2 : l[b]? = some (some d)) (hd : NatsAt S d bh) (h3 : l[w]? = some (some (nD wy)))
    (hop : o ≠ p) (hob : o ≠ b) (hol : o < l.length) (hb : (ms.getD wy []).length ≤ 1000000) : Wp NoX (lbW p b w o l S) fun f S' => f = .nx l ∧ PapE S' q (gmWay bh ms wy) ∧ Kp [q] S S' := by
  obtain ⟨ps, hA⟩ := hA
  obtain ⟨e1, e2⟩ := hA.el wy hw
  have hl : wy < ps.length := by rw [hA.len]; exact hw
  unfold lbW
  simp_arith [Ly.v_fld, Ly.v_meth, Ly.k_me2, Ly.v_make, Ly.k_mk, Ly.v_fldset, Ly.k_fs, Ly.v_fldaug, Ly.k_fa2, Ly.look1, List.mem_cons, List.not_mem_nil, or_false, true_or, or_true, h1, h3, hA.ix hw, oIt_lst e1, wipe1]
  refine lc_pure nD (S := S) (xs := ms.getD wy []) (fun a => if decide (a ∈ bh) = true then some (nD a) else none) (fun S' hS' j hj => ?_) hb (fun y hy S' hS' => ?_) (fun S' g1 g2 => ?_)
  · simp only [itGo, seqAt_lst (hS'.get e1 (by simp)), Option.map_some, List.getElem?_map]
  · refine ⟨_, rfl, ?_⟩
    have s1 : ((l.set o none).set o (some (nD y)))[o]? = some (some (nD y)) := List.getElem?_set_self (by simpa using hol)
    have s2 : ((l.set o none).set o (some (nD y)))[b]? = some (some d) := by rw [List.getElem?_set_ne hob, List.getElem?_set_ne hob]; exact h2
    simp_arith [Ly.v_fld, Ly.v_meth, Ly.k_me2, Ly.v_make, Ly.k_mk, Ly.v_fldset, Ly.k_fs, Ly.v_fldaug, Ly.k_fa2, Ly.look1, List.mem_cons, List.not_mem_nil, or_false, true_or, or_true, s1, s2, (hd.kp hS').inn]
    refine ⟨Kp.refl, ?_⟩
    by_cases hm : y ∈ bh
    · simp_arith [Ly.v_fld, Ly.v_meth, Ly.k_me2, Ly.v_make, Ly.k_mk, Ly.v_fldset, Ly.k_fs, Ly.v_fldaug, Ly.k_fa2, Ly.look1, List.mem_cons, List.not_mem_nil, or_false, true_or, or_true, hm, s1]; exact Kp.refl
    · simp [hm]
  · rw [filterMap_nats] at g1
    have hA2 := hA.kp g2
    have hnq : S.length ≠ q := fun e => by have := Real.lt hA.at_; omega
    simp_arith [Ly.v_fld, Ly.v_meth, Ly.k_me2, Ly.v_make, Ly.k_mk, Ly.v_fldset, Ly.k_fs, Ly.v_fldaug, Ly.k_fa2, Ly.look1, List.mem_cons, List.not_mem_nil, or_false, true_or, or_true, h1, h3, setLG hA2.at_ (k := wy) (by simpa using hl)]
    have h4 := hA2.put (w := wy) g1 hnq
    rw [List.map_set] at h4
    exact ⟨⟨_, h4⟩, (g2.sub (by simp)).trans (Kp.set (by simp))⟩
variable {rs : List Rg} {rows : List MRow}
theorem lbR_ok {c p r b w o k : Nat} (c0 : CodeG rs rows) (hA : PapE S q ms) (hg : GmSt (ars rs rows) ms) (hk : k < rows.length) (hc : l[c]? = some (some (codeD rs rows))) (h1 : l[p]? = some (some (.ref q))) (hr : l[r]? = some (some (nD k)))
    (dis : [c, p, r, b, w, o].Nodup) (hlt : ∀ i ∈ [c, p, r, b, w, o], i < l.length) : Wp NoX (lbR c p r b w o l S) fun f S' => ∃ l', f = .nx l' ∧ AgL [b, w] l l' ∧ PapE S' q (gmStep (ars rs rows) ms k) ∧ Kp [q] S S' := by
  simp only [List.nodup_cons, List.mem_cons, List.not_mem_nil, or_false, not_or, not_false_eq_true, List.nodup_nil, and_true] at dis
  obtain ⟨⟨d1, d2, d3, d4, d5⟩, ⟨d6, d7, d8, d9⟩, ⟨d10, d11, d12⟩, ⟨d13, d14⟩, d15⟩ := dis
  have hbl : b < l.length := hlt b (by simp)
  have hwl : w < l.length := hlt w (by simp)
  have hol : o < l.length := hlt o (by simp)
  have A := asOk c0.ok
  have hlen : ms.length = rows.length := by rw [hg.len, ars_len]
  obtain ⟨ps, hP⟩ := hA
  have hkm : k < ms.length := by omega
  obtain ⟨e1, e2⟩ := hP.el k hkm
  have hrow : rows[k]? = some (rows.getD k (.stop 0)) := by simp [List.getD, List.getElem?_eq_getElem hk]
  have hqS := Real.lt hP.at_
  unfold lbR
  rw [v_seq]
  simp_arith [Ly.v_fld, Ly.v_meth, Ly.k_me2, Ly.v_make, Ly.k_mk, Ly.v_fldset, Ly.k_fs, Ly.v_fldaug, Ly.k_fa2, Ly.look1, List.mem_cons, List.not_mem_nil, or_false, true_or, or_true, hc, hr, h1, hP.ix hkm, -v_seq]
  refine Wp.call (behind_G (by have := c0.few; omega) c0.lab hrow (.inr ⟨_, rfl, e1⟩)) ?_
  rintro _ S1 ⟨q1, rfl, b1, b2, k1⟩
  simp_arith [Ly.v_fld, Ly.v_meth, Ly.k_me2, Ly.v_make, Ly.k_mk, Ly.v_fldset, Ly.k_fs, Ly.v_fldaug, Ly.k_fa2, Ly.look1, List.mem_cons, List.not_mem_nil, or_false, true_or, or_true, -v_seq]
  have hne : (D.ref q1) ≠ .ref q := fun e => by injection e with e; omega
  have f1 : ∀ i, i ≠ b → (l.set b (some (.ref q1)))[i]? = l[i]? := fun i hi => List.getElem?_set_ne (Ne.symm hi)
  have fb : (l.set b (some (.ref q1)))[b]? = some (some (.ref q1)) := List.getElem?_set_self hbl
  simp_arith [Ly.v_fld, Ly.v_meth, Ly.k_me2, Ly.v_make, Ly.k_mk, Ly.v_fldset, Ly.k_fs, Ly.v_fldaug, Ly.k_fa2, Ly.look1, List.mem_cons, List.not_mem_nil, or_false, true_or, or_true, f1 c d3, f1 r d10, hc, hr]
  refine Wp.call (ways_G (rs := rs) hrow) ?_
  rintro _ S2 ⟨q2, rfl, w1, w2, k2⟩
  simp_arith [Ly.v_fld, Ly.v_meth, Ly.k_me2, Ly.v_make, Ly.k_mk, Ly.v_fldset, Ly.k_fs, Ly.v_fldaug, Ly.k_fa2, Ly.look1, List.mem_cons, List.not_mem_nil, or_false, true_or, or_true, oIt_lst w1]
  have hq2 : q2 ≠ q := by have := k1.le; omega
  have hws : ∀ x ∈ (rows.getD k (.stop 0)).ways k, x < ms.length := fun x hx => by
    have := ws_lt A (r := k) (by rw [ars_len]; exact hk) x (by rw [ars_at hk]; exact hx)
    rw [ars_len] at this; omega
  have hAR : (ars rs rows).getD k AR0 = (rows.getD k (.stop 0)).ar rs k := ars_at hk
  refine wp_lstM nD (xs := (rows.getD k (.stop 0)).ways k) (fun pre l' S' => AgL [b, w] l l' ∧ l'[b]? = some (some (.ref q1)) ∧ PapE S' q (pre.foldl (gmWay ((ars rs rows |>.getD k AR0).behind (ms.getD k []))) ms) ∧ Kp [q] S S' ∧ S'[q2]? = some (.lst (nDs ((rows.getD k (.stop 0)).ways k))) ∧ S'[q1]? = some (.lst (nDs (((rows.getD k (.stop 0)).ar rs k).behind (ms.getD k [])))))
    (fun pre l' S' h => seqAt_lst h.2.2.2.2.1) ⟨AgL.set (by simp), fb, ⟨ps, (hP.kp k1).kp k2⟩, (k1.trans k2).sub (by simp), w1, k2.get b1 (by simp)⟩ ?_ ?_
  · rintro pre x post l' S' hsp ⟨ag, hb', hP', K', g1, g2⟩
    have hx : x < ms.length := hws x (by rw [hsp]; simp)
    have st' := gmFold_st (bh := ((ars rs rows).getD k AR0).behind (ms.getD k [])) (ws := pre) hg (fun y hy => by have := hws y (by rw [hsp]; simp [hy]); rw [ars_len]; omega)
    have hml : (pre.foldl (gmWay ((ars rs rows |>.getD k AR0).behind (ms.getD k []))) ms).length = ms.length := by rw [st'.len, hg.len]
    simp_arith [Ly.v_fld, Ly.v_meth, Ly.k_me2, Ly.v_make, Ly.k_mk, Ly.v_fldset, Ly.k_fs, Ly.v_fldaug, Ly.k_fa2, Ly.look1, List.mem_cons, List.not_mem_nil, or_false, true_or, or_true]
    have fp : (l'.set w (some (nD x)))[p]? = some (some (.ref q)) := by rw [List.getElem?_set_ne (Ne.symm d8), ag.ag p (by simp [d7, d8]), h1]
    have fb2 : (l'.set w (some (nD x)))[b]? = some (some (.ref q1)) := by rw [List.getElem?_set_ne (Ne.symm d13), hb']
    have fw : (l'.set w (some (nD x)))[w]? = some (some (nD x)) := List.getElem?_set_self (by rw [ag.len]; exact hwl)
    have hmb := (st'.get (i := x) (by rw [ars_len]; omega)).len
    refine Wp.call (lbW_ok hP' (by rw [hml]; exact hx) fp fb2 (.inr ⟨q1, rfl, g2⟩) fw (Ne.symm d9) (Ne.symm d14) (by rw [List.length_set, ag.len]; exact hol) (by omega)) ?_
    rintro f S3 ⟨rfl, hP3, k3⟩
    refine ⟨ag.trans (AgL.set (by simp)), fb2, ?_, K'.trans k3, k3.get g1 (by simp; exact hq2), k3.get g2 (by simp; rintro rfl; exact hne rfl)⟩
    rw [List.foldl_append, hAR] at *
    exact hP3
  · rintro l' S' ⟨ag, hb', hP', K', g1, g2⟩
    refine ⟨l', rfl, ag, ?_, K'⟩
    unfold gmStep
    rw [hAR] at *
    exact hP'
theorem lbT_ok {c p r b w o : Nat} (c0 : CodeG rs rows) (hA : PapE S q ms) (hg : GmSt (ars rs rows) ms) (hc : l[c]? = some (some (codeD rs rows))) (h1 : l[p]? = some (some (.ref q)))
    (dis : [c, p, r, b, w, o].Nodup) (hlt : ∀ i ∈ [c, p, r, b, w, o], i < l.length) : Wp NoX (lbT c p r b w o l S) fun f S' => ∃ l', f = .nx l' ∧ AgL [r, b, w] l l' ∧ PapE S' q (gmTurn (ars rs rows) ms) ∧ Kp [q] S S' := by
  have hlen : ms.length = rows.length := by rw [hg.len, ars_len]
  have A := asOk c0.ok
  have hsh := c0.short
  have dis2 := dis
  simp only [List.nodup_cons, List.mem_cons, List.not_mem_nil, or_false, not_or, not_false_eq_true, List.nodup_nil, and_true] at dis2
  obtain ⟨⟨d1, d2, d3, d4, d5⟩, ⟨d6, d7, d8, d9⟩, ⟨d10, d11, d12⟩, ⟨d13, d14⟩, d15⟩ := dis2
  obtain ⟨ps, hP⟩ := hA
  unfold lbT
  have hpl : ps.length = rows.length := by rw [hP.len, hlen]
  simp_arith [Ly.v_fld, Ly.v_meth, Ly.k_me2, Ly.v_make, Ly.k_mk, Ly.v_fldset, Ly.k_fs, Ly.v_fldaug, Ly.k_fa2, Ly.look1, List.mem_cons, List.not_mem_nil, or_false, true_or, or_true, h1, bLen_lst hP.at_, List.length_map, hpl, show oRng1 [.int (rows.length : Int)] S = _ from rng1 _ (by omega) (by omega), Int.toNat_natCast]
  refine wp_rng (fun k l' S' => AgL [r, b, w] l l' ∧ PapE S' q ((List.range k).foldl (gmStep (ars rs rows)) ms) ∧ Kp [q] S S') ⟨AgL.refl, ⟨ps, hP⟩, Kp.refl⟩ ?_ ?_
  · rintro k l' S' hk ⟨ag, hP', K'⟩
    simp_arith [Ly.v_fld, Ly.v_meth, Ly.k_me2, Ly.v_make, Ly.k_mk, Ly.v_fldset, Ly.k_fs, Ly.v_fldaug, Ly.k_fa2, Ly.look1, List.mem_cons, List.not_mem_nil, or_false, true_or, or_true]
    rw [show (0 : Int) + (k : Int) = (k : Int) by omega]
    have st' := gmSteps_st A (L := List.range k) hg (fun y hy => by rw [ars_len]; have := List.mem_range.mp hy; omega)
    have hrl : r < l.length := hlt r (by simp)
    refine Wp.call (lbR_ok c0 hP' st' hk (l := l'.set r (some (nD k))) (by rw [List.getElem?_set_ne (Ne.symm d2), ag.ag c (by simp [d2, d3, d4]), hc]) (by rw [List.getElem?_set_ne (Ne.symm d6), ag.ag p (by simp [d6, d7, d8]), h1]) (List.getElem?_set_self (by rw [ag.len]; exact hrl)) dis (fun i hi => by rw [List.length_set, ag.len]; exact hlt i hi)) ?_
    rintro f S3 ⟨l3, rfl, ag3, hP3, k3⟩
    refine ⟨(ag.trans (AgL.set (by simp))).trans (ag3.sub (by simp)), ?_, K'.trans k3⟩
    rw [List.range_succ, List.foldl_append]
    exact hP3
  · rintro l' S' ⟨ag, hP', K'⟩
    refine ⟨l', rfl, ag, ?_, K'⟩
    unfold gmTurn
    rw [ars_len]
    exact hP'
end
end Ly
set_option Elab.async false
set_option linter.all false
set_option maxRecDepth 100000
namespace Ly
open PySem PySem.Spec L2
open PyProof.Rows hiding St
local macro_rules | `(tactic| simp_arith [$ls,*]) => `(tactic| simp only [Ly.line_le, Ly.atX_no, Ly.v_ok, Ly.v_bad, Ly.v_bind, Ly.k_bd, Ly.v_at, Ly.v_bin, Ly.k_bi, Ly.k_bi2, Ly.v_var, Ly.v_c, Ly.v_un, Ly.k_un, Ly.v_if, Ly.k_ife, Ly.v_and, Ly.k_and, Ly.k_and2, Ly.v_or, Ly.k_or, Ly.k_or2, Ly.v_tup, Ly.k_tup, Ly.v_lst, Ly.k_lst, Ly.v_call, Ly.k_ca, Ly.v_fn, Ly.k_fn, Ly.v_bm, Ly.k_bm, Ly.k_bm2, Ly.v_sl, Ly.k_sl, Ly.k_sl2, Ly.k_sl3, Ly.v_ixK, Ly.k_ixk, Ly.v_inK, Ly.k_ink, Ly.v_notinK, Ly.k_nink, Ly.v_getK2, Ly.k_gk2, Ly.k_gk, Ly.v_get2, Ly.k_g2, Ly.k_g22, Ly.k_g23, Ly.v_nil, Ly.v_cons, Ly.k_co, Ly.k_co2, Ly.v_no, Ly.v_some, Ly.k_so, Ly.k_cm, Ly.v_cmp, Ly.v_tru, Ly.k_tr, Ly.v_notB, Ly.k_no, Ly.v_andB, Ly.k_an, Ly.v_orB, Ly.k_orb, Ly.v_yes, Ly.v_inKB, Ly.k_inkB, Ly.v_notinKB, Ly.k_ninkB, Ly.v_set, Ly.k_st, Ly.v_expr, Ly.k_ex, Ly.v_ret, Ly.k_re, Ly.v_retN, Ly.v_pass, Ly.v_brk, Ly.v_cnt, Ly.v_seq, Ly.k_sq_nx, Ly.k_sq_rt, Ly.k_sq_bk, Ly.k_sq_ct, Ly.v_ifS, Ly.k_ifs, Ly.v_asg, Ly.k_as, Ly.k_as2, Ly.v_aug, Ly.k_au, Ly.v_for, Ly.k_fo, Ly.v_it, Ly.k_it, Ly.k_ij, Ly.v_rng1, Ly.v_rng2, Ly.v_enum, Ly.v_zip, Ly.v_ez, Ly.v_gN, Ly.v_gsN, Ly.v_gsC, Ly.k_gc, Ly.v_gT, Ly.v_gTw, Ly.v_gSb, Ly.k_gsb, Ly.k_gsb2, Ly.k_gsb3, Ly.k_en_rt, Ly.k_en_nx, Ly.k_tu_nx, Ly.k_tu_ct, Ly.k_tu_bk, Ly.k_tu_rt, Ly.v_lc, Ly.k_lc, Ly.v_augI, Ly.k_ag, Ly.k_ag2, Ly.k_ag3, Ly.k_ag4, Ly.k_ag5, Ly.v_del, Ly.k_dl, Ly.k_dl2, Ly.v_setd, Ly.v_pop2, Ly.k_d3, Ly.k_d32, Ly.k_d33, Ly.v_get1, Ly.k_g1, Ly.k_g12, Ly.v_rg1, Ly.k_rg, Ly.v_rg2, Ly.k_rg2, Ly.k_rg22, Ly.v_dicK, Ly.v_dicT, Ly.v_dc, Ly.k_dc, List.getElem?_cons_zero, List.getElem?_cons_succ, List.set_cons_zero, List.set_cons_succ, List.length_cons, List.length_nil, List.map_cons, List.map_nil, List.cons_append, List.nil_append, List.replicate, if_true, if_false, Bool.false_eq_true, Bool.not_true, Bool.not_false, Bool.true_and, Bool.false_and, decide_true, decide_false, decide_eq_true_eq, Nat.zero_add, Nat.reduceAdd, Nat.reduceLeDiff, true_and, and_true, $ls,*])
abbrev dgs (a : Nat) : Str := PyData.shown (.int (Int.ofNat a))
def wM (m : List Nat) : Nat := (m.map fun a => (dgs a).length + 2).sum
def wO (ms : List (List Nat)) : Nat := (ms.map fun m => max 2 (wM m) + 2).sum
abbrev intM (ms : List (List Nat)) : List (List Int) := ms.map fun m => m.map Int.ofNat
theorem dgs_len : ∀ a, a < 16 → 1 ≤ (dgs a).length ∧ (dgs a).length ≤ 2 := by
  have h : (List.range 16).all (fun a => decide (1 ≤ (dgs a).length ∧ (dgs a).length ≤ 2)) = true := by decide +kernel
  intro a ha
  exact of_decide_eq_true (List.all_eq_true.mp h a (List.mem_range.mpr ha))
theorem listText_len (ts : List Str) : (listText ts).length = max 2 ((ts.map fun t => t.length + 2).sum) := by
  have hl : (listText ts).length = (textFrom 0 "[" ts).length + 1 := by
    show (textFrom 0 "[" ts ++ "]").length = _
    rw [strLen_append]; rfl
  rw [hl]
  cases ts with
  | nil => rfl
  | cons t r =>
    have e : textFrom 0 "[" (t :: r) = textFrom 1 ("[" ++ ("" : String) ++ t) r := rfl
    rw [e, textFrom_length_pos r 1 _ (by decide)]
    have e2 : ((("[" : Str) ++ ("" : String) ++ t) : Str).length = 1 + t.length := by
      rw [strLen_append, strLen_append]; rfl
    have e3 : piled r = (r.map fun t => t.length + 2).sum := rfl
    rw [e2, e3, List.map_cons, List.sum_cons]
    omega
theorem shownAll_map (L : List PyData) : PyData.shownAll L = L.map PyData.shown := by
  induction L with
  | nil => rfl
  | cons a L ih => show PyData.shown a :: PyData.shownAll L = _; rw [ih]; rfl
theorem row_len (m : List Nat) : (pdLs (m.map Int.ofNat)).shown.length = max 2 (wM m) := by
  show (listText (PyData.shownAll _)).length = _
  rw [shownAll_map, listText_len, List.map_map, List.map_map, List.map_map]
  rfl
theorem pap_len (ms : List (List Nat)) : (pdLL (intM ms)).shown.length = max 2 (wO ms) := by
  show (listText (PyData.shownAll _)).length = _
  rw [shownAll_map, listText_len, List.map_map, List.map_map, List.map_map]
  unfold wO
  congr 2
  refine List.map_congr_left fun m _ => ?_
  show (pdLs (m.map Int.ofNat)).shown.length + 2 = _
  rw [row_len]
theorem wM_sub {m m' : List Nat} (h : m.Sublist m') (hb : ∀ a ∈ m', a < 16) : wM m ≤ wM m' ∧ (m.length < m'.length → wM m + 3 ≤ wM m') := by
  induction h with
  | slnil => exact ⟨Nat.le_refl _, fun h => absurd h (Nat.lt_irrefl _)⟩
  | cons a h ih =>
    obtain ⟨h1, h2⟩ := ih fun x hx => hb x (List.mem_cons_of_mem _ hx)
    have := (dgs_len a (hb a (by simp))).1
    unfold wM at *
    simp only [List.map_cons, List.sum_cons]
    exact ⟨by omega, fun _ => by omega⟩
  | cons_cons a h ih =>
    obtain ⟨h1, h2⟩ := ih fun x hx => hb x (List.mem_cons_of_mem _ hx)
    unfold wM at *
    simp only [List.map_cons, List.sum_cons, List.length_cons]
    exact ⟨by omega, fun h => by have := h2 (by omega); omega⟩
theorem wO_le : ∀ {ms ms' : List (List Nat)}, LeM ms ms' → (∀ m ∈ ms', Mb m) → wO ms ≤ wO ms' ∧ (wO ms = wO ms' → ms = ms')
  | [], [], _, _ => ⟨Nat.le_refl _, fun _ => rfl⟩
  | [], y :: b, h, _ => by cases h.1
  | x :: a, [], h, _ => by cases h.1
  | x :: a, y :: b, h, hm => by
    have h0 : x.Sublist y := by simpa using h.2 0
    have ht : LeM a b := ⟨by simpa using h.1, fun i => by simpa using h.2 (i + 1)⟩
    obtain ⟨i1, i2⟩ := wO_le ht fun m hx => hm m (List.mem_cons_of_mem _ hx)
    obtain ⟨j1, j2⟩ := wM_sub h0 (hm y (by simp)).lt
    unfold wO at i1 i2 ⊢
    simp only [List.map_cons, List.sum_cons]
    refine ⟨by omega, fun e => ?_⟩
    have hl : x.length = y.length := by
      have := h0.length_le
      rcases Nat.lt_or_ge x.length y.length with c | c
      · have := j2 c; omega
      · omega
    have e1 := h0.eq_of_length hl
    subst e1
    rw [i2 (by omega)]
theorem wO_big : ∀ ms : List (List Nat), 4 * ms.length ≤ wO ms
  | [] => Nat.zero_le _
  | m :: ms => by
    have := wO_big ms
    unfold wO at *
    simp only [List.map_cons, List.sum_cons, List.length_cons]; omega
theorem shown_eq {ms ms' : List (List Nat)} (h : LeM ms ms') (hm : ∀ m ∈ ms', Mb m) (e : (pdLL (intM ms)).shown = (pdLL (intM ms')).shown) : ms = ms' := by
  have e2 := congrArg Str.length e
  rw [pap_len, pap_len] at e2
  have b1 := wO_big ms
  have b2 := wO_big ms'
  have hl := h.1
  cases hms : ms with
  | nil =>
    rw [hms] at hl
    cases ms' with
    | nil => rfl
    | cons a b => cases hl
  | cons a b =>
    rw [← hms]
    have : 0 < ms.length := by rw [hms]; simp
    exact (wO_le h hm).2 (by omega)
theorem wM_small {m : List Nat} (h : Mb m) : wM m ≤ 64 := by
  have hl := h.len
  have : ∀ L : List Nat, (∀ a ∈ L, a < 16) → wM L ≤ 4 * L.length := by
    intro L
    induction L with
    | nil => intro _; exact Nat.zero_le _
    | cons a L ih =>
      intro hb
      have := ih fun x hx => hb x (List.mem_cons_of_mem _ hx)
      have := (dgs_len a (hb a (by simp))).2
      unfold wM at *
      simp only [List.map_cons, List.sum_cons, List.length_cons]; omega
  have := this m h.lt
  omega
theorem wO_small : ∀ {ms : List (List Nat)}, (∀ m ∈ ms, Mb m) → wO ms ≤ 66 * ms.length
  | [], _ => Nat.zero_le _
  | m :: ms, h => by
    have := wO_small (ms := ms) fun x hx => h x (List.mem_cons_of_mem _ hx)
    have := wM_small (h m (by simp))
    unfold wO at *
    simp only [List.map_cons, List.sum_cons, List.length_cons]; omega
theorem show_ints : ∀ {m : List Nat}, (∀ a ∈ m, a < 16) → PyData.showableAll ((m.map Int.ofNat).map PyData.int) = true
  | [], _ => rfl
  | a :: m, h => by
    show (PyData.showable (.int (Int.ofNat a)) && PyData.showableAll ((m.map Int.ofNat).map PyData.int)) = true
    rw [show_ints fun x hx => h x (List.mem_cons_of_mem _ hx), Bool.and_true]
    have ha := h a (by simp)
    show decide ((Int.ofNat a).natAbs.log2 < 1920) = true
    have : (List.range 16).all (fun a => decide ((Int.ofNat a).natAbs.log2 < 1920)) = true := by decide +kernel
    exact List.all_eq_true.mp this a (List.mem_range.mpr ha)
theorem show_pap : ∀ {ms : List (List Nat)}, (∀ m ∈ ms, Mb m) → PyData.showableAll ((intM ms).map pdLs) = true
  | [], _ => rfl
  | m :: ms, h => by
    show (PyData.showable (pdLs (m.map Int.ofNat)) && PyData.showableAll ((intM ms).map pdLs)) = true
    rw [show_pap fun x hx => h x (List.mem_cons_of_mem _ hx), Bool.and_true]
    exact show_ints (h m (by simp)).lt
section
variable {S S' : Hs} {q : Nat} {ms : List (List Nat)} {ps : List Nat} {rs : List Rg} {rows : List MRow}
theorem nest_at : ∀ {ps : List Nat} {ms : List (List Nat)}, ps.length = ms.length → (∀ i, i < ms.length → S[ps.getD i 0]? = some (.lst (nDs (ms.getD i [])))) → nestAt S (ps.map D.ref) = some (intM ms)
  | [], [], _, _ => rfl
  | [], y :: b, h, _ => by cases h
  | x :: a, [], h, _ => by cases h
  | x :: a, y :: b, h, he => by
    have h0 : S[x]? = some (.lst (nDs y)) := by simpa using he 0 (by simp)
    have ht := nest_at (ps := a) (ms := b) (by simpa using h) fun i hi => by simpa using he (i + 1) (by simpa using hi)
    simp only [List.map_cons, nestAt, intsAt, h0, intsD_nat, ht]
theorem repr_pap (h : PapE S q ms) (hm : ∀ m ∈ ms, Mb m) (hl : ms.length ≤ 1000) : bRepr [.ref q] S = .ok (.str (pdLL (intM ms)).shown) S := by
  obtain ⟨ps, h⟩ := h
  have e := nest_at h.len fun i hi => (h.el i hi).1
  have h2 : (pdLL (intM ms)).shown.length ≤ sizeLine := by
    rw [pap_len]
    have := wO_small hm
    exact line_le (by omega)
  simp only [bRepr, h.at_, e]
  rw [if_pos ⟨show_pap hm, h2⟩]
theorem greatest_G (c0 : CodeG rs rows) : Wp NoX (m_greatestG [codeD rs rows] S) fun v S' => v = .tup ((gmIt (ars rs rows) 400 (gm0 rows.length)).map tuN) ∧ Kp [] S S' := by
  refine wp_def0 rfl ?_
  have A := asOk c0.ok
  have hsh := c0.short
  unfold b_greatestG
  rw [v_seq]
  simp_arith [Ly.v_fld, Ly.v_meth, Ly.k_me2, Ly.v_make, Ly.k_mk, Ly.v_fldset, Ly.k_fs, Ly.v_fldaug, Ly.k_fa2, Ly.look1, List.mem_cons, List.not_mem_nil, or_false, true_or, or_true, codeD, tix1, oIt, wipe1, -v_seq]
  refine wp_lcTupM MRow.D (xs := rows) (fun pre acc S' => ∃ ps : List Nat, acc = ps.map D.ref ∧ ps.length = pre.length ∧ (∀ a ∈ ps, S'[a]? = some (.lst (nDs (List.range 16))) ∧ a ≠ S.length) ∧ S'[S.length]? = some (.lst acc) ∧ Kp [] S S') ⟨[], rfl, rfl, by simp, by simp, Kp.new⟩ ?_ ?_
  · rintro pre r post acc S' hsp ⟨ps, rfl, hl, hps, hq, K⟩
    refine ⟨_, rfl, ?_⟩
    have hr16 : oLRg 0 16 S' = .ok (.ref S'.length) (S' ++ [.lst (nDs (List.range 16))]) := by
      have := rg_nats (n := 16)
      unfold oLRg
      rw [if_pos (by decide), show ((16 : Int)) = ((16 : Nat) : Int) from rfl, this]
    have hpre : pre.length ≤ rows.length := by rw [hsp]; simp
    simp_arith [Ly.v_fld, Ly.v_meth, Ly.k_me2, Ly.v_make, Ly.k_mk, Ly.v_fldset, Ly.k_fs, Ly.v_fldaug, Ly.k_fa2, Ly.look1, List.mem_cons, List.not_mem_nil, or_false, true_or, or_true, hr16]
    have hq2 := Real.lt hq
    refine ⟨Kp.get (A := []) Kp.new hq (by simp), by simp only [List.length_map]; exact line_big (by omega), ps ++ [S'.length], by simp, by simp [hl], ?_, get_put (Kp.get (A := []) Kp.new hq (by simp)), (K.app).setNew (Nat.le_refl _)⟩
    intro a ha
    rcases List.mem_append.mp ha with h | h
    · obtain ⟨h1, h2⟩ := hps a h
      refine ⟨?_, h2⟩
      rw [List.getElem?_set_ne (Ne.symm h2)]
      exact Kp.get (A := []) Kp.new h1 (by simp)
    · rw [List.mem_singleton.mp h]
      refine ⟨?_, by omega⟩
      rw [List.getElem?_set_ne (by omega)]
      exact get_end
  · rintro acc S1 ⟨ps, rfl, hl, hps, hq, K⟩
    have hP : PapE S1 S.length (gm0 rows.length) := ⟨ps, hq, by simp [gm0, hl], fun i hi => by
      have hi2 : i < rows.length := by simpa [gm0] using hi
      have e1 : ps[i]? = some (ps.getD i 0) := by simp [List.getD, List.getElem?_eq_getElem (show i < ps.length by omega)]
      have e2 : (gm0 rows.length).getD i [] = List.range 16 := by simp [gm0, List.getD, hi2]
      rw [e2]
      exact hps _ (List.mem_of_getElem? e1)⟩
    have g0 : GmSt (ars rs rows) (gm0 rows.length) := by rw [← ars_len (rs := rs)]; exact gm0_st
    simp_arith [Ly.v_fld, Ly.v_meth, Ly.k_me2, Ly.v_make, Ly.k_mk, Ly.v_fldset, Ly.k_fs, Ly.v_fldaug, Ly.k_fa2, Ly.look1, List.mem_cons, List.not_mem_nil, or_false, true_or, or_true, -v_seq]
    rw [v_seq]
    simp_arith [Ly.v_fld, Ly.v_meth, Ly.k_me2, Ly.v_make, Ly.k_mk, Ly.v_fldset, Ly.k_fs, Ly.v_fldaug, Ly.k_fa2, Ly.look1, List.mem_cons, List.not_mem_nil, or_false, true_or, or_true, show oRng1 [.int 400] S1 = .ok (.rng 0 400) S1 from rng1 (n := 400) S1 (by decide) (by decide)]
    have fin : ∀ (l' : Ls) (S' : Hs), AgL [2, 3, 4, 5, 6] [some (codeD rs rows), some (.ref S.length), none, none, none, none, none, none, none, none] l' → PapE S' S.length (gmIt (ars rs rows) 400 (gm0 rows.length)) → Kp [] S S' →
        Wp NoX (mRet (mCall bTuple (lCons (mLc (mIt (mVar 1)) (cN 9) mYes (mCall bTuple (lCons (mVar 9) lNil)) [9]) lNil)) l' S') (enK fun v S' => v = .tup ((gmIt (ars rs rows) 400 (gm0 rows.length)).map tuN) ∧ Kp [] S S') := by
      rintro l' S' ag ⟨ps, hP⟩ K'
      have f1 : l'[1]? = some (some (.ref S.length)) := ag.ag 1 (by decide)
      have st := gmIt_st A g0 400
      generalize gmIt (ars rs rows) 400 (gm0 rows.length) = ms at *
      have hml : ms.length = rows.length := by rw [st.len, ars_len]
      simp_arith [Ly.v_fld, Ly.v_meth, Ly.k_me2, Ly.v_make, Ly.k_mk, Ly.v_fldset, Ly.k_fs, Ly.v_fldaug, Ly.k_fa2, Ly.look1, List.mem_cons, List.not_mem_nil, or_false, true_or, or_true, f1, oIt_lst hP.at_, wipe1]
      refine lc_pure (fun i => D.ref (ps.getD i 0)) (S := S') (xs := List.range ms.length) (fun i => some (tuN (ms.getD i []))) (fun S2 k2 j hj => ?_) (by simp; omega) (fun i hi S2 k2 => ?_) (fun S2 h1 h2 => ?_)
      · simp only [itGo, seqAt_lst (k2.get hP.at_ (by simp)), Option.map_some, List.getElem?_map]
        simp only [List.length_range] at hj
        by_cases h : j < ms.length
        · rw [List.getElem?_range h, List.getElem?_eq_getElem (show j < ps.length by rw [hP.len]; exact h)]
          simp [List.getD, List.getElem?_eq_getElem (show j < ps.length by rw [hP.len]; exact h)]
        · rw [List.getElem?_eq_none (l := ps) (by rw [hP.len]; omega), List.getElem?_eq_none (by rw [List.length_range]; omega)]; rfl
      · refine ⟨_, rfl, ?_⟩
        have e1 := (hP.el i (by simpa using hi)).1
        have s1 : ((l'.set 9 none).set 9 (some (.ref (ps.getD i 0))))[9]? = some (some (.ref (ps.getD i 0))) := List.getElem?_set_self (by rw [List.length_set, ag.len]; simp)
        simp_arith [Ly.v_fld, Ly.v_meth, Ly.k_me2, Ly.v_make, Ly.k_mk, Ly.v_fldset, Ly.k_fs, Ly.v_fldaug, Ly.k_fa2, Ly.look1, List.mem_cons, List.not_mem_nil, or_false, true_or, or_true, s1, bTuple_lst (k2.get e1 (by simp))]
        exact ⟨Kp.refl, Kp.refl⟩
      · have e : (List.range ms.length).filterMap (fun i => some (tuN (ms.getD i []))) = ms.map tuN := by
          rw [List.filterMap_eq_map']
          refine List.ext_getElem? fun j => ?_
          rw [List.getElem?_map, List.getElem?_map]
          by_cases h : j < ms.length
          · rw [List.getElem?_range h, List.getElem?_eq_getElem h]; simp [List.getD, List.getElem?_eq_getElem h]
          · rw [List.getElem?_eq_none (by simp; omega), List.getElem?_eq_none (by omega)]; rfl
        rw [e] at h1
        simp_arith [Ly.v_fld, Ly.v_meth, Ly.k_me2, Ly.v_make, Ly.k_mk, Ly.v_fldset, Ly.k_fs, Ly.v_fldaug, Ly.k_fa2, Ly.look1, List.mem_cons, List.not_mem_nil, or_false, true_or, or_true, bTuple_lst h1]
        exact K'.trans h2
    refine wp_rng (fun k l' S' => AgL [2, 3, 4, 5, 6] [some (codeD rs rows), some (.ref S.length), none, none, none, none, none, none, none, none] l' ∧ PapE S' S.length (gmIt (ars rs rows) k (gm0 rows.length)) ∧ Kp [] S S') ⟨AgL.refl, hP, K⟩ ?_ ?_
    · rintro k l' S' hk ⟨ag, hP', K'⟩
      have st := gmIt_st A g0 k
      have hml : (gmIt (ars rs rows) k (gm0 rows.length)).length ≤ 1000 := by rw [st.len, ars_len]; omega
      unfold lb_greatest_2G
      have f1 : l'[1]? = some (some (.ref S.length)) := ag.ag 1 (by decide)
      have f0 : l'[0]? = some (some (codeD rs rows)) := ag.ag 0 (by decide)
      have fl : l'.length = 10 := ag.len
      rw [show ∀ k : Nat, (0 : Int) + (k : Int) = (k : Int) from fun k => by omega]
      have r1 := repr_pap hP' st.mb hml
      generalize hx : (pdLL (intM (gmIt (ars rs rows) k (gm0 rows.length)))).shown = x at *
      have f2 : (l'.set 2 (some (nD k)))[1]? = some (some (.ref S.length)) := by rw [List.getElem?_set_ne (by decide)]; exact f1
      rw [show (mFor (mRng1 (lCons (mCall bLen (lCons (mVar 1) lNil)) lNil)) (gN 4) lb_greatest_1G) = lbT 0 1 4 5 6 8 from rfl]
      simp_arith [Ly.v_fld, Ly.v_meth, Ly.k_me2, Ly.v_make, Ly.k_mk, Ly.v_fldset, Ly.k_fs, Ly.v_fldaug, Ly.k_fa2, Ly.look1, List.mem_cons, List.not_mem_nil, or_false, true_or, or_true, f2, r1, -v_for]
      refine Wp.call (lbT_ok c0 hP' st (l := (l'.set 2 (some (nD k))).set 3 (some (.str x))) (by rw [List.getElem?_set_ne (by decide), List.getElem?_set_ne (by decide)]; exact f0) (by rw [List.getElem?_set_ne (by decide)]; exact f2) (by decide) (fun i hi => by simp only [List.length_set, fl]; simp at hi; omega)) ?_
      rintro f S3 ⟨l3, rfl, ag3, hP3, k3⟩
      have K3 : Kp [] S S3 := K'.after k3 (by simp)
      have agA : AgL [2, 3, 4, 5, 6] l' l3 := ((AgL.set (by simp)).trans (AgL.set (by simp))).trans (ag3.sub (by simp))
      have f3 : l3[1]? = some (some (.ref S.length)) := by rw [agA.ag 1 (by decide)]; exact f1
      have f33 : l3[3]? = some (some (.str x)) := by rw [ag3.ag 3 (by decide)]; exact List.getElem?_set_self (by simp [fl])
      have st3 := gmTurn_st A st
      have r3 := repr_pap hP3 st3.mb (by rw [st3.len, ars_len]; omega)
      simp_arith [Ly.v_fld, Ly.v_meth, Ly.k_me2, Ly.v_make, Ly.k_mk, Ly.v_fldset, Ly.k_fs, Ly.v_fldaug, Ly.k_fa2, Ly.look1, List.mem_cons, List.not_mem_nil, or_false, true_or, or_true, f3, f33, r3, oEq_str, -v_ret]
      by_cases he : (pdLL (intM (gmTurn (ars rs rows) (gmIt (ars rs rows) k (gm0 rows.length))))).shown = x
      · simp_arith [Ly.v_fld, Ly.v_meth, Ly.k_me2, Ly.v_make, Ly.k_mk, Ly.v_fldset, Ly.k_fs, Ly.v_fldaug, Ly.k_fa2, Ly.look1, List.mem_cons, List.not_mem_nil, or_false, true_or, or_true, he, -v_ret]
        have hfix := shown_eq gmTurn_le st.mb (he.trans hx.symm)
        have : gmIt (ars rs rows) 400 (gm0 rows.length) = gmIt (ars rs rows) k (gm0 rows.length) := by
          have := gm_fix (n := 400 - k) hfix
          rwa [show k + (400 - k) = 400 by omega] at this
        refine fin l3 S3 (ag.trans agA) ?_ K3
        rw [this]
        rw [hfix] at hP3
        exact hP3
      · simp_arith [Ly.v_fld, Ly.v_meth, Ly.k_me2, Ly.v_make, Ly.k_mk, Ly.v_fldset, Ly.k_fs, Ly.v_fldaug, Ly.k_fa2, Ly.look1, List.mem_cons, List.not_mem_nil, or_false, true_or, or_true, he]
        exact ⟨ag.trans agA, hP3, K3⟩
    · rintro l' S' ⟨ag, hP', K'⟩
      exact fin l' S' ag hP' K'
theorem start_G {X : XP} {l : Ls} {x : D} {ns : List Int} {Q : D → Hs → Prop} (hx : seqD x S = some (ns.map D.int)) (hn : ns.length ≤ 63) (hl : l[0]? = some (some x)) (hQ : ∀ i j S', DrG S' i j → Kp [] S S' → Q (.ref i) S') :
    Wp X (mDisp (dpCons (mC (.str "draws")) (mFn (mDef 2 6 b_draws) (lCons (mVar 0) (lCons (mC (.int 420)) lNil))) (dpCons (mC (.str "at")) (mC (.int 0)) dpNil)) l S) Q := by
  refine v_disp ?_
  have hx1 : seqD x (S ++ [.dic []]) = some (ns.map D.int) := seqD_more hx
  simp_arith [v_dpCons, k_dp, hl]
  refine Wp.call (draws_ok hx1 hn (by decide) (by decide)) ?_
  rintro _ S1 ⟨q, row, rfl, hq, hqS, k1⟩
  have hd1 : S1[S.length]? = some (.dic []) := k1.get get_end (by simp)
  have hkeys : keysP [(D.str "draws", D.ref q), (D.str "at", D.int 0)] = some (nxK q 0) := by simp [keysP, D.key, nxK]
  have hmerge : mergeD [] (nxK q 0) = nxK q 0 := by simp [mergeD, nxK, setK, ofString_inj]
  simp_arith [k_dp2, v_dpCons, k_dp, v_dpNil, k_dp3, dsK]
  refine ⟨_, hkeys, hd1, by simp [nxK], ?_⟩
  rw [hmerge]
  simp only [List.length_append, List.length_singleton] at hqS
  exact hQ _ q _ ⟨row, 0, get_put hd1, by rw [List.getElem?_set_ne (by omega)]; exact hq, by omega, by omega⟩ ((Kp.new.trans k1).setNew (Nat.le_refl _))
end
end Ly
set_option Elab.async false
set_option linter.all false
set_option maxRecDepth 100000
namespace GK64
open PySem PySem.Spec L2 Ly
open PyProof.Rows hiding St
def d_REGISTERS : D := (.int 16)
def d_CODE_FORMS : List (Str × D) := [("const", (.wt [(.str "write"), (.str "word")])), ("op", (.wt [(.str "sign"), (.str "write"), (.str "read"), (.str "read")])), ("select", (.wt [(.str "write"), (.str "read"), (.str "read"), (.str "read")])), ("load", (.wt [(.str "write"), (.str "read"), (.str "base"), (.str "mask")])), ("store", (.wt [(.str "read"), (.str "base"), (.str "mask"), (.str "read")])), ("out", (.wt [(.str "read")])), ("jump", (.wt [(.str "target")])), ("branch", (.wt [(.str "read"), (.str "target")])), ("stop", (.wt [(.str "read")]))]
noncomputable def b__law_next : MS := (mSeq (mAugI oAddI (mVar 0) (mC (.str "at")) (mC (.int 1)))
    (mSeq (mIfS (mCmp oGt (mBin oIx (mVar 0) (mC (.str "at"))) (mCall bLen (lCons (mBin oIx (mVar 0) (mC (.str "draws"))) lNil))) (mRet (mC (.int 0))) mPass)
    (mRet (mBin oMod (mCall bInt (lCons (mBin oIx (mBin oIx (mVar 0) (mC (.str "draws"))) (mBin oSub (mBin oIx (mVar 0) (mC (.str "at"))) (mC (.int 1)))) lNil)) (mVar 1)))))
noncomputable def m__law_next : MD := mDef 2 0 b__law_next
theorem len__law_next (ds : List D) (S : Hs) (h : ds.length ≠ 2) : m__law_next ds S = .bad := mDef_len ds S h
noncomputable def lb__law_regions_0 : MS := (mSeq (mSet 4 (mBin oIx (mLst (lCons (mC (.int 1)) (lCons (mC (.int 2)) (lCons (mC (.int 4)) (lCons (mC (.int 8)) (lCons (mC (.int 3)) lNil)))))) (mFn m__law_next (lCons (mVar 0) (lCons (mC (.int 5)) lNil)))))
    (mSeq (mExpr (mBM "list" oAppend (mVar 1) (lCons (mTup (lCons (mVar 2) (lCons (mVar 4) (lCons (mBin oIx (mLst (lCons (mC (.str "public")) (lCons (mC (.str "secret")) lNil))) (mFn m__law_next (lCons (mVar 0) (lCons (mC (.int 2)) lNil)))) lNil)))) lNil)))
    (mAug 2 oIAdd (mVar 4))))
noncomputable def b__law_regions : MS := (mSeq (mSet 1 (mLst lNil))
    (mSeq (mSet 2 (mC (.int 0)))
    (mSeq (mFor (mRng1 (lCons (mBin oAdd (mC (.int 1)) (mFn m__law_next (lCons (mVar 0) (lCons (mC (.int 4)) lNil)))) lNil)) (gN 3) lb__law_regions_0)
    (mRet (mCall bTuple (lCons (mVar 1) lNil))))))
noncomputable def m__law_regions : MD := mDef 1 4 b__law_regions
theorem len__law_regions (ds : List D) (S : Hs) (h : ds.length ≠ 1) : m__law_regions ds S = .bad := mDef_len ds S h
noncomputable def c__law_span_0 : MB := (mCmp oGe (mVar 5) (mVar 3))
noncomputable def lb__law_span_1 : MS := (mSet 5 (mBin oFdiv (mVar 5) (mC (.int 2))))
noncomputable def b__law_span : MS := (mSeq (mAsg (mBin oIx (mVar 1) (mFn m__law_next (lCons (mVar 0) (lCons (mCall bLen (lCons (mVar 1) lNil)) lNil)))) (gT 3 (gsC (gN 2) (gsC (gN 3) (gsC (gN 4) gsN)))))
    (mSeq (mSet 5 (mBin oIx (mLst (lCons (mC (.int 0)) (lCons (mC (.int 0)) (lCons (mC (.int 1)) (lCons (mC (.int 3)) (lCons (mC (.int 7)) lNil)))))) (mFn m__law_next (lCons (mVar 0) (lCons (mC (.int 5)) lNil)))))
    (mSeq (mIfS (mCmp oGt (mFn m__law_next (lCons (mVar 0) (lCons (mC (.int 7)) lNil))) (mC (.int 0))) (mSeq (mWhile c__law_span_0 lb__law_span_1)
    (mRet (mTup (lCons (mBin oAdd (mVar 2) (mFn m__law_next (lCons (mVar 0) (lCons (mBin oSub (mVar 3) (mVar 5)) lNil)))) (lCons (mVar 5) lNil))))) mPass)
    (mRet (mTup (lCons (mFn m__law_next (lCons (mVar 0) (lCons (mC (.int 30)) lNil))) (lCons (mVar 5) lNil)))))))
noncomputable def m__law_span : MD := mDef 2 4 b__law_span
theorem len__law_span (ds : List D) (S : Hs) (h : ds.length ≠ 2) : m__law_span ds S = .bad := mDef_len ds S h
noncomputable def b__law_row : MS := (mSeq (mSet 3 (mFn m__law_next (lCons (mVar 0) (lCons (mC (.int 14)) lNil))))
    (mSeq (mSet 4 (mFn m__law_next (lCons (mVar 0) (lCons (mC (.int 6)) lNil))))
    (mSeq (mSet 5 (mFn m__law_next (lCons (mVar 0) (lCons (mC (.int 6)) lNil))))
    (mSeq (mSet 6 (mFn m__law_next (lCons (mVar 0) (lCons (mC (.int 6)) lNil))))
    (mSeq (mIfS (mCmp oLt (mVar 3) (mC (.int 2))) (mRet (mTup (lCons (mC (.str "const")) (lCons (mVar 4) (lCons (mBin oIx (mLst (lCons (mFn m__law_next (lCons (mVar 0) (lCons (mC (.int 9)) lNil))) (lCons (mBin oSub (mC (.int 4294967295)) (mFn m__law_next (lCons (mVar 0) (lCons (mC (.int 5)) lNil)))) (lCons (mBin oMul (mFn m__law_next (lCons (mVar 0) (lCons (mC (.int 900)) lNil))) (mC (.int 4771117))) lNil)))) (mFn m__law_next (lCons (mVar 0) (lCons (mC (.int 3)) lNil)))) lNil))))) mPass)
    (mSeq (mIfS (mCmp oLt (mVar 3) (mC (.int 6))) (mRet (mTup (lCons (mC (.str "op")) (lCons (mBin oIx (mLst (lCons (mC (.str "+")) (lCons (mC (.str "-")) (lCons (mC (.str "*")) (lCons (mC (.str "&")) (lCons (mC (.str "|")) (lCons (mC (.str "^")) (lCons (mC (.str "<<")) (lCons (mC (.str ">>")) (lCons (mC (.str "==")) (lCons (mC (.str "<")) (lCons (mC (.str "<=")) (lCons (mC (.str "div")) (lCons (mC (.str "mod")) lNil)))))))))))))) (mFn m__law_next (lCons (mVar 0) (lCons (mC (.int 13)) lNil)))) (lCons (mVar 4) (lCons (mVar 5) (lCons (mVar 6) lNil))))))) mPass)
    (mSeq (mIfS (mCmp oEq (mVar 3) (mC (.int 6))) (mRet (mTup (lCons (mC (.str "select")) (lCons (mVar 4) (lCons (mFn m__law_next (lCons (mVar 0) (lCons (mC (.int 6)) lNil))) (lCons (mVar 5) (lCons (mVar 6) lNil))))))) mPass)
    (mSeq (mIfS (mCmp oLt (mVar 3) (mC (.int 9))) (mSeq (mAsg (mFn m__law_span (lCons (mVar 0) (lCons (mVar 1) lNil))) (gT 2 (gsC (gN 7) (gsC (gN 8) gsN))))
    (mRet (mTup (lCons (mC (.str "load")) (lCons (mVar 4) (lCons (mVar 5) (lCons (mVar 7) (lCons (mVar 8) lNil)))))))) mPass)
    (mSeq (mIfS (mCmp oLt (mVar 3) (mC (.int 11))) (mSeq (mAsg (mFn m__law_span (lCons (mVar 0) (lCons (mVar 1) lNil))) (gT 2 (gsC (gN 7) (gsC (gN 8) gsN))))
    (mRet (mTup (lCons (mC (.str "store")) (lCons (mVar 5) (lCons (mVar 7) (lCons (mVar 8) (lCons (mVar 6) lNil)))))))) mPass)
    (mSeq (mIfS (mCmp oEq (mVar 3) (mC (.int 11))) (mRet (mTup (lCons (mC (.str "out")) (lCons (mVar 5) lNil)))) mPass)
    (mSeq (mIfS (mCmp oEq (mVar 3) (mC (.int 12))) (mRet (mTup (lCons (mC (.str "branch")) (lCons (mVar 5) (lCons (mFn m__law_next (lCons (mVar 0) (lCons (mVar 2) lNil))) lNil))))) mPass)
    (mRet (mBin oIx (mLst (lCons (mTup (lCons (mC (.str "jump")) (lCons (mFn m__law_next (lCons (mVar 0) (lCons (mVar 2) lNil))) lNil))) (lCons (mTup (lCons (mC (.str "stop")) (lCons (mVar 5) lNil))) (lCons (mTup (lCons (mC (.str "const")) (lCons (mVar 4) (lCons (mC (.int 1)) lNil)))) lNil)))) (mFn m__law_next (lCons (mVar 0) (lCons (mC (.int 3)) lNil))))))))))))))))
noncomputable def m__law_row : MD := mDef 3 6 b__law_row
theorem len__law_row (ds : List D) (S : Hs) (h : ds.length ≠ 3) : m__law_row ds S = .bad := mDef_len ds S h
noncomputable def b__law_code : MS := (mSeq (mSet 1 (mFn m__law_regions (lCons (mVar 0) lNil)))
    (mSeq (mSet 2 (mBin oAdd (mC (.int 2)) (mFn m__law_next (lCons (mVar 0) (lCons (mC (.int 16)) lNil)))))
    (mSeq (mSet 3 (mLc (mRng1 (lCons (mBin oSub (mVar 2) (mC (.int 1))) lNil)) (cN 4) mYes (mFn m__law_row (lCons (mVar 0) (lCons (mVar 1) (lCons (mVar 2) lNil)))) [4]))
    (mRet (mTup (lCons (mVar 1) (lCons (mCall bTuple (lCons (mBin oAdd (mVar 3) (mLst (lCons (mBin oIx (mLst (lCons (mTup (lCons (mC (.str "stop")) (lCons (mFn m__law_next (lCons (mVar 0) (lCons (mC (.int 6)) lNil))) lNil))) (lCons (mTup (lCons (mC (.str "jump")) (lCons (mFn m__law_next (lCons (mVar 0) (lCons (mVar 2) lNil))) lNil))) lNil))) (mBin oFdiv (mFn m__law_next (lCons (mVar 0) (lCons (mC (.int 4)) lNil))) (mC (.int 3)))) lNil))) lNil)) lNil)))))))
noncomputable def m__law_code : MD := mDef 1 4 b__law_code
theorem len__law_code (ds : List D) (S : Hs) (h : ds.length ≠ 1) : m__law_code ds S = .bad := mDef_len ds S h
noncomputable def b__law_region : MS := (mSeq (mSet 3 (mLc (mIt (mBin oIx (mVar 0) (mC (.int 0)))) (cN 4) (mAndB (mCmp oLe (mBin oIx (mVar 4) (mC (.int 0))) (mVar 1)) (mCmp oLt (mBin oAdd (mVar 1) (mVar 2)) (mBin oAdd (mBin oIx (mVar 4) (mC (.int 0))) (mBin oIx (mVar 4) (mC (.int 1)))))) (mVar 4) [4]))
    (mSeq (mIfS (mCmp oEq (mVar 3) (mLst lNil)) (mRet (mC .non)) mPass)
    (mRet (mBin oIx (mVar 3) (mC (.int 0))))))
noncomputable def m__law_region : MD := mDef 3 2 b__law_region
theorem len__law_region (ds : List D) (S : Hs) (h : ds.length ≠ 3) : m__law_region ds S = .bad := mDef_len ds S h
noncomputable def b__law_behind : MS := (mSeq (mSet 3 (mBin oIx (mBin oIx (mVar 0) (mC (.int 1))) (mVar 1)))
    (mSeq (mIfS (mCmp oEq (mBin oIx (mVar 3) (mC (.int 0))) (mC (.str "const"))) (mRet (mLc (mRng1 (lCons (mC (.int 16)) lNil)) (cN 6) (mOrB (mCmp oIn (mVar 6) (mVar 2)) (mCmp oEq (mVar 6) (mBin oIx (mVar 3) (mC (.int 1))))) (mVar 6) [6])) mPass)
    (mSeq (mIfS (mCmp oEq (mBin oIx (mVar 3) (mC (.int 0))) (mC (.str "op"))) (mSeq (mSet 4 (mAnd (mBin oIn (mBin oIx (mVar 3) (mC (.int 3))) (mVar 2)) (mBin oIn (mBin oIx (mVar 3) (mC (.int 4))) (mVar 2))))
    (mRet (mLc (mRng1 (lCons (mC (.int 16)) lNil)) (cN 6) (mOrB (mAndB (mCmp oNe (mVar 6) (mBin oIx (mVar 3) (mC (.int 2)))) (mCmp oIn (mVar 6) (mVar 2))) (mAndB (mCmp oEq (mVar 6) (mBin oIx (mVar 3) (mC (.int 2)))) (mTru (mVar 4)))) (mVar 6) [6]))) mPass)
    (mSeq (mIfS (mCmp oEq (mBin oIx (mVar 3) (mC (.int 0))) (mC (.str "select"))) (mSeq (mSet 4 (mAnd (mBin oIn (mBin oIx (mVar 3) (mC (.int 2))) (mVar 2)) (mAnd (mBin oIn (mBin oIx (mVar 3) (mC (.int 3))) (mVar 2)) (mBin oIn (mBin oIx (mVar 3) (mC (.int 4))) (mVar 2)))))
    (mRet (mLc (mRng1 (lCons (mC (.int 16)) lNil)) (cN 6) (mOrB (mAndB (mCmp oNe (mVar 6) (mBin oIx (mVar 3) (mC (.int 1)))) (mCmp oIn (mVar 6) (mVar 2))) (mAndB (mCmp oEq (mVar 6) (mBin oIx (mVar 3) (mC (.int 1)))) (mTru (mVar 4)))) (mVar 6) [6]))) mPass)
    (mSeq (mIfS (mCmp oEq (mBin oIx (mVar 3) (mC (.int 0))) (mC (.str "load"))) (mSeq (mSet 5 (mFn m__law_region (lCons (mVar 0) (lCons (mBin oIx (mVar 3) (mC (.int 3))) (lCons (mBin oIx (mVar 3) (mC (.int 4))) lNil)))))
    (mSeq (mSet 4 (mAnd (mBin oIsNot (mVar 5) (mC .non)) (mBin oEq (mBin oIx (mVar 5) (mC (.int 2))) (mC (.str "public")))))
    (mRet (mLc (mRng1 (lCons (mC (.int 16)) lNil)) (cN 6) (mOrB (mAndB (mCmp oNe (mVar 6) (mBin oIx (mVar 3) (mC (.int 1)))) (mCmp oIn (mVar 6) (mVar 2))) (mAndB (mCmp oEq (mVar 6) (mBin oIx (mVar 3) (mC (.int 1)))) (mTru (mVar 4)))) (mVar 6) [6])))) mPass)
    (mRet (mCall bList (lCons (mVar 2) lNil))))))))
noncomputable def m__law_behind : MD := mDef 3 4 b__law_behind
theorem len__law_behind (ds : List D) (S : Hs) (h : ds.length ≠ 3) : m__law_behind ds S = .bad := mDef_len ds S h
noncomputable def b__law_ways : MS := (mSeq (mSet 2 (mBin oIx (mBin oIx (mVar 0) (mC (.int 1))) (mVar 1)))
    (mSeq (mIfS (mCmp oEq (mBin oIx (mVar 2) (mC (.int 0))) (mC (.str "stop"))) (mRet (mLst lNil)) mPass)
    (mSeq (mIfS (mCmp oEq (mBin oIx (mVar 2) (mC (.int 0))) (mC (.str "jump"))) (mRet (mLst (lCons (mBin oIx (mVar 2) (mC (.int 1))) lNil))) mPass)
    (mSeq (mIfS (mAndB (mCmp oEq (mBin oIx (mVar 2) (mC (.int 0))) (mC (.str "branch"))) (mCmp oNe (mBin oIx (mVar 2) (mC (.int 2))) (mBin oAdd (mVar 1) (mC (.int 1))))) (mRet (mCall bSorted (lCons (mLst (lCons (mBin oAdd (mVar 1) (mC (.int 1))) (lCons (mBin oIx (mVar 2) (mC (.int 2))) lNil))) lNil))) mPass)
    (mRet (mLst (lCons (mBin oAdd (mVar 1) (mC (.int 1))) lNil)))))))
noncomputable def m__law_ways : MD := mDef 2 1 b__law_ways
theorem len__law_ways (ds : List D) (S : Hs) (h : ds.length ≠ 2) : m__law_ways ds S = .bad := mDef_len ds S h
noncomputable def lb__law_greatest_0 : MS := (mAsg (mLc (mIt (mBin oIx (mVar 1) (mVar 6))) (cN 8) (mCmp oIn (mVar 8) (mVar 5)) (mVar 8) [8]) (gSb (mVar 1) (mVar 6)))
noncomputable def lb__law_greatest_1 : MS := (mSeq (mSet 5 (mFn m__law_behind (lCons (mVar 0) (lCons (mVar 4) (lCons (mBin oIx (mVar 1) (mVar 4)) lNil)))))
    (mFor (mIt (mFn m__law_ways (lCons (mVar 0) (lCons (mVar 4) lNil)))) (gN 6) lb__law_greatest_0))
noncomputable def lb__law_greatest_2 : MS := (mSeq (mSet 3 (mCall bRepr (lCons (mVar 1) lNil)))
    (mSeq (mFor (mRng1 (lCons (mCall bLen (lCons (mVar 1) lNil)) lNil)) (gN 4) lb__law_greatest_1)
    (mIfS (mCmp oEq (mCall bRepr (lCons (mVar 1) lNil)) (mVar 3)) mBrk mPass)))
noncomputable def b__law_greatest : MS := (mSeq (mSet 1 (mLc (mIt (mBin oIx (mVar 0) (mC (.int 1)))) (cN 7) mYes (mRg1 oLRg (mC (.int 16))) [7]))
    (mSeq (mFor (mRng1 (lCons (mC (.int 400)) lNil)) (gN 2) lb__law_greatest_2)
    (mRet (mCall bTuple (lCons (mLc (mIt (mVar 1)) (cN 9) mYes (mCall bTuple (lCons (mVar 9) lNil)) [9]) lNil)))))
noncomputable def m__law_greatest : MD := mDef 1 9 b__law_greatest
theorem len__law_greatest (ds : List D) (S : Hs) (h : ds.length ≠ 1) : m__law_greatest ds S = .bad := mDef_len ds S h
noncomputable def lb__law_draws_0 : MS := (mIfS (mCmp oGt (mVar 6) (mC (.int 0))) (mSeq (mExpr (mBM "list" oAppend (mVar 2) (lCons (mBin oMod (mCall bInt (lCons (mVar 6) lNil)) (mC (.int 997))) lNil)))
    (mSet 6 (mBin oFdiv (mVar 6) (mC (.int 997))))) mPass)
noncomputable def lb__law_draws_1 : MS := (mSeq (mSet 5 (mCall bAbs (lCons (mCall bInt (lCons (mBin oIx (mVar 0) (mVar 4)) lNil)) lNil)))
    (mSeq (mSet 3 (mBin oMod (mCall bInt (lCons (mBin oAdd (mBin oAdd (mBin oMul (mVar 3) (mC (.int 48271))) (mBin oMod (mVar 5) (mC (.int 1000003)))) (mVar 4)) lNil)) (mC (.int 65537))))
    (mSeq (mSet 6 (mC (.int 0)))
    (mSeq (mIfS (mCmp oGe (mVar 5) (mBin oPow (mC (.int 10)) (mC (.int 18)))) (mSet 6 (mVar 5)) (mSeq (mExpr (mBM "list" oAppend (mVar 2) (lCons (mBin oMod (mCall bInt (lCons (mVar 5) lNil)) (mC (.int 997))) lNil)))
    (mExpr (mBM "list" oAppend (mVar 2) (lCons (mBin oMod (mBin oMod (mCall bInt (lCons (mBin oAdd (mBin oMul (mVar 3) (mC (.int 69621))) (mC (.int 5))) lNil)) (mC (.int 65521))) (mC (.int 997))) lNil)))))
    (mFor (mRng1 (lCons (mC (.int 60)) lNil)) (gN 7) lb__law_draws_0)))))
noncomputable def lb__law_draws_2 : MS := (mSeq (mSet 3 (mBin oMod (mCall bInt (lCons (mBin oAdd (mBin oAdd (mBin oMul (mVar 3) (mC (.int 16807))) (mVar 4)) (mC (.int 1))) lNil)) (mC (.int 65537))))
    (mExpr (mBM "list" oAppend (mVar 2) (lCons (mBin oMod (mCall bInt (lCons (mVar 3) lNil)) (mC (.int 997))) lNil))))
noncomputable def b__law_draws : MS := (mSeq (mSet 2 (mLst lNil))
    (mSeq (mSet 3 (mC (.int 7)))
    (mSeq (mFor (mRng1 (lCons (mCall bLen (lCons (mVar 0) lNil)) lNil)) (gN 4) lb__law_draws_1)
    (mSeq (mFor (mRng1 (lCons (mVar 1) lNil)) (gN 4) lb__law_draws_2)
    (mRet (mSl (mVar 2) oNo (oSome (mVar 1))))))))
noncomputable def m__law_draws : MD := mDef 2 6 b__law_draws
theorem len__law_draws (ds : List D) (S : Hs) (h : ds.length ≠ 2) : m__law_draws ds S = .bad := mDef_len ds S h
noncomputable def lb__law_paper_0 : MS := (mSeq (mSet 5 (mLc (mRng1 (lCons (mC (.int 16)) lNil)) (cN 7) (mOrB (mAndB (mCmp oIn (mVar 7) (mVar 4)) (mOrB (mCmp oEq (mVar 3) (mC (.int 0))) (mCmp oGt (mFn m__law_next (lCons (mVar 0) (lCons (mC (.int 9)) lNil))) (mC (.int 0))))) (mAndB (mCmp oEq (mVar 3) (mC (.int 2))) (mCmp oEq (mFn m__law_next (lCons (mVar 0) (lCons (mC (.int 20)) lNil))) (mC (.int 0))))) (mVar 7) [7]))
    (mExpr (mBM "list" oAppend (mVar 2) (lCons (mCall bTuple (lCons (mVar 5) lNil)) lNil))))
noncomputable def b__law_paper : MS := (mSeq (mSet 2 (mLst lNil))
    (mSeq (mSet 3 (mFn m__law_next (lCons (mVar 0) (lCons (mC (.int 4)) lNil))))
    (mSeq (mFor (mIt (mVar 1)) (gN 4) lb__law_paper_0)
    (mSeq (mIfS (mCmp oEq (mVar 3) (mC (.int 3))) (mSeq (mSet 6 (mFn m__law_next (lCons (mVar 0) (lCons (mCall bLen (lCons (mVar 2) lNil)) lNil))))
    (mAsg (mBin oIx (mLst (lCons (mC .non) (lCons (mTup (lCons (mC (.int 1)) (lCons (mC (.int 1)) lNil))) (lCons (mTup (lCons (mC (.int 2)) (lCons (mC (.int 1)) lNil))) (lCons (mTup (lCons (mC (.int 16)) lNil)) (lCons (mTup (lCons (mUn oNeg (mC (.int 1))) lNil)) (lCons (mTup (lCons (mC (.bl true)) lNil)) (lCons (mC (.str "1")) (lCons (mTup (lCons (mC (.str "1")) lNil)) (lCons (mTup (lCons (mTup lNil) lNil)) (lCons (mTup lNil) lNil))))))))))) (mFn m__law_next (lCons (mVar 0) (lCons (mC (.int 10)) lNil)))) (gSb (mVar 2) (mVar 6)))) mPass)
    (mSeq (mIfS (mCmp oEq (mFn m__law_next (lCons (mVar 0) (lCons (mC (.int 12)) lNil))) (mC (.int 0))) (mSet 2 (mSl (mVar 2) (oSome (mC (.int 1))) oNo)) mPass)
    (mRet (mCall bTuple (lCons (mVar 2) lNil))))))))
noncomputable def m__law_paper : MD := mDef 2 6 b__law_paper
theorem len__law_paper (ds : List D) (S : Hs) (h : ds.length ≠ 2) : m__law_paper ds S = .bad := mDef_len ds S h
noncomputable def b_is_number : MS := (mRet (mAnd (mUn (oIsi "int") (mVar 0)) (mAnd (mUn oNot (mUn (oIsi "bool") (mVar 0))) (mChn oLe oLe (mVar 1) (mVar 0) (mVar 2)))))
noncomputable def m_is_number : MD := mDef 3 0 b_is_number
theorem len_is_number (ds : List D) (S : Hs) (h : ds.length ≠ 3) : m_is_number ds S = .bad := mDef_len ds S h
noncomputable def lb_is_paper_0 : MS := (mSeq (mIfS (mNotB (mTru (mFn m_is_number (lCons (mVar 4) (lCons (mVar 3) (lCons (mBin oSub (mC d_REGISTERS) (mC (.int 1))) lNil)))))) (mRet (mC (.bl false))) mPass)
    (mSet 3 (mBin oAdd (mVar 4) (mC (.int 1)))))
noncomputable def lb_is_paper_1 : MS := (mSeq (mIfS (mNotB (mTru (mUn (oIsi "tuple") (mVar 2)))) (mRet (mC (.bl false))) mPass)
    (mSeq (mSet 3 (mC (.int 0)))
    (mFor (mIt (mVar 2)) (gN 4) lb_is_paper_0)))
noncomputable def b_is_paper : MS := (mSeq (mIfS (mOrB (mNotB (mTru (mUn (oIsi "tuple") (mVar 1)))) (mCmp oNe (mCall bLen (lCons (mVar 1) lNil)) (mCall bLen (lCons (mBin oIx (mVar 0) (mC (.int 1))) lNil)))) (mRet (mC (.bl false))) mPass)
    (mSeq (mFor (mIt (mVar 1)) (gN 2) lb_is_paper_1)
    (mRet (mC (.bl true)))))
noncomputable def m_is_paper : MD := mDef 2 3 b_is_paper
theorem len_is_paper (ds : List D) (S : Hs) (h : ds.length ≠ 2) : m_is_paper ds S = .bad := mDef_len ds S h
noncomputable def b_ways : MS := (mSeq (mSet 2 (mBin oIx (mBin oIx (mVar 0) (mC (.int 1))) (mVar 1)))
    (mSeq (mSet 3 mDicK)
    (mSeq (mIfS (mCmp oNotIn (mBin oIx (mVar 2) (mC (.int 0))) (mTup (lCons (mC (.str "jump")) (lCons (mC (.str "stop")) lNil)))) (mAsg (mC (.bl true)) (gSb (mVar 3) (mBin oAdd (mVar 1) (mC (.int 1))))) mPass)
    (mSeq (mIfS (mCmp oIn (mBin oIx (mVar 2) (mC (.int 0))) (mTup (lCons (mC (.str "jump")) (lCons (mC (.str "branch")) lNil)))) (mAsg (mC (.bl true)) (gSb (mVar 3) (mBin oIx (mVar 2) (mUn oNeg (mC (.int 1)))))) mPass)
    (mRet (mCall bTuple (lCons (mCall bSorted (lCons (mVar 3) lNil)) lNil)))))))
noncomputable def m_ways : MD := mDef 2 2 b_ways
theorem len_ways (ds : List D) (S : Hs) (h : ds.length ≠ 2) : m_ways ds S = .bad := mDef_len ds S h
noncomputable def lb_writes_0 : MS := (mIfS (mCmp oEq (mVar 2) (mC (.str "write"))) (mRet (mVar 1)) mPass)
noncomputable def b_writes : MS := (mSeq (mFor (mZip (lCons (mSl (mVar 0) (oSome (mC (.int 1))) oNo) (lCons (mIxK d_CODE_FORMS (mBin oIx (mVar 0) (mC (.int 0)))) lNil))) (gT 2 (gsC (gN 1) (gsC (gN 2) gsN))) lb_writes_0)
    (mRet (mUn oNeg (mC (.int 1)))))
noncomputable def m_writes : MD := mDef 1 2 b_writes
theorem len_writes (ds : List D) (S : Hs) (h : ds.length ≠ 1) : m_writes ds S = .bad := mDef_len ds S h
noncomputable def b_reads : MS := (mSeq (mSet 1 (mDc (mZip (lCons (mSl (mVar 0) (oSome (mC (.int 1))) oNo) (lCons (mIxK d_CODE_FORMS (mBin oIx (mVar 0) (mC (.int 0)))) lNil))) (cT [2, 3]) (mCmp oEq (mVar 3) (mC (.str "read"))) (mVar 2) (mC (.bl true)) [2, 3]))
    (mRet (mCall bTuple (lCons (mCall bSorted (lCons (mVar 1) lNil)) lNil))))
noncomputable def m_reads : MD := mDef 1 3 b_reads
theorem len_reads (ds : List D) (S : Hs) (h : ds.length ≠ 1) : m_reads ds S = .bad := mDef_len ds S h
noncomputable def c_region_of_0 : MB := (mCmp oLt (mBin oAdd (mVar 3) (mC (.int 1))) (mVar 4))
noncomputable def lb_region_of_1 : MS := (mSeq (mSet 5 (mBin oFdiv (mBin oAdd (mVar 3) (mVar 4)) (mC (.int 2))))
    (mIfS (mCmp oLe (mBin oIx (mBin oIx (mVar 0) (mVar 5)) (mC (.int 0))) (mVar 1)) (mSet 3 (mVar 5)) (mSet 4 (mVar 5))))
noncomputable def b_region_of : MS := (mSeq (mSet 3 (mC (.int 0)))
    (mSeq (mSet 4 (mCall bLen (lCons (mVar 0) lNil)))
    (mSeq (mWhile c_region_of_0 lb_region_of_1)
    (mSeq (mIfS (mCmp oEq (mVar 4) (mC (.int 0))) (mRet (mUn oNeg (mC (.int 1)))) mPass)
    (mRet (mIf (mCmp oLt (mBin oAdd (mVar 1) (mVar 2)) (mBin oAdd (mBin oIx (mBin oIx (mVar 0) (mVar 3)) (mC (.int 0))) (mBin oIx (mBin oIx (mVar 0) (mVar 3)) (mC (.int 1))))) (mVar 3) (mUn oNeg (mC (.int 1)))))))))
noncomputable def m_region_of : MD := mDef 3 3 b_region_of
theorem len_region_of (ds : List D) (S : Hs) (h : ds.length ≠ 3) : m_region_of ds S = .bad := mDef_len ds S h
noncomputable def lb__makes_public_0 : MS := (mIfS (mCmp oNotIn (mVar 4) (mVar 2)) (mRet (mC (.bl false))) mPass)
noncomputable def b__makes_public : MS := (mSeq (mIfS (mCmp oEq (mBin oIx (mVar 1) (mC (.int 0))) (mC (.str "load"))) (mSeq (mSet 3 (mFn m_region_of (lCons (mVar 0) (lCons (mBin oIx (mVar 1) (mC (.int 3))) (lCons (mBin oIx (mVar 1) (mC (.int 4))) lNil)))))
    (mRet (mAnd (mBin oGe (mVar 3) (mC (.int 0))) (mBin oEq (mBin oIx (mBin oIx (mVar 0) (mVar 3)) (mC (.int 2))) (mC (.str "public")))))) mPass)
    (mSeq (mFor (mIt (mFn m_reads (lCons (mVar 1) lNil))) (gN 4) lb__makes_public_0)
    (mRet (mC (.bl true)))))
noncomputable def m__makes_public : MD := mDef 3 2 b__makes_public
theorem len__makes_public (ds : List D) (S : Hs) (h : ds.length ≠ 3) : m__makes_public ds S = .bad := mDef_len ds S h
noncomputable def b_public_behind : MS := (mSeq (mSet 3 (mBin oIx (mBin oIx (mVar 0) (mC (.int 1))) (mVar 1)))
    (mSeq (mSet 4 (mFn m_writes (lCons (mVar 3) lNil)))
    (mSeq (mIfS (mCmp oLt (mVar 4) (mC (.int 0))) (mRet (mCall bTuple (lCons (mVar 2) lNil))) mPass)
    (mSeq (mSet 5 (mDc (mIt (mVar 2)) (cN 6) mYes (mVar 6) (mC (.bl true)) [6]))
    (mSeq (mAsg (mFn m__makes_public (lCons (mBin oIx (mVar 0) (mC (.int 0))) (lCons (mVar 3) (lCons (mVar 5) lNil)))) (gSb (mVar 5) (mVar 4)))
    (mRet (mCall bTuple (lCons (mLc (mIt (mCall bSorted (lCons (mVar 5) lNil))) (cN 6) (mTru (mBin oIx (mVar 5) (mVar 6))) (mVar 6) [6]) lNil))))))))
noncomputable def m_public_behind : MD := mDef 3 4 b_public_behind
theorem len_public_behind (ds : List D) (S : Hs) (h : ds.length ≠ 3) : m_public_behind ds S = .bad := mDef_len ds S h
noncomputable def lb_holds_0 : MS := (mIfS (mCmp oNotIn (mVar 6) (mVar 4)) (mRet (mC (.bl false))) mPass)
noncomputable def lb_holds_1 : MS := (mFor (mIt (mBin oIx (mVar 1) (mVar 5))) (gN 6) lb_holds_0)
noncomputable def lb_holds_2 : MS := (mSeq (mSet 4 (mDc (mIt (mFn m_public_behind (lCons (mVar 0) (lCons (mVar 2) (lCons (mVar 3) lNil))))) (cN 6) mYes (mVar 6) (mC (.bl true)) [6]))
    (mFor (mIt (mFn m_ways (lCons (mVar 0) (lCons (mVar 2) lNil)))) (gN 5) lb_holds_1))
noncomputable def b_holds : MS := (mSeq (mIfS (mNotB (mTru (mFn m_is_paper (lCons (mVar 0) (lCons (mVar 1) lNil))))) (mRet (mC (.bl false))) mPass)
    (mSeq (mFor (mEnum (lCons (mVar 1) lNil)) (gT 2 (gsC (gN 2) (gsC (gN 3) gsN))) lb_holds_2)
    (mRet (mC (.bl true)))))
noncomputable def m_holds : MD := mDef 2 5 b_holds
theorem len_holds (ds : List D) (S : Hs) (h : ds.length ≠ 2) : m_holds ds S = .bad := mDef_len ds S h
noncomputable def lb_greatest_paper_0 : MS := (mSeq (mSet 6 (mCall bTuple (lCons (mLc (mIt (mBin oIx (mVar 1) (mVar 5))) (cN 7) (mCmp oIn (mVar 7) (mVar 4)) (mVar 7) [7]) lNil)))
    (mIfS (mCmp oNe (mVar 6) (mBin oIx (mVar 1) (mVar 5))) (mSeq (mAsg (mVar 6) (gSb (mVar 1) (mVar 5)))
    (mExpr (mBM "list" oAppend (mVar 2) (lCons (mVar 5) lNil)))) mPass))
noncomputable def c_greatest_paper_1 : MB := (mTru (mVar 2))
noncomputable def lb_greatest_paper_2 : MS := (mSeq (mSet 3 (mBM "list" oPop (mVar 2) lNil))
    (mSeq (mSet 4 (mFn m_public_behind (lCons (mVar 0) (lCons (mVar 3) (lCons (mBin oIx (mVar 1) (mVar 3)) lNil)))))
    (mFor (mIt (mFn m_ways (lCons (mVar 0) (lCons (mVar 3) lNil)))) (gN 5) lb_greatest_paper_0)))
noncomputable def b_greatest_paper : MS := (mSeq (mSet 1 (mBin oMul (mLst (lCons (mRg1 oTRg (mC d_REGISTERS)) lNil)) (mCall bLen (lCons (mBin oIx (mVar 0) (mC (.int 1))) lNil))))
    (mSeq (mSet 2 (mRg1 oLRgR (mCall bLen (lCons (mBin oIx (mVar 0) (mC (.int 1))) lNil))))
    (mSeq (mWhile c_greatest_paper_1 lb_greatest_paper_2)
    (mRet (mCall bTuple (lCons (mVar 1) lNil))))))
noncomputable def m_greatest_paper : MD := mDef 1 7 b_greatest_paper
theorem len_greatest_paper (ds : List D) (S : Hs) (h : ds.length ≠ 1) : m_greatest_paper ds S = .bad := mDef_len ds S h
noncomputable def lb__law_is_member_0 : MS := (mIfS (mOrB (mNotB (mTru (mUn (oIsi "int") (mVar 1)))) (mOrB (mTru (mUn (oIsi "bool") (mVar 1))) (mOrB (mCmp oLt (mVar 1) (mC (.int 0))) (mCmp oGt (mVar 1) (mC (.int 15)))))) (mRet (mC (.bl false))) mPass)
noncomputable def b__law_is_member : MS := (mSeq (mIfS (mNotB (mTru (mUn (oIsi "tuple") (mVar 0)))) (mRet (mC (.bl false))) mPass)
    (mSeq (mFor (mIt (mVar 0)) (gN 1) lb__law_is_member_0)
    (mRet (mAnd (mBin oEq (mCall bList (lCons (mVar 0) lNil)) (mCall bSortA (lCons (mVar 0) lNil))) (mBin oEq (mCall bLen (lCons (mLc (mRng1 (lCons (mC (.int 16)) lNil)) (cN 1) (mCmp oIn (mVar 1) (mVar 0)) (mVar 1) [1]) lNil)) (mCall bLen (lCons (mVar 0) lNil)))))))
noncomputable def m__law_is_member : MD := mDef 1 1 b__law_is_member
theorem len__law_is_member (ds : List D) (S : Hs) (h : ds.length ≠ 1) : m__law_is_member ds S = .bad := mDef_len ds S h
noncomputable def lb__law_holds_0 : MS := (mIfS (mCmp oNe (mLc (mIt (mBin oIx (mVar 1) (mVar 4))) (cN 6) (mCmp oNotIn (mVar 6) (mVar 3)) (mVar 6) [6]) (mLst lNil)) (mRet (mC (.bl false))) mPass)
noncomputable def lb__law_holds_1 : MS := (mSeq (mSet 3 (mFn m__law_behind (lCons (mVar 0) (lCons (mVar 2) (lCons (mBin oIx (mVar 1) (mVar 2)) lNil)))))
    (mFor (mIt (mFn m__law_ways (lCons (mVar 0) (lCons (mVar 2) lNil)))) (gN 4) lb__law_holds_0))
noncomputable def b__law_holds : MS := (mSeq (mIfS (mOrB (mNotB (mTru (mUn (oIsi "tuple") (mVar 1)))) (mCmp oNe (mCall bLen (lCons (mVar 1) lNil)) (mCall bLen (lCons (mBin oIx (mVar 0) (mC (.int 1))) lNil)))) (mRet (mC (.bl false))) mPass)
    (mSeq (mIfS (mCmp oNe (mLc (mIt (mVar 1)) (cN 5) (mNotB (mTru (mFn m__law_is_member (lCons (mVar 5) lNil)))) (mVar 5) [5]) (mLst lNil)) (mRet (mC (.bl false))) mPass)
    (mSeq (mFor (mRng1 (lCons (mCall bLen (lCons (mVar 1) lNil)) lNil)) (gN 2) lb__law_holds_1)
    (mRet (mC (.bl true))))))
noncomputable def m__law_holds : MD := mDef 2 5 b__law_holds
theorem len__law_holds (ds : List D) (S : Hs) (h : ds.length ≠ 2) : m__law_holds ds S = .bad := mDef_len ds S h
noncomputable def lb_law_0 : MS := (mSeq (mSet 5 (mCall bTuple (lCons (mLc (mRng1 (lCons (mC (.int 16)) lNil)) (cN 10) (mCmp oEq (mFn m__law_next (lCons (mVar 1) (lCons (mC (.int 2)) lNil))) (mC (.int 0))) (mVar 10) [10]) lNil)))
    (mIfS (mOrB (mCmp oNe (mFn m_public_behind (lCons (mVar 2) (lCons (mVar 4) (lCons (mVar 5) lNil)))) (mCall bTuple (lCons (mFn m__law_behind (lCons (mVar 2) (lCons (mVar 4) (lCons (mVar 5) lNil)))) lNil))) (mCmp oNe (mFn m_ways (lCons (mVar 2) (lCons (mVar 4) lNil))) (mCall bTuple (lCons (mFn m__law_ways (lCons (mVar 2) (lCons (mVar 4) lNil))) lNil)))) (mRet (mC (.bl false))) mPass))
noncomputable def lb_law_1 : MS := (mSeq (mSet 7 (mFn m__law_paper (lCons (mVar 1) (lCons (mVar 3) lNil))))
    (mSeq (mSet 8 (mFn m_holds (lCons (mVar 2) (lCons (mVar 7) lNil))))
    (mSeq (mIfS (mOrB (mNotB (mTru (mUn (oIsi "bool") (mVar 8)))) (mCmp oNe (mVar 8) (mFn m__law_holds (lCons (mVar 2) (lCons (mVar 7) lNil))))) (mRet (mC (.bl false))) mPass)
    (mIfS (mAndB (mTru (mVar 8)) (mCmp oNe (mLc (mRng1 (lCons (mCall bLen (lCons (mVar 7) lNil)) lNil)) (cN 4) (mCmp oNe (mLc (mIt (mBin oIx (mVar 7) (mVar 4))) (cN 10) (mCmp oNotIn (mVar 10) (mBin oIx (mVar 3) (mVar 4))) (mVar 10) [10]) (mLst lNil)) (mVar 4) [4]) (mLst lNil))) (mRet (mC (.bl false))) mPass))))
noncomputable def lb_law_2 : MS := (mIfS (mCmp oIsNot (mFn m_holds (lCons (mVar 2) (lCons (mVar 9) lNil))) (mC (.bl false))) (mRet (mC (.bl false))) mPass)
noncomputable def b_law : MS := (mSeq (mSet 1 (mDisp (dpCons (mC (.str "draws")) (mFn m__law_draws (lCons (mVar 0) (lCons (mC (.int 420)) lNil))) (dpCons (mC (.str "at")) (mC (.int 0)) dpNil))))
    (mSeq (mSet 2 (mFn m__law_code (lCons (mVar 1) lNil)))
    (mSeq (mSet 3 (mFn m__law_greatest (lCons (mVar 2) lNil)))
    (mSeq (mIfS (mOrB (mCmp oNe (mFn m_greatest_paper (lCons (mVar 2) lNil)) (mVar 3)) (mCmp oIsNot (mFn m_holds (lCons (mVar 2) (lCons (mVar 3) lNil))) (mC (.bl true)))) (mRet (mC (.bl false))) mPass)
    (mSeq (mFor (mRng1 (lCons (mCall bLen (lCons (mBin oIx (mVar 2) (mC (.int 1))) lNil)) lNil)) (gN 4) lb_law_0)
    (mSeq (mFor (mRng1 (lCons (mC (.int 6)) lNil)) (gN 6) lb_law_1)
    (mSeq (mFor (mIt (mLst (lCons (mC .non) (lCons (mTup lNil) (lCons (mC (.str "paper")) (lCons (mC (.int 3)) (lCons (mC (.bl true)) (lCons (mBin oAdd (mVar 3) (mTup (lCons (mTup lNil) lNil))) lNil)))))))) (gN 9) lb_law_2)
    (mRet (mC (.bl true))))))))))
noncomputable def m_law : MD := mDef 1 10 b_law
end GK64
set_option Elab.async false
set_option linter.all false
set_option maxRecDepth 100000
set_option maxHeartbeats 4000000
namespace GK64
open PySem PySem.Spec L2 Ly
open PyProof.Rows hiding St
def top (i : Nat) : Stmt := PySem.Challenge.pw_sameclock_k64_papers_that_hold.main.body.getD i (.Pass ⟨0, 0, 0, 0⟩)
abbrev s__law_next : Stmt := top 18
abbrev s__law_regions : Stmt := top 19
abbrev s__law_span : Stmt := top 20
abbrev s__law_row : Stmt := top 21
abbrev s__law_code : Stmt := top 22
abbrev s__law_region : Stmt := top 23
abbrev s__law_behind : Stmt := top 24
abbrev s__law_ways : Stmt := top 25
abbrev s__law_greatest : Stmt := top 26
abbrev s__law_draws : Stmt := top 17
abbrev s__law_paper : Stmt := top 29
abbrev s_is_number : Stmt := top 1
abbrev s_is_paper : Stmt := top 14
abbrev s_ways : Stmt := top 12
abbrev s_writes : Stmt := top 6
abbrev s_reads : Stmt := top 5
abbrev s_region_of : Stmt := top 8
abbrev s__makes_public : Stmt := top 11
abbrev s_public_behind : Stmt := top 10
abbrev s_holds : Stmt := top 13
abbrev s_greatest_paper : Stmt := top 15
abbrev s__law_is_member : Stmt := top 27
abbrev s__law_holds : Stmt := top 28
abbrev s_law : Stmt := top 30
section
variable {P : Program} {w : World} {K : PySem.W.Frag} {mg : Str → Option Value} {base : Heap}
theorem sc__law_next : FnScope ["w", "many"] ["w", "many"] (defScope s__law_next) := ⟨rfl, rfl, rfl, by decide +kernel, rfl, by decide +kernel, by decide +kernel⟩
theorem ok__law_next {f__law_next : Addr} {fd__law_next : FuncData} (D__law_next : DefAt K mg "_law_next" s__law_next ["w", "many"] f__law_next fd__law_next) (z_len : mg "len" = none) (z_int : mg "int" = none) : FnOk P w K mg base (L2.CX P w) 1 f__law_next fd__law_next ["w", "many"] (spM K 2 (m__law_next)) := by
  have sc := sc__law_next
  refine fn_def (m := b__law_next) D__law_next.F sc rfl rfl fun cdv A outer s H E hr => ?_
  unfold b__law_next
  exact (SMs.cons (s_addI (hu_of hr) (e_v 0) e_str e_int)
    (SMs.cons (s_if (b_cmp op_gt ok_gt (e_ix (hu_of hr) (e_v 0) e_str) (c_len z_len (l_cons (e_ix (hu_of hr) (e_v 0) e_str) l_nil)) (nomark _)) (SMs.one (s_ret e_int)) SMs.nil)
    (SMs.one (s_ret (e_mod (c_int z_int (l_cons (e_ix (hu_of hr) (e_ix (hu_of hr) (e_v 0) e_str) (e_sub (e_ix (hu_of hr) (e_v 0) e_str) e_int)) l_nil)) (e_v 1))))))
theorem sc__law_regions : FnScope ["w", "regions", "base", "k", "size"] ["w"] (defScope s__law_regions) := ⟨rfl, rfl, rfl, by decide +kernel, rfl, by decide +kernel, by decide +kernel⟩
theorem ok__law_regions {f__law_regions : Addr} {fd__law_regions : FuncData} {f__law_next : Addr} {fd__law_next : FuncData} (D__law_regions : DefAt K mg "_law_regions" s__law_regions ["w"] f__law_regions fd__law_regions) (D__law_next : DefAt K mg "_law_next" s__law_next ["w", "many"] f__law_next fd__law_next) (G__law_next : FnOk P w K mg base (L2.CX P w) 1 f__law_next fd__law_next ["w", "many"] (spM K 2 m__law_next)) (z_range : mg "range" = none) (z_tuple : mg "tuple" = none) : FnOk P w K mg base (L2.CX P w) 2 f__law_regions fd__law_regions ["w"] (spM K 1 (m__law_regions)) := by
  have sc := sc__law_regions
  refine fn_def (m := b__law_regions) D__law_regions.F sc rfl rfl fun cdv A outer s H E hr => ?_
  unfold b__law_regions
  exact (SMs.cons (s_set (i := 1) sc.nd (e_lst l_nil))
    (SMs.cons (s_set (i := 2) sc.nd e_int)
    (SMs.cons (s_for (passes_of rfl) rfl (i_rng1 z_range (l_cons (e_add e_int (e_fn G__law_next len__law_next (hr.mono (by decide)) (by rfl) D__law_next.g D__law_next.F.kp D__law_next.b (fun _ => Passes.at pass_def _) (l_cons (e_v 0) (l_cons e_int l_nil)))) l_nil)) (g_n (i := 3) sc.nd) (SMs.cons (s_set (i := 4) sc.nd (e_ix (hu_of hr) (e_lst (l_cons e_int (l_cons e_int (l_cons e_int (l_cons e_int (l_cons e_int l_nil)))))) (e_fn G__law_next len__law_next (hr.mono (by decide)) (by rfl) D__law_next.g D__law_next.F.kp D__law_next.b (fun _ => Passes.at pass_def _) (l_cons (e_v 0) (l_cons e_int l_nil)))))
    (SMs.cons (s_expr (e_bm PySem.F.plainAttrs_list PySem.F.slot_list_append PySem.F.type_list_append mt_append ok_append (e_v 1) (l_cons (e_tup (l_cons (e_v 2) (l_cons (e_v 4) (l_cons (e_ix (hu_of hr) (e_lst (l_cons e_str (l_cons e_str l_nil))) (e_fn G__law_next len__law_next (hr.mono (by decide)) (by rfl) D__law_next.g D__law_next.F.kp D__law_next.b (fun _ => Passes.at pass_def _) (l_cons (e_v 0) (l_cons e_int l_nil)))) l_nil)))) l_nil)))
    (SMs.one (s_iadd (i := 2) sc.nd (e_v 4))))))
    (SMs.one (s_ret (c_tuple z_tuple (l_cons (e_v 1) l_nil)))))))
theorem sc__law_span : FnScope ["w", "regions", "base", "size", "label", "mask"] ["w", "regions"] (defScope s__law_span) := ⟨rfl, rfl, rfl, by decide +kernel, rfl, by decide +kernel, by decide +kernel⟩
theorem ok__law_span {f__law_span : Addr} {fd__law_span : FuncData} {f__law_next : Addr} {fd__law_next : FuncData} (D__law_span : DefAt K mg "_law_span" s__law_span ["w", "regions"] f__law_span fd__law_span) (D__law_next : DefAt K mg "_law_next" s__law_next ["w", "many"] f__law_next fd__law_next) (G__law_next : FnOk P w K mg base (L2.CX P w) 1 f__law_next fd__law_next ["w", "many"] (spM K 2 m__law_next)) (z_len : mg "len" = none) : FnOk P w K mg base (L2.CX P w) 2 f__law_span fd__law_span ["w", "regions"] (spM K 2 (m__law_span)) := by
  have sc := sc__law_span
  refine fn_def (m := b__law_span) D__law_span.F sc rfl rfl fun cdv A outer s H E hr => ?_
  unfold b__law_span
  exact (SMs.cons (s_asg (e_ix (hu_of hr) (e_v 1) (e_fn G__law_next len__law_next (hr.mono (by decide)) (by rfl) D__law_next.g D__law_next.F.kp D__law_next.b (fun _ => Passes.at pass_def _) (l_cons (e_v 0) (l_cons (c_len z_len (l_cons (e_v 1) l_nil)) l_nil)))) (g_tup rfl (gs_cons (g_n (i := 2) sc.nd) (gs_cons (g_n (i := 3) sc.nd) (gs_cons (g_n (i := 4) sc.nd) gs_nil)))))
    (SMs.cons (s_set (i := 5) sc.nd (e_ix (hu_of hr) (e_lst (l_cons e_int (l_cons e_int (l_cons e_int (l_cons e_int (l_cons e_int l_nil)))))) (e_fn G__law_next len__law_next (hr.mono (by decide)) (by rfl) D__law_next.g D__law_next.F.kp D__law_next.b (fun _ => Passes.at pass_def _) (l_cons (e_v 0) (l_cons e_int l_nil)))))
    (SMs.cons (s_if (b_cmp op_gt ok_gt (e_fn G__law_next len__law_next (hr.mono (by decide)) (by rfl) D__law_next.g D__law_next.F.kp D__law_next.b (fun _ => Passes.at pass_def _) (l_cons (e_v 0) (l_cons e_int l_nil))) e_int (nomark _)) (SMs.cons (s_while (passes_of rfl) (b_cmp op_ge ok_ge (e_v 5) (e_v 3) (nomark _)) (SMs.one (s_set (i := 5) sc.nd (e_fdiv (e_v 5) e_int))))
    (SMs.one (s_ret (e_tup (l_cons (e_add (e_v 2) (e_fn G__law_next len__law_next (hr.mono (by decide)) (by rfl) D__law_next.g D__law_next.F.kp D__law_next.b (fun _ => Passes.at pass_def _) (l_cons (e_v 0) (l_cons (e_sub (e_v 3) (e_v 5)) l_nil)))) (l_cons (e_v 5) l_nil)))))) SMs.nil)
    (SMs.one (s_ret (e_tup (l_cons (e_fn G__law_next len__law_next (hr.mono (by decide)) (by rfl) D__law_next.g D__law_next.F.kp D__law_next.b (fun _ => Passes.at pass_def _) (l_cons (e_v 0) (l_cons e_int l_nil))) (l_cons (e_v 5) l_nil))))))))
theorem sc__law_row : FnScope ["w", "regions", "many", "turn", "d", "a", "b", "base", "mask"] ["w", "regions", "many"] (defScope s__law_row) := ⟨rfl, rfl, rfl, by decide +kernel, rfl, by decide +kernel, by decide +kernel⟩
theorem ok__law_row {f__law_row : Addr} {fd__law_row : FuncData} {f__law_next : Addr} {fd__law_next : FuncData} {f__law_span : Addr} {fd__law_span : FuncData} (D__law_row : DefAt K mg "_law_row" s__law_row ["w", "regions", "many"] f__law_row fd__law_row) (D__law_next : DefAt K mg "_law_next" s__law_next ["w", "many"] f__law_next fd__law_next) (D__law_span : DefAt K mg "_law_span" s__law_span ["w", "regions"] f__law_span fd__law_span) (G__law_next : FnOk P w K mg base (L2.CX P w) 1 f__law_next fd__law_next ["w", "many"] (spM K 2 m__law_next)) (G__law_span : FnOk P w K mg base (L2.CX P w) 2 f__law_span fd__law_span ["w", "regions"] (spM K 2 m__law_span)) : FnOk P w K mg base (L2.CX P w) 3 f__law_row fd__law_row ["w", "regions", "many"] (spM K 3 (m__law_row)) := by
  have sc := sc__law_row
  refine fn_def (m := b__law_row) D__law_row.F sc rfl rfl fun cdv A outer s H E hr => ?_
  unfold b__law_row
  exact (SMs.cons (s_set (i := 3) sc.nd (e_fn G__law_next len__law_next (hr.mono (by decide)) (by rfl) D__law_next.g D__law_next.F.kp D__law_next.b (fun _ => Passes.at pass_def _) (l_cons (e_v 0) (l_cons e_int l_nil))))
    (SMs.cons (s_set (i := 4) sc.nd (e_fn G__law_next len__law_next (hr.mono (by decide)) (by rfl) D__law_next.g D__law_next.F.kp D__law_next.b (fun _ => Passes.at pass_def _) (l_cons (e_v 0) (l_cons e_int l_nil))))
    (SMs.cons (s_set (i := 5) sc.nd (e_fn G__law_next len__law_next (hr.mono (by decide)) (by rfl) D__law_next.g D__law_next.F.kp D__law_next.b (fun _ => Passes.at pass_def _) (l_cons (e_v 0) (l_cons e_int l_nil))))
    (SMs.cons (s_set (i := 6) sc.nd (e_fn G__law_next len__law_next (hr.mono (by decide)) (by rfl) D__law_next.g D__law_next.F.kp D__law_next.b (fun _ => Passes.at pass_def _) (l_cons (e_v 0) (l_cons e_int l_nil))))
    (SMs.cons (s_if (b_cmp op_lt ok_lt (e_v 3) e_int (nomark _)) (SMs.one (s_ret (e_tup (l_cons e_str (l_cons (e_v 4) (l_cons (e_ix (hu_of hr) (e_lst (l_cons (e_fn G__law_next len__law_next (hr.mono (by decide)) (by rfl) D__law_next.g D__law_next.F.kp D__law_next.b (fun _ => Passes.at pass_def _) (l_cons (e_v 0) (l_cons e_int l_nil))) (l_cons (e_sub e_int (e_fn G__law_next len__law_next (hr.mono (by decide)) (by rfl) D__law_next.g D__law_next.F.kp D__law_next.b (fun _ => Passes.at pass_def _) (l_cons (e_v 0) (l_cons e_int l_nil)))) (l_cons (e_mul (e_fn G__law_next len__law_next (hr.mono (by decide)) (by rfl) D__law_next.g D__law_next.F.kp D__law_next.b (fun _ => Passes.at pass_def _) (l_cons (e_v 0) (l_cons e_int l_nil))) e_int) l_nil)))) (e_fn G__law_next len__law_next (hr.mono (by decide)) (by rfl) D__law_next.g D__law_next.F.kp D__law_next.b (fun _ => Passes.at pass_def _) (l_cons (e_v 0) (l_cons e_int l_nil)))) l_nil)))))) SMs.nil)
    (SMs.cons (s_if (b_cmp op_lt ok_lt (e_v 3) e_int (nomark _)) (SMs.one (s_ret (e_tup (l_cons e_str (l_cons (e_ix (hu_of hr) (e_lst (l_cons e_str (l_cons e_str (l_cons e_str (l_cons e_str (l_cons e_str (l_cons e_str (l_cons e_str (l_cons e_str (l_cons e_str (l_cons e_str (l_cons e_str (l_cons e_str (l_cons e_str l_nil)))))))))))))) (e_fn G__law_next len__law_next (hr.mono (by decide)) (by rfl) D__law_next.g D__law_next.F.kp D__law_next.b (fun _ => Passes.at pass_def _) (l_cons (e_v 0) (l_cons e_int l_nil)))) (l_cons (e_v 4) (l_cons (e_v 5) (l_cons (e_v 6) l_nil)))))))) SMs.nil)
    (SMs.cons (s_if (b_cmp (or_eqA hr) ok_eq (e_v 3) e_int (nomark _)) (SMs.one (s_ret (e_tup (l_cons e_str (l_cons (e_v 4) (l_cons (e_fn G__law_next len__law_next (hr.mono (by decide)) (by rfl) D__law_next.g D__law_next.F.kp D__law_next.b (fun _ => Passes.at pass_def _) (l_cons (e_v 0) (l_cons e_int l_nil))) (l_cons (e_v 5) (l_cons (e_v 6) l_nil)))))))) SMs.nil)
    (SMs.cons (s_if (b_cmp op_lt ok_lt (e_v 3) e_int (nomark _)) (SMs.cons (s_asg (e_fn G__law_span len__law_span (hr.mono (by decide)) (by rfl) D__law_span.g D__law_span.F.kp D__law_span.b (fun _ => Passes.at pass_def _) (l_cons (e_v 0) (l_cons (e_v 1) l_nil))) (g_tup rfl (gs_cons (g_n (i := 7) sc.nd) (gs_cons (g_n (i := 8) sc.nd) gs_nil))))
    (SMs.one (s_ret (e_tup (l_cons e_str (l_cons (e_v 4) (l_cons (e_v 5) (l_cons (e_v 7) (l_cons (e_v 8) l_nil))))))))) SMs.nil)
    (SMs.cons (s_if (b_cmp op_lt ok_lt (e_v 3) e_int (nomark _)) (SMs.cons (s_asg (e_fn G__law_span len__law_span (hr.mono (by decide)) (by rfl) D__law_span.g D__law_span.F.kp D__law_span.b (fun _ => Passes.at pass_def _) (l_cons (e_v 0) (l_cons (e_v 1) l_nil))) (g_tup rfl (gs_cons (g_n (i := 7) sc.nd) (gs_cons (g_n (i := 8) sc.nd) gs_nil))))
    (SMs.one (s_ret (e_tup (l_cons e_str (l_cons (e_v 5) (l_cons (e_v 7) (l_cons (e_v 8) (l_cons (e_v 6) l_nil))))))))) SMs.nil)
    (SMs.cons (s_if (b_cmp (or_eqA hr) ok_eq (e_v 3) e_int (nomark _)) (SMs.one (s_ret (e_tup (l_cons e_str (l_cons (e_v 5) l_nil))))) SMs.nil)
    (SMs.cons (s_if (b_cmp (or_eqA hr) ok_eq (e_v 3) e_int (nomark _)) (SMs.one (s_ret (e_tup (l_cons e_str (l_cons (e_v 5) (l_cons (e_fn G__law_next len__law_next (hr.mono (by decide)) (by rfl) D__law_next.g D__law_next.F.kp D__law_next.b (fun _ => Passes.at pass_def _) (l_cons (e_v 0) (l_cons (e_v 2) l_nil))) l_nil)))))) SMs.nil)
    (SMs.one (s_ret (e_ix (hu_of hr) (e_lst (l_cons (e_tup (l_cons e_str (l_cons (e_fn G__law_next len__law_next (hr.mono (by decide)) (by rfl) D__law_next.g D__law_next.F.kp D__law_next.b (fun _ => Passes.at pass_def _) (l_cons (e_v 0) (l_cons (e_v 2) l_nil))) l_nil))) (l_cons (e_tup (l_cons e_str (l_cons (e_v 5) l_nil))) (l_cons (e_tup (l_cons e_str (l_cons (e_v 4) (l_cons e_int l_nil)))) l_nil)))) (e_fn G__law_next len__law_next (hr.mono (by decide)) (by rfl) D__law_next.g D__law_next.F.kp D__law_next.b (fun _ => Passes.at pass_def _) (l_cons (e_v 0) (l_cons e_int l_nil)))))))))))))))))
theorem sc__law_code : FnScope ["w", "regions", "many", "rows", "k"] ["w"] (defScope s__law_code) := ⟨rfl, rfl, rfl, by decide +kernel, rfl, by decide +kernel, by decide +kernel⟩
theorem ok__law_code {f__law_code : Addr} {fd__law_code : FuncData} {f__law_regions : Addr} {fd__law_regions : FuncData} {f__law_next : Addr} {fd__law_next : FuncData} {f__law_row : Addr} {fd__law_row : FuncData} (D__law_code : DefAt K mg "_law_code" s__law_code ["w"] f__law_code fd__law_code) (D__law_regions : DefAt K mg "_law_regions" s__law_regions ["w"] f__law_regions fd__law_regions) (D__law_next : DefAt K mg "_law_next" s__law_next ["w", "many"] f__law_next fd__law_next) (D__law_row : DefAt K mg "_law_row" s__law_row ["w", "regions", "many"] f__law_row fd__law_row) (G__law_regions : FnOk P w K mg base (L2.CX P w) 2 f__law_regions fd__law_regions ["w"] (spM K 1 m__law_regions)) (G__law_next : FnOk P w K mg base (L2.CX P w) 1 f__law_next fd__law_next ["w", "many"] (spM K 2 m__law_next)) (G__law_row : FnOk P w K mg base (L2.CX P w) 3 f__law_row fd__law_row ["w", "regions", "many"] (spM K 3 m__law_row)) (z_range : mg "range" = none) (z_tuple : mg "tuple" = none) : FnOk P w K mg base (L2.CX P w) 4 f__law_code fd__law_code ["w"] (spM K 1 (m__law_code)) := by
  have sc := sc__law_code
  refine fn_def (m := b__law_code) D__law_code.F sc rfl rfl fun cdv A outer s H E hr => ?_
  unfold b__law_code
  exact (SMs.cons (s_set (i := 1) sc.nd (e_fn G__law_regions len__law_regions (hr.mono (by decide)) (by rfl) D__law_regions.g D__law_regions.F.kp D__law_regions.b (fun _ => Passes.at pass_def _) (l_cons (e_v 0) l_nil)))
    (SMs.cons (s_set (i := 2) sc.nd (e_add e_int (e_fn G__law_next len__law_next (hr.mono (by decide)) (by rfl) D__law_next.g D__law_next.F.kp D__law_next.b (fun _ => Passes.at pass_def _) (l_cons (e_v 0) (l_cons e_int l_nil)))))
    (SMs.cons (s_setLc (i := 3) rfl sc.nd (sw_true rfl rfl rfl (by decide +kernel)) (i_rng1 z_range (l_cons (e_sub (e_v 2) e_int) l_nil)) (blkOk_by (own := [("k", 4)]) (by rfl)) (gok_n (i := 4) rfl) (fun _ _ _ _ _ => pg_name (i := 4) sc.nd rfl (by first | exact Or.inl rfl | exact Or.inr rfl)) (fun _ _ _ _ _ => ct_nil) (fun _ _ _ _ _ => (e_fn G__law_row len__law_row (hr.mono (by decide)) (by rfl) D__law_row.g D__law_row.F.kp D__law_row.b (fun _ => Passes.at passL _) (l_cons (e_v 0) (l_cons (e_v 1) (l_cons (e_v 2) l_nil))))))
    (SMs.one (s_ret (e_tup (l_cons (e_v 1) (l_cons (c_tuple z_tuple (l_cons (e_add (e_v 3) (e_lst (l_cons (e_ix (hu_of hr) (e_lst (l_cons (e_tup (l_cons e_str (l_cons (e_fn G__law_next len__law_next (hr.mono (by decide)) (by rfl) D__law_next.g D__law_next.F.kp D__law_next.b (fun _ => Passes.at pass_def _) (l_cons (e_v 0) (l_cons e_int l_nil))) l_nil))) (l_cons (e_tup (l_cons e_str (l_cons (e_fn G__law_next len__law_next (hr.mono (by decide)) (by rfl) D__law_next.g D__law_next.F.kp D__law_next.b (fun _ => Passes.at pass_def _) (l_cons (e_v 0) (l_cons (e_v 2) l_nil))) l_nil))) l_nil))) (e_fdiv (e_fn G__law_next len__law_next (hr.mono (by decide)) (by rfl) D__law_next.g D__law_next.F.kp D__law_next.b (fun _ => Passes.at pass_def _) (l_cons (e_v 0) (l_cons e_int l_nil))) e_int)) l_nil))) l_nil)) l_nil))))))))
theorem sc__law_region : FnScope ["code", "base", "mask", "found", "one"] ["code", "base", "mask"] (defScope s__law_region) := ⟨rfl, rfl, rfl, by decide +kernel, rfl, by decide +kernel, by decide +kernel⟩
theorem ok__law_region {f__law_region : Addr} {fd__law_region : FuncData} (D__law_region : DefAt K mg "_law_region" s__law_region ["code", "base", "mask"] f__law_region fd__law_region) : FnOk P w K mg base (L2.CX P w) 1 f__law_region fd__law_region ["code", "base", "mask"] (spM K 3 (m__law_region)) := by
  have sc := sc__law_region
  refine fn_def (m := b__law_region) D__law_region.F sc rfl rfl fun cdv A outer s H E hr => ?_
  unfold b__law_region
  exact (SMs.cons (s_setLc (i := 3) rfl sc.nd (sw_true rfl rfl rfl (by decide +kernel)) (i_it (e_ix (hu_of hr) (e_v 0) e_int)) (blkOk_by (own := [("one", 4)]) (by rfl)) (gok_n (i := 4) rfl) (fun _ _ _ _ _ => pg_name (i := 4) sc.nd rfl (by first | exact Or.inl rfl | exact Or.inr rfl)) (fun _ _ _ _ _ => ct_one (b_of (w_and (b_cmp op_le ok_le (e_ix (hu_of hr) (e_v 4) e_int) (e_v 1) (nomark _)) (w_and1 (b_cmp op_lt ok_lt (e_add (e_v 1) (e_v 2)) (e_add (e_ix (hu_of hr) (e_v 4) e_int) (e_ix (hu_of hr) (e_v 4) e_int)) (nomark _)))))) (fun _ _ _ _ _ => (e_v 4)))
    (SMs.cons (s_if (b_cmp (or_eqA hr) ok_eq (e_v 3) (e_lst l_nil) (nomark _)) (SMs.one (s_ret e_non)) SMs.nil)
    (SMs.one (s_ret (e_ix (hu_of hr) (e_v 3) e_int)))))
theorem sc__law_behind : FnScope ["code", "r", "member", "row", "public", "region", "one"] ["code", "r", "member"] (defScope s__law_behind) := ⟨rfl, rfl, rfl, by decide +kernel, rfl, by decide +kernel, by decide +kernel⟩
theorem ok__law_behind {f__law_behind : Addr} {fd__law_behind : FuncData} {f__law_region : Addr} {fd__law_region : FuncData} (D__law_behind : DefAt K mg "_law_behind" s__law_behind ["code", "r", "member"] f__law_behind fd__law_behind) (D__law_region : DefAt K mg "_law_region" s__law_region ["code", "base", "mask"] f__law_region fd__law_region) (G__law_region : FnOk P w K mg base (L2.CX P w) 1 f__law_region fd__law_region ["code", "base", "mask"] (spM K 3 m__law_region)) (z_range : mg "range" = none) (z_list : mg "list" = none) : FnOk P w K mg base (L2.CX P w) 2 f__law_behind fd__law_behind ["code", "r", "member"] (spM K 3 (m__law_behind)) := by
  have sc := sc__law_behind
  refine fn_def (m := b__law_behind) D__law_behind.F sc rfl rfl fun cdv A outer s H E hr => ?_
  unfold b__law_behind
  exact (SMs.cons (s_set (i := 3) sc.nd (e_ix (hu_of hr) (e_ix (hu_of hr) (e_v 0) e_int) (e_v 1)))
    (SMs.cons (s_if (b_cmp (or_eqA hr) ok_eq (e_ix (hu_of hr) (e_v 3) e_int) e_str (nomark _)) (SMs.one (s_ret (e_lc rfl sc.nd (i_rng1 z_range (l_cons e_int l_nil)) (blkOk_by (own := [("one", 6)]) (by rfl)) (gok_n (i := 6) rfl) (fun _ _ _ _ _ => pg_name (i := 6) sc.nd rfl (by first | exact Or.inl rfl | exact Or.inr rfl)) (fun _ _ _ _ _ => ct_one (b_of (w_or (b_cmp (or_inAll hr) ok_in (e_v 6) (e_v 2) (by rfl)) (w_or1 (b_cmp (or_eqA hr) ok_eq (e_v 6) (e_ix (hu_of hr) (e_v 3) e_int) (nomark _)))))) (fun _ _ _ _ _ => (e_v 6))))) SMs.nil)
    (SMs.cons (s_if (b_cmp (or_eqA hr) ok_eq (e_ix (hu_of hr) (e_v 3) e_int) e_str (nomark _)) (SMs.cons (s_set (i := 4) sc.nd (e_and (e_cmp (or_inAll hr) ok_in (e_ix (hu_of hr) (e_v 3) e_int) (e_v 2) (by rfl)) (e_one (e_cmp (or_inAll hr) ok_in (e_ix (hu_of hr) (e_v 3) e_int) (e_v 2) (by rfl)))))
    (SMs.one (s_ret (e_lc rfl sc.nd (i_rng1 z_range (l_cons e_int l_nil)) (blkOk_by (own := [("one", 6)]) (by rfl)) (gok_n (i := 6) rfl) (fun _ _ _ _ _ => pg_name (i := 6) sc.nd rfl (by first | exact Or.inl rfl | exact Or.inr rfl)) (fun _ _ _ _ _ => ct_one (b_of (w_or (b_of (w_and (b_cmp (or_neA hr) ok_ne (e_v 6) (e_ix (hu_of hr) (e_v 3) e_int) (nomark _)) (w_and1 (b_cmp (or_inAll hr) ok_in (e_v 6) (e_v 2) (by rfl))))) (w_or1 (b_of (w_and (b_cmp (or_eqA hr) ok_eq (e_v 6) (e_ix (hu_of hr) (e_v 3) e_int) (nomark _)) (w_and1 (b_tru (e_v 4))))))))) (fun _ _ _ _ _ => (e_v 6)))))) SMs.nil)
    (SMs.cons (s_if (b_cmp (or_eqA hr) ok_eq (e_ix (hu_of hr) (e_v 3) e_int) e_str (nomark _)) (SMs.cons (s_set (i := 4) sc.nd (e_and (e_cmp (or_inAll hr) ok_in (e_ix (hu_of hr) (e_v 3) e_int) (e_v 2) (by rfl)) (e_and (e_cmp (or_inAll hr) ok_in (e_ix (hu_of hr) (e_v 3) e_int) (e_v 2) (by rfl)) (e_one (e_cmp (or_inAll hr) ok_in (e_ix (hu_of hr) (e_v 3) e_int) (e_v 2) (by rfl))))))
    (SMs.one (s_ret (e_lc rfl sc.nd (i_rng1 z_range (l_cons e_int l_nil)) (blkOk_by (own := [("one", 6)]) (by rfl)) (gok_n (i := 6) rfl) (fun _ _ _ _ _ => pg_name (i := 6) sc.nd rfl (by first | exact Or.inl rfl | exact Or.inr rfl)) (fun _ _ _ _ _ => ct_one (b_of (w_or (b_of (w_and (b_cmp (or_neA hr) ok_ne (e_v 6) (e_ix (hu_of hr) (e_v 3) e_int) (nomark _)) (w_and1 (b_cmp (or_inAll hr) ok_in (e_v 6) (e_v 2) (by rfl))))) (w_or1 (b_of (w_and (b_cmp (or_eqA hr) ok_eq (e_v 6) (e_ix (hu_of hr) (e_v 3) e_int) (nomark _)) (w_and1 (b_tru (e_v 4))))))))) (fun _ _ _ _ _ => (e_v 6)))))) SMs.nil)
    (SMs.cons (s_if (b_cmp (or_eqA hr) ok_eq (e_ix (hu_of hr) (e_v 3) e_int) e_str (nomark _)) (SMs.cons (s_set (i := 5) sc.nd (e_fn G__law_region len__law_region (hr.mono (by decide)) (by rfl) D__law_region.g D__law_region.F.kp D__law_region.b (fun _ => Passes.at pass_def _) (l_cons (e_v 0) (l_cons (e_ix (hu_of hr) (e_v 3) e_int) (l_cons (e_ix (hu_of hr) (e_v 3) e_int) l_nil)))))
    (SMs.cons (s_set (i := 4) sc.nd (e_and (e_cmp or_isnotA ok_isnot (e_v 5) e_non (nomark _)) (e_one (e_cmp (or_eqA hr) ok_eq (e_ix (hu_of hr) (e_v 5) e_int) e_str (nomark _)))))
    (SMs.one (s_ret (e_lc rfl sc.nd (i_rng1 z_range (l_cons e_int l_nil)) (blkOk_by (own := [("one", 6)]) (by rfl)) (gok_n (i := 6) rfl) (fun _ _ _ _ _ => pg_name (i := 6) sc.nd rfl (by first | exact Or.inl rfl | exact Or.inr rfl)) (fun _ _ _ _ _ => ct_one (b_of (w_or (b_of (w_and (b_cmp (or_neA hr) ok_ne (e_v 6) (e_ix (hu_of hr) (e_v 3) e_int) (nomark _)) (w_and1 (b_cmp (or_inAll hr) ok_in (e_v 6) (e_v 2) (by rfl))))) (w_or1 (b_of (w_and (b_cmp (or_eqA hr) ok_eq (e_v 6) (e_ix (hu_of hr) (e_v 3) e_int) (nomark _)) (w_and1 (b_tru (e_v 4))))))))) (fun _ _ _ _ _ => (e_v 6))))))) SMs.nil)
    (SMs.one (s_ret (c_list rfl z_list (l_cons (e_v 2) l_nil)))))))))
theorem sc__law_ways : FnScope ["code", "r", "row"] ["code", "r"] (defScope s__law_ways) := ⟨rfl, rfl, rfl, by decide +kernel, rfl, by decide +kernel, by decide +kernel⟩
theorem ok__law_ways {f__law_ways : Addr} {fd__law_ways : FuncData} (D__law_ways : DefAt K mg "_law_ways" s__law_ways ["code", "r"] f__law_ways fd__law_ways) (z_sorted : mg "sorted" = none) : FnOk P w K mg base (L2.CX P w) 1 f__law_ways fd__law_ways ["code", "r"] (spM K 2 (m__law_ways)) := by
  have sc := sc__law_ways
  refine fn_def (m := b__law_ways) D__law_ways.F sc rfl rfl fun cdv A outer s H E hr => ?_
  unfold b__law_ways
  exact (SMs.cons (s_set (i := 2) sc.nd (e_ix (hu_of hr) (e_ix (hu_of hr) (e_v 0) e_int) (e_v 1)))
    (SMs.cons (s_if (b_cmp (or_eqA hr) ok_eq (e_ix (hu_of hr) (e_v 2) e_int) e_str (nomark _)) (SMs.one (s_ret (e_lst l_nil))) SMs.nil)
    (SMs.cons (s_if (b_cmp (or_eqA hr) ok_eq (e_ix (hu_of hr) (e_v 2) e_int) e_str (nomark _)) (SMs.one (s_ret (e_lst (l_cons (e_ix (hu_of hr) (e_v 2) e_int) l_nil)))) SMs.nil)
    (SMs.cons (s_if (b_of (w_and (b_cmp (or_eqA hr) ok_eq (e_ix (hu_of hr) (e_v 2) e_int) e_str (nomark _)) (w_and1 (b_cmp (or_neA hr) ok_ne (e_ix (hu_of hr) (e_v 2) e_int) (e_add (e_v 1) e_int) (nomark _))))) (SMs.one (s_ret (c_sorted rfl z_sorted (l_cons (e_lst (l_cons (e_add (e_v 1) e_int) (l_cons (e_ix (hu_of hr) (e_v 2) e_int) l_nil))) l_nil)))) SMs.nil)
    (SMs.one (s_ret (e_lst (l_cons (e_add (e_v 1) e_int) l_nil))))))))
theorem sc__law_greatest : FnScope ["code", "paper", "turn", "before", "r", "behind", "way", "row", "one", "member"] ["code"] (defScope s__law_greatest) := ⟨rfl, rfl, rfl, by decide +kernel, rfl, by decide +kernel, by decide +kernel⟩
theorem ok__law_greatest {f__law_greatest : Addr} {fd__law_greatest : FuncData} {f__law_behind : Addr} {fd__law_behind : FuncData} {f__law_ways : Addr} {fd__law_ways : FuncData} (D__law_greatest : DefAt K mg "_law_greatest" s__law_greatest ["code"] f__law_greatest fd__law_greatest) (D__law_behind : DefAt K mg "_law_behind" s__law_behind ["code", "r", "member"] f__law_behind fd__law_behind) (D__law_ways : DefAt K mg "_law_ways" s__law_ways ["code", "r"] f__law_ways fd__law_ways) (G__law_behind : FnOk P w K mg base (L2.CX P w) 2 f__law_behind fd__law_behind ["code", "r", "member"] (spM K 3 m__law_behind)) (G__law_ways : FnOk P w K mg base (L2.CX P w) 1 f__law_ways fd__law_ways ["code", "r"] (spM K 2 m__law_ways)) (z_list : mg "list" = none) (z_range : mg "range" = none) (z_repr : mg "repr" = none) (z_len : mg "len" = none) (z_tuple : mg "tuple" = none) : Ly.FnR P w K mg base (L2.CX P w) (Rgd 3) f__law_greatest fd__law_greatest ["code"] (spM K 1 (m__law_greatest)) := by
  have sc := sc__law_greatest
  refine fn_defR (m := b__law_greatest) D__law_greatest.F sc rfl rfl (fun A r => ⟨r.room.hd, by have := r.room.dp; omega⟩) fun cdv A outer s H E hr0 => ?_
  have hrk := hr0.deeper (PyProof.Rows.envOfC "_law_greatest" (defScope s__law_greatest) s.heap.objs.size f__law_greatest cdv)
  have hr := hrk.room
  unfold b__law_greatest
  exact (SMs.cons (s_setLc (i := 1) rfl sc.nd (sw_true rfl rfl rfl (by decide +kernel)) (i_it (e_ix (hu_of hr) (e_v 0) e_int)) (blkOk_by (own := [("row", 7)]) (by rfl)) (gok_n (i := 7) rfl) (fun _ _ _ _ _ => pg_name (i := 7) sc.nd rfl (by first | exact Or.inl rfl | exact Or.inr rfl)) (fun _ _ _ _ _ => ct_nil) (fun _ _ _ _ _ => (c_listRg1 rfl z_list z_range e_int)))
    (SMs.cons (s_for (passes_of rfl) rfl (i_rng1 z_range (l_cons e_int l_nil)) (g_n (i := 2) sc.nd) (SMs.cons (s_set (i := 3) sc.nd (c_repr hrk z_repr (l_cons (e_v 1) l_nil)))
    (SMs.cons (s_for (passes_of rfl) rfl (i_rng1 z_range (l_cons (c_len z_len (l_cons (e_v 1) l_nil)) l_nil)) (g_n (i := 4) sc.nd) (SMs.cons (s_set (i := 5) sc.nd (e_fn G__law_behind len__law_behind (hr.mono (by decide)) (by rfl) D__law_behind.g D__law_behind.F.kp D__law_behind.b (fun _ => Passes.at pass_def _) (l_cons (e_v 0) (l_cons (e_v 4) (l_cons (e_ix (hu_of hr) (e_v 1) (e_v 4)) l_nil)))))
    (SMs.one (s_for (passes_of rfl) rfl (i_it (e_fn G__law_ways len__law_ways (hr.mono (by decide)) (by rfl) D__law_ways.g D__law_ways.F.kp D__law_ways.b (fun _ => Passes.at pass_def _) (l_cons (e_v 0) (l_cons (e_v 4) l_nil)))) (g_n (i := 6) sc.nd) (SMs.one (s_sub (hu_of hr) (e_lc rfl sc.nd (i_it (e_ix (hu_of hr) (e_v 1) (e_v 6))) (blkOk_by (own := [("one", 8)]) (by rfl)) (gok_n (i := 8) rfl) (fun _ _ _ _ _ => pg_name (i := 8) sc.nd rfl (by first | exact Or.inl rfl | exact Or.inr rfl)) (fun _ _ _ _ _ => ct_one (b_cmp (or_inAll hr) ok_in (e_v 8) (e_v 5) (by rfl))) (fun _ _ _ _ _ => (e_v 8))) (e_v 1) (e_v 6)))))))
    (SMs.one (s_if (b_cmp (or_eqA hr) ok_eq (c_repr hrk z_repr (l_cons (e_v 1) l_nil)) (e_v 3) (nomark _)) (SMs.one s_brk) SMs.nil)))))
    (SMs.one (s_ret (c_tuple z_tuple (l_cons (e_lc rfl sc.nd (i_it (e_v 1)) (blkOk_by (own := [("member", 9)]) (by rfl)) (gok_n (i := 9) rfl) (fun _ _ _ _ _ => pg_name (i := 9) sc.nd rfl (by first | exact Or.inl rfl | exact Or.inr rfl)) (fun _ _ _ _ _ => ct_nil) (fun _ _ _ _ _ => (c_tuple z_tuple (l_cons (e_v 9) l_nil)))) l_nil))))))
theorem sc__law_draws : FnScope ["script", "many", "draws", "mixed", "k", "cell", "rest", "turn"] ["script", "many"] (defScope s__law_draws) := ⟨rfl, rfl, rfl, by decide +kernel, rfl, by decide +kernel, by decide +kernel⟩
theorem ok__law_draws {f__law_draws : Addr} {fd__law_draws : FuncData} (D__law_draws : DefAt K mg "_law_draws" s__law_draws ["script", "many"] f__law_draws fd__law_draws) (z_range : mg "range" = none) (z_len : mg "len" = none) (z_abs : mg "abs" = none) (z_int : mg "int" = none) : FnOk P w K mg base (L2.CX P w) 1 f__law_draws fd__law_draws ["script", "many"] (spM K 2 (m__law_draws)) := by
  have sc := sc__law_draws
  refine fn_def (m := b__law_draws) D__law_draws.F sc rfl rfl fun cdv A outer s H E hr => ?_
  unfold b__law_draws
  exact (SMs.cons (s_set (i := 2) sc.nd (e_lst l_nil))
    (SMs.cons (s_set (i := 3) sc.nd e_int)
    (SMs.cons (s_for (passes_of rfl) rfl (i_rng1 z_range (l_cons (c_len z_len (l_cons (e_v 0) l_nil)) l_nil)) (g_n (i := 4) sc.nd) (SMs.cons (s_set (i := 5) sc.nd (c_abs z_abs (l_cons (c_int z_int (l_cons (e_ix (hu_of hr) (e_v 0) (e_v 4)) l_nil)) l_nil)))
    (SMs.cons (s_set (i := 3) sc.nd (e_mod (c_int z_int (l_cons (e_add (e_add (e_mul (e_v 3) e_int) (e_mod (e_v 5) e_int)) (e_v 4)) l_nil)) e_int))
    (SMs.cons (s_set (i := 6) sc.nd e_int)
    (SMs.cons (s_if (b_cmp op_ge ok_ge (e_v 5) (e_pow e_int e_int) (nomark _)) (SMs.one (s_set (i := 6) sc.nd (e_v 5))) (SMs.cons (s_expr (e_bm PySem.F.plainAttrs_list PySem.F.slot_list_append PySem.F.type_list_append mt_append ok_append (e_v 2) (l_cons (e_mod (c_int z_int (l_cons (e_v 5) l_nil)) e_int) l_nil)))
    (SMs.one (s_expr (e_bm PySem.F.plainAttrs_list PySem.F.slot_list_append PySem.F.type_list_append mt_append ok_append (e_v 2) (l_cons (e_mod (e_mod (c_int z_int (l_cons (e_add (e_mul (e_v 3) e_int) e_int) l_nil)) e_int) e_int) l_nil))))))
    (SMs.one (s_for (passes_of rfl) rfl (i_rng1 z_range (l_cons e_int l_nil)) (g_n (i := 7) sc.nd) (SMs.one (s_if (b_cmp op_gt ok_gt (e_v 6) e_int (nomark _)) (SMs.cons (s_expr (e_bm PySem.F.plainAttrs_list PySem.F.slot_list_append PySem.F.type_list_append mt_append ok_append (e_v 2) (l_cons (e_mod (c_int z_int (l_cons (e_v 6) l_nil)) e_int) l_nil)))
    (SMs.one (s_set (i := 6) sc.nd (e_fdiv (e_v 6) e_int)))) SMs.nil)))))))))
    (SMs.cons (s_for (passes_of rfl) rfl (i_rng1 z_range (l_cons (e_v 1) l_nil)) (g_n (i := 4) sc.nd) (SMs.cons (s_set (i := 3) sc.nd (e_mod (c_int z_int (l_cons (e_add (e_add (e_mul (e_v 3) e_int) (e_v 4)) e_int) l_nil)) e_int))
    (SMs.one (s_expr (e_bm PySem.F.plainAttrs_list PySem.F.slot_list_append PySem.F.type_list_append mt_append ok_append (e_v 2) (l_cons (e_mod (c_int z_int (l_cons (e_v 3) l_nil)) e_int) l_nil))))))
    (SMs.one (s_ret (e_slice (e_v 2) o_no (o_some (e_v 1)))))))))
theorem sc__law_paper : FnScope ["w", "greatest", "paper", "turn", "member", "some", "at", "one"] ["w", "greatest"] (defScope s__law_paper) := ⟨rfl, rfl, rfl, by decide +kernel, rfl, by decide +kernel, by decide +kernel⟩
theorem ok__law_paper {f__law_paper : Addr} {fd__law_paper : FuncData} {f__law_next : Addr} {fd__law_next : FuncData} (D__law_paper : DefAt K mg "_law_paper" s__law_paper ["w", "greatest"] f__law_paper fd__law_paper) (D__law_next : DefAt K mg "_law_next" s__law_next ["w", "many"] f__law_next fd__law_next) (G__law_next : FnOk P w K mg base (L2.CX P w) 1 f__law_next fd__law_next ["w", "many"] (spM K 2 m__law_next)) (z_range : mg "range" = none) (z_tuple : mg "tuple" = none) (z_len : mg "len" = none) : FnOk P w K mg base (L2.CX P w) 2 f__law_paper fd__law_paper ["w", "greatest"] (spM K 2 (m__law_paper)) := by
  have sc := sc__law_paper
  refine fn_def (m := b__law_paper) D__law_paper.F sc rfl rfl fun cdv A outer s H E hr => ?_
  unfold b__law_paper
  exact (SMs.cons (s_set (i := 2) sc.nd (e_lst l_nil))
    (SMs.cons (s_set (i := 3) sc.nd (e_fn G__law_next len__law_next (hr.mono (by decide)) (by rfl) D__law_next.g D__law_next.F.kp D__law_next.b (fun _ => Passes.at pass_def _) (l_cons (e_v 0) (l_cons e_int l_nil))))
    (SMs.cons (s_for (passes_of rfl) rfl (i_it (e_v 1)) (g_n (i := 4) sc.nd) (SMs.cons (s_setLc (i := 5) rfl sc.nd (sw_true rfl rfl rfl (by decide +kernel)) (i_rng1 z_range (l_cons e_int l_nil)) (blkOk_by (own := [("one", 7)]) (by rfl)) (gok_n (i := 7) rfl) (fun _ _ _ _ _ => pg_name (i := 7) sc.nd rfl (by first | exact Or.inl rfl | exact Or.inr rfl)) (fun _ _ _ _ _ => ct_one (b_of (w_or (b_of (w_and (b_cmp (or_inAll hr) ok_in (e_v 7) (e_v 4) (by rfl)) (w_and1 (b_of (w_or (b_cmp (or_eqA hr) ok_eq (e_v 3) e_int (nomark _)) (w_or1 (b_cmp op_gt ok_gt (e_fn G__law_next len__law_next (hr.mono (by decide)) (by rfl) D__law_next.g D__law_next.F.kp D__law_next.b (fun _ => Passes.at passL _) (l_cons (e_v 0) (l_cons e_int l_nil))) e_int (nomark _)))))))) (w_or1 (b_of (w_and (b_cmp (or_eqA hr) ok_eq (e_v 3) e_int (nomark _)) (w_and1 (b_cmp (or_eqA hr) ok_eq (e_fn G__law_next len__law_next (hr.mono (by decide)) (by rfl) D__law_next.g D__law_next.F.kp D__law_next.b (fun _ => Passes.at passL _) (l_cons (e_v 0) (l_cons e_int l_nil))) e_int (nomark _))))))))) (fun _ _ _ _ _ => (e_v 7)))
    (SMs.one (s_expr (e_bm PySem.F.plainAttrs_list PySem.F.slot_list_append PySem.F.type_list_append mt_append ok_append (e_v 2) (l_cons (c_tuple z_tuple (l_cons (e_v 5) l_nil)) l_nil))))))
    (SMs.cons (s_if (b_cmp (or_eqA hr) ok_eq (e_v 3) e_int (nomark _)) (SMs.cons (s_set (i := 6) sc.nd (e_fn G__law_next len__law_next (hr.mono (by decide)) (by rfl) D__law_next.g D__law_next.F.kp D__law_next.b (fun _ => Passes.at pass_def _) (l_cons (e_v 0) (l_cons (c_len z_len (l_cons (e_v 2) l_nil)) l_nil))))
    (SMs.one (s_sub (hu_of hr) (e_ix (hu_of hr) (e_lst (l_cons e_non (l_cons (e_tup (l_cons e_int (l_cons e_int l_nil))) (l_cons (e_tup (l_cons e_int (l_cons e_int l_nil))) (l_cons (e_tup (l_cons e_int l_nil)) (l_cons (e_tup (l_cons (e_neg e_int) l_nil)) (l_cons (e_tup (l_cons e_bl l_nil)) (l_cons e_str (l_cons (e_tup (l_cons e_str l_nil)) (l_cons (e_tup (l_cons (e_tup l_nil) l_nil)) (l_cons (e_tup l_nil) l_nil))))))))))) (e_fn G__law_next len__law_next (hr.mono (by decide)) (by rfl) D__law_next.g D__law_next.F.kp D__law_next.b (fun _ => Passes.at pass_def _) (l_cons (e_v 0) (l_cons e_int l_nil)))) (e_v 2) (e_v 6)))) SMs.nil)
    (SMs.cons (s_if (b_cmp (or_eqA hr) ok_eq (e_fn G__law_next len__law_next (hr.mono (by decide)) (by rfl) D__law_next.g D__law_next.F.kp D__law_next.b (fun _ => Passes.at pass_def _) (l_cons (e_v 0) (l_cons e_int l_nil))) e_int (nomark _)) (SMs.one (s_set (i := 2) sc.nd (e_slice (e_v 2) (o_some e_int) o_no))) SMs.nil)
    (SMs.one (s_ret (c_tuple z_tuple (l_cons (e_v 2) l_nil)))))))))
theorem sc_is_number : FnScope ["thing", "least", "most"] ["thing", "least", "most"] (defScope s_is_number) := ⟨rfl, rfl, rfl, by decide +kernel, rfl, by decide +kernel, by decide +kernel⟩
theorem ok_is_number {f_is_number : Addr} {fd_is_number : FuncData} (D_is_number : DefAt K mg "is_number" s_is_number ["thing", "least", "most"] f_is_number fd_is_number) (z_isinstance : mg "isinstance" = none) (z_int : mg "int" = none) (z_bool : mg "bool" = none) : FnOk P w K mg base (L2.CX P w) 1 f_is_number fd_is_number ["thing", "least", "most"] (spM K 3 (m_is_number)) := by
  have sc := sc_is_number
  refine fn_def (m := b_is_number) D_is_number.F sc rfl rfl fun cdv A outer s H E hr => ?_
  unfold b_is_number
  exact (SMs.one (s_ret (e_and (c_isi (cn := "int") z_isinstance z_int (e_v 0)) (e_and (e_not (c_isi (cn := "bool") z_isinstance z_bool (e_v 0))) (e_one (e_chain op_le op_le ok_le ok_le (e_v 1) (e_v 0) (e_v 2)))))))
theorem sc_is_paper : FnScope ["code", "thing", "member", "least", "a"] ["code", "thing"] (defScope s_is_paper) := ⟨rfl, rfl, rfl, by decide +kernel, rfl, by decide +kernel, by decide +kernel⟩
theorem ok_is_paper {f_is_paper : Addr} {fd_is_paper : FuncData} {f_is_number : Addr} {fd_is_number : FuncData} (D_is_paper : DefAt K mg "is_paper" s_is_paper ["code", "thing"] f_is_paper fd_is_paper) (D_is_number : DefAt K mg "is_number" s_is_number ["thing", "least", "most"] f_is_number fd_is_number) (G_is_number : FnOk P w K mg base (L2.CX P w) 1 f_is_number fd_is_number ["thing", "least", "most"] (spM K 3 m_is_number)) (g_REGISTERS : GV K mg "REGISTERS" d_REGISTERS) (z_isinstance : mg "isinstance" = none) (z_tuple : mg "tuple" = none) (z_len : mg "len" = none) : FnOk P w K mg base (L2.CX P w) 2 f_is_paper fd_is_paper ["code", "thing"] (spM K 2 (m_is_paper)) := by
  have sc := sc_is_paper
  refine fn_def (m := b_is_paper) D_is_paper.F sc rfl rfl fun cdv A outer s H E hr => ?_
  unfold b_is_paper
  exact (SMs.cons (s_if (b_of (w_or (b_not (b_tru (c_isi (cn := "tuple") z_isinstance z_tuple (e_v 1)))) (w_or1 (b_cmp (or_neA hr) ok_ne (c_len z_len (l_cons (e_v 1) l_nil)) (c_len z_len (l_cons (e_ix (hu_of hr) (e_v 0) e_int) l_nil)) (nomark _))))) (SMs.one (s_ret e_bl)) SMs.nil)
    (SMs.cons (s_for (passes_of rfl) rfl (i_it (e_v 1)) (g_n (i := 2) sc.nd) (SMs.cons (s_if (b_not (b_tru (c_isi (cn := "tuple") z_isinstance z_tuple (e_v 2)))) (SMs.one (s_ret e_bl)) SMs.nil)
    (SMs.cons (s_set (i := 3) sc.nd e_int)
    (SMs.one (s_for (passes_of rfl) rfl (i_it (e_v 2)) (g_n (i := 4) sc.nd) (SMs.cons (s_if (b_not (b_tru (e_fn G_is_number len_is_number (hr.mono (by decide)) (by rfl) D_is_number.g D_is_number.F.kp D_is_number.b (fun _ => Passes.at pass_def _) (l_cons (e_v 4) (l_cons (e_v 3) (l_cons (e_sub (e_g g_REGISTERS) e_int) l_nil)))))) (SMs.one (s_ret e_bl)) SMs.nil)
    (SMs.one (s_set (i := 3) sc.nd (e_add (e_v 4) e_int)))))))))
    (SMs.one (s_ret e_bl))))
theorem sc_ways : FnScope ["code", "r", "row", "found"] ["code", "r"] (defScope s_ways) := ⟨rfl, rfl, rfl, by decide +kernel, rfl, by decide +kernel, by decide +kernel⟩
theorem ok_ways {f_ways : Addr} {fd_ways : FuncData} (D_ways : DefAt K mg "ways" s_ways ["code", "r"] f_ways fd_ways) (z_tuple : mg "tuple" = none) (z_sorted : mg "sorted" = none) : FnOk P w K mg base (L2.CX P w) 1 f_ways fd_ways ["code", "r"] (spM K 2 (m_ways)) := by
  have sc := sc_ways
  refine fn_def (m := b_ways) D_ways.F sc rfl rfl fun cdv A outer s H E hr => ?_
  unfold b_ways
  exact (SMs.cons (s_set (i := 2) sc.nd (e_ix (hu_of hr) (e_ix (hu_of hr) (e_v 0) e_int) (e_v 1)))
    (SMs.cons (s_set (i := 3) sc.nd e_dicK)
    (SMs.cons (s_if (b_cmp (or_notinAll hr) ok_notin (e_ix (hu_of hr) (e_v 2) e_int) (e_tup (l_cons e_str (l_cons e_str l_nil))) (by rfl)) (SMs.one (s_sub (hu_of hr) e_bl (e_v 3) (e_add (e_v 1) e_int))) SMs.nil)
    (SMs.cons (s_if (b_cmp (or_inAll hr) ok_in (e_ix (hu_of hr) (e_v 2) e_int) (e_tup (l_cons e_str (l_cons e_str l_nil))) (by rfl)) (SMs.one (s_sub (hu_of hr) e_bl (e_v 3) (e_ix (hu_of hr) (e_v 2) (e_neg e_int)))) SMs.nil)
    (SMs.one (s_ret (c_tuple z_tuple (l_cons (c_sorted rfl z_sorted (l_cons (e_v 3) l_nil)) l_nil))))))))
theorem sc_writes : FnScope ["row", "part", "kind"] ["row"] (defScope s_writes) := ⟨rfl, rfl, rfl, by decide +kernel, rfl, by decide +kernel, by decide +kernel⟩
theorem ok_writes {f_writes : Addr} {fd_writes : FuncData} (D_writes : DefAt K mg "writes" s_writes ["row"] f_writes fd_writes) (g_CODE_FORMS : KD K w mg "CODE_FORMS" d_CODE_FORMS) (z_zip : mg "zip" = none) : FnOk P w K mg base (L2.CX P w) 1 f_writes fd_writes ["row"] (spM K 1 (m_writes)) := by
  have sc := sc_writes
  refine fn_def (m := b_writes) D_writes.F sc rfl rfl fun cdv A outer s H E hr => ?_
  unfold b_writes
  exact (SMs.cons (s_for (passes_of rfl) rfl (i_zip z_zip (l_cons (e_slice (e_v 0) (o_some e_int) o_no) (l_cons (e_ixK g_CODE_FORMS (e_ix (hu_of hr) (e_v 0) e_int)) l_nil))) (g_tup rfl (gs_cons (g_n (i := 1) sc.nd) (gs_cons (g_n (i := 2) sc.nd) gs_nil))) (SMs.one (s_if (b_cmp (or_eqA hr) ok_eq (e_v 2) e_str (nomark _)) (SMs.one (s_ret (e_v 1))) SMs.nil)))
    (SMs.one (s_ret (e_neg e_int))))
theorem sc_reads : FnScope ["row", "found", "part", "kind"] ["row"] (defScope s_reads) := ⟨rfl, rfl, rfl, by decide +kernel, rfl, by decide +kernel, by decide +kernel⟩
theorem ok_reads {f_reads : Addr} {fd_reads : FuncData} (D_reads : DefAt K mg "reads" s_reads ["row"] f_reads fd_reads) (g_CODE_FORMS : KD K w mg "CODE_FORMS" d_CODE_FORMS) (z_zip : mg "zip" = none) (z_tuple : mg "tuple" = none) (z_sorted : mg "sorted" = none) : FnOk P w K mg base (L2.CX P w) 1 f_reads fd_reads ["row"] (spM K 1 (m_reads)) := by
  have sc := sc_reads
  refine fn_def (m := b_reads) D_reads.F sc rfl rfl fun cdv A outer s H E hr => ?_
  unfold b_reads
  exact (SMs.cons (s_setDc (i := 1) rfl sc.nd (swD_true rfl rfl rfl (by decide +kernel)) (i_zip z_zip (l_cons (e_slice (e_v 0) (o_some e_int) o_no) (l_cons (e_ixK g_CODE_FORMS (e_ix (hu_of hr) (e_v 0) e_int)) l_nil))) (blkOk_by (own := [("part", 2), ("kind", 3)]) (by rfl)) (gok_t (is := [2, 3]) (by decide)) (fun _ _ _ _ _ => pg_tup rfl (pgs_cons (pg_name (i := 2) sc.nd rfl (by first | exact Or.inl rfl | exact Or.inr rfl)) (pgs_cons (pg_name (i := 3) sc.nd rfl (by first | exact Or.inl rfl | exact Or.inr rfl)) pgs_nil))) (fun _ _ _ _ _ => ct_one (b_cmp (or_eqA hr) ok_eq (e_v 3) e_str (nomark _))) (fun _ _ _ _ _ => (e_v 2)) (fun _ _ _ _ _ => e_bl))
    (SMs.one (s_ret (c_tuple z_tuple (l_cons (c_sorted rfl z_sorted (l_cons (e_v 1) l_nil)) l_nil)))))
theorem sc_region_of : FnScope ["regions", "base", "mask", "low", "high", "middle"] ["regions", "base", "mask"] (defScope s_region_of) := ⟨rfl, rfl, rfl, by decide +kernel, rfl, by decide +kernel, by decide +kernel⟩
theorem ok_region_of {f_region_of : Addr} {fd_region_of : FuncData} (D_region_of : DefAt K mg "region_of" s_region_of ["regions", "base", "mask"] f_region_of fd_region_of) (z_len : mg "len" = none) : FnOk P w K mg base (L2.CX P w) 1 f_region_of fd_region_of ["regions", "base", "mask"] (spM K 3 (m_region_of)) := by
  have sc := sc_region_of
  refine fn_def (m := b_region_of) D_region_of.F sc rfl rfl fun cdv A outer s H E hr => ?_
  unfold b_region_of
  exact (SMs.cons (s_set (i := 3) sc.nd e_int)
    (SMs.cons (s_set (i := 4) sc.nd (c_len z_len (l_cons (e_v 0) l_nil)))
    (SMs.cons (s_while (passes_of rfl) (b_cmp op_lt ok_lt (e_add (e_v 3) e_int) (e_v 4) (nomark _)) (SMs.cons (s_set (i := 5) sc.nd (e_fdiv (e_add (e_v 3) (e_v 4)) e_int))
    (SMs.one (s_if (b_cmp op_le ok_le (e_ix (hu_of hr) (e_ix (hu_of hr) (e_v 0) (e_v 5)) e_int) (e_v 1) (nomark _)) (SMs.one (s_set (i := 3) sc.nd (e_v 5))) (SMs.one (s_set (i := 4) sc.nd (e_v 5)))))))
    (SMs.cons (s_if (b_cmp (or_eqA hr) ok_eq (e_v 4) e_int (nomark _)) (SMs.one (s_ret (e_neg e_int))) SMs.nil)
    (SMs.one (s_ret (e_if (b_cmp op_lt ok_lt (e_add (e_v 1) (e_v 2)) (e_add (e_ix (hu_of hr) (e_ix (hu_of hr) (e_v 0) (e_v 3)) e_int) (e_ix (hu_of hr) (e_ix (hu_of hr) (e_v 0) (e_v 3)) e_int)) (nomark _)) (e_v 3) (e_neg e_int))))))))
theorem sc__makes_public : FnScope ["regions", "row", "public", "region", "a"] ["regions", "row", "public"] (defScope s__makes_public) := ⟨rfl, rfl, rfl, by decide +kernel, rfl, by decide +kernel, by decide +kernel⟩
theorem ok__makes_public {f__makes_public : Addr} {fd__makes_public : FuncData} {f_region_of : Addr} {fd_region_of : FuncData} {f_reads : Addr} {fd_reads : FuncData} (D__makes_public : DefAt K mg "_makes_public" s__makes_public ["regions", "row", "public"] f__makes_public fd__makes_public) (D_region_of : DefAt K mg "region_of" s_region_of ["regions", "base", "mask"] f_region_of fd_region_of) (D_reads : DefAt K mg "reads" s_reads ["row"] f_reads fd_reads) (G_region_of : FnOk P w K mg base (L2.CX P w) 1 f_region_of fd_region_of ["regions", "base", "mask"] (spM K 3 m_region_of)) (G_reads : FnOk P w K mg base (L2.CX P w) 1 f_reads fd_reads ["row"] (spM K 1 m_reads)) : FnOk P w K mg base (L2.CX P w) 2 f__makes_public fd__makes_public ["regions", "row", "public"] (spM K 3 (m__makes_public)) := by
  have sc := sc__makes_public
  refine fn_def (m := b__makes_public) D__makes_public.F sc rfl rfl fun cdv A outer s H E hr => ?_
  unfold b__makes_public
  exact (SMs.cons (s_if (b_cmp (or_eqA hr) ok_eq (e_ix (hu_of hr) (e_v 1) e_int) e_str (nomark _)) (SMs.cons (s_set (i := 3) sc.nd (e_fn G_region_of len_region_of (hr.mono (by decide)) (by rfl) D_region_of.g D_region_of.F.kp D_region_of.b (fun _ => Passes.at pass_def _) (l_cons (e_v 0) (l_cons (e_ix (hu_of hr) (e_v 1) e_int) (l_cons (e_ix (hu_of hr) (e_v 1) e_int) l_nil)))))
    (SMs.one (s_ret (e_and (e_cmp op_ge ok_ge (e_v 3) e_int (nomark _)) (e_one (e_cmp (or_eqA hr) ok_eq (e_ix (hu_of hr) (e_ix (hu_of hr) (e_v 0) (e_v 3)) e_int) e_str (nomark _))))))) SMs.nil)
    (SMs.cons (s_for (passes_of rfl) rfl (i_it (e_fn G_reads len_reads (hr.mono (by decide)) (by rfl) D_reads.g D_reads.F.kp D_reads.b (fun _ => Passes.at pass_def _) (l_cons (e_v 1) l_nil))) (g_n (i := 4) sc.nd) (SMs.one (s_if (b_cmp (or_notinAll hr) ok_notin (e_v 4) (e_v 2) (by rfl)) (SMs.one (s_ret e_bl)) SMs.nil)))
    (SMs.one (s_ret e_bl))))
theorem sc_public_behind : FnScope ["code", "r", "member", "row", "x", "public", "a"] ["code", "r", "member"] (defScope s_public_behind) := ⟨rfl, rfl, rfl, by decide +kernel, rfl, by decide +kernel, by decide +kernel⟩
theorem ok_public_behind {f_public_behind : Addr} {fd_public_behind : FuncData} {f_writes : Addr} {fd_writes : FuncData} {f__makes_public : Addr} {fd__makes_public : FuncData} (D_public_behind : DefAt K mg "public_behind" s_public_behind ["code", "r", "member"] f_public_behind fd_public_behind) (D_writes : DefAt K mg "writes" s_writes ["row"] f_writes fd_writes) (D__makes_public : DefAt K mg "_makes_public" s__makes_public ["regions", "row", "public"] f__makes_public fd__makes_public) (G_writes : FnOk P w K mg base (L2.CX P w) 1 f_writes fd_writes ["row"] (spM K 1 m_writes)) (G__makes_public : FnOk P w K mg base (L2.CX P w) 2 f__makes_public fd__makes_public ["regions", "row", "public"] (spM K 3 m__makes_public)) (z_tuple : mg "tuple" = none) (z_sorted : mg "sorted" = none) : FnOk P w K mg base (L2.CX P w) 3 f_public_behind fd_public_behind ["code", "r", "member"] (spM K 3 (m_public_behind)) := by
  have sc := sc_public_behind
  refine fn_def (m := b_public_behind) D_public_behind.F sc rfl rfl fun cdv A outer s H E hr => ?_
  unfold b_public_behind
  exact (SMs.cons (s_set (i := 3) sc.nd (e_ix (hu_of hr) (e_ix (hu_of hr) (e_v 0) e_int) (e_v 1)))
    (SMs.cons (s_set (i := 4) sc.nd (e_fn G_writes len_writes (hr.mono (by decide)) (by rfl) D_writes.g D_writes.F.kp D_writes.b (fun _ => Passes.at pass_def _) (l_cons (e_v 3) l_nil)))
    (SMs.cons (s_if (b_cmp op_lt ok_lt (e_v 4) e_int (nomark _)) (SMs.one (s_ret (c_tuple z_tuple (l_cons (e_v 2) l_nil)))) SMs.nil)
    (SMs.cons (s_set (i := 5) sc.nd (e_dc rfl sc.nd (i_it (e_v 2)) (blkOk_by (own := [("a", 6)]) (by rfl)) (gok_n (i := 6) rfl) (fun _ _ _ _ _ => pg_name (i := 6) sc.nd rfl (by first | exact Or.inl rfl | exact Or.inr rfl)) (fun _ _ _ _ _ => ct_nil) (fun _ _ _ _ _ => (e_v 6)) (fun _ _ _ _ _ => e_bl)))
    (SMs.cons (s_sub (hu_of hr) (e_fn G__makes_public len__makes_public (hr.mono (by decide)) (by rfl) D__makes_public.g D__makes_public.F.kp D__makes_public.b (fun _ => Passes.at pass_def _) (l_cons (e_ix (hu_of hr) (e_v 0) e_int) (l_cons (e_v 3) (l_cons (e_v 5) l_nil)))) (e_v 5) (e_v 4))
    (SMs.one (s_ret (c_tuple z_tuple (l_cons (e_lc rfl sc.nd (i_it (c_sorted rfl z_sorted (l_cons (e_v 5) l_nil))) (blkOk_by (own := [("a", 6)]) (by rfl)) (gok_n (i := 6) rfl) (fun _ _ _ _ _ => pg_name (i := 6) sc.nd rfl (by first | exact Or.inl rfl | exact Or.inr rfl)) (fun _ _ _ _ _ => ct_one (b_tru (e_ix (hu_of hr) (e_v 5) (e_v 6)))) (fun _ _ _ _ _ => (e_v 6))) l_nil)))))))))
theorem sc_holds : FnScope ["code", "paper", "r", "member", "public", "way", "a"] ["code", "paper"] (defScope s_holds) := ⟨rfl, rfl, rfl, by decide +kernel, rfl, by decide +kernel, by decide +kernel⟩
theorem ok_holds {f_holds : Addr} {fd_holds : FuncData} {f_is_paper : Addr} {fd_is_paper : FuncData} {f_public_behind : Addr} {fd_public_behind : FuncData} {f_ways : Addr} {fd_ways : FuncData} (D_holds : DefAt K mg "holds" s_holds ["code", "paper"] f_holds fd_holds) (D_is_paper : DefAt K mg "is_paper" s_is_paper ["code", "thing"] f_is_paper fd_is_paper) (D_public_behind : DefAt K mg "public_behind" s_public_behind ["code", "r", "member"] f_public_behind fd_public_behind) (D_ways : DefAt K mg "ways" s_ways ["code", "r"] f_ways fd_ways) (G_is_paper : FnOk P w K mg base (L2.CX P w) 2 f_is_paper fd_is_paper ["code", "thing"] (spM K 2 m_is_paper)) (G_public_behind : FnOk P w K mg base (L2.CX P w) 3 f_public_behind fd_public_behind ["code", "r", "member"] (spM K 3 m_public_behind)) (G_ways : FnOk P w K mg base (L2.CX P w) 1 f_ways fd_ways ["code", "r"] (spM K 2 m_ways)) (z_enumerate : mg "enumerate" = none) : FnOk P w K mg base (L2.CX P w) 4 f_holds fd_holds ["code", "paper"] (spM K 2 (m_holds)) := by
  have sc := sc_holds
  refine fn_def (m := b_holds) D_holds.F sc rfl rfl fun cdv A outer s H E hr => ?_
  unfold b_holds
  exact (SMs.cons (s_if (b_not (b_tru (e_fn G_is_paper len_is_paper (hr.mono (by decide)) (by rfl) D_is_paper.g D_is_paper.F.kp D_is_paper.b (fun _ => Passes.at pass_def _) (l_cons (e_v 0) (l_cons (e_v 1) l_nil))))) (SMs.one (s_ret e_bl)) SMs.nil)
    (SMs.cons (s_for (passes_of rfl) rfl (i_enum z_enumerate (l_cons (e_v 1) l_nil)) (g_tup rfl (gs_cons (g_n (i := 2) sc.nd) (gs_cons (g_n (i := 3) sc.nd) gs_nil))) (SMs.cons (s_setDc (i := 4) rfl sc.nd (swD_true rfl rfl rfl (by decide +kernel)) (i_it (e_fn G_public_behind len_public_behind (hr.mono (by decide)) (by rfl) D_public_behind.g D_public_behind.F.kp D_public_behind.b (fun _ => Passes.at pass_def _) (l_cons (e_v 0) (l_cons (e_v 2) (l_cons (e_v 3) l_nil))))) (blkOk_by (own := [("a", 6)]) (by rfl)) (gok_n (i := 6) rfl) (fun _ _ _ _ _ => pg_name (i := 6) sc.nd rfl (by first | exact Or.inl rfl | exact Or.inr rfl)) (fun _ _ _ _ _ => ct_nil) (fun _ _ _ _ _ => (e_v 6)) (fun _ _ _ _ _ => e_bl))
    (SMs.one (s_for (passes_of rfl) rfl (i_it (e_fn G_ways len_ways (hr.mono (by decide)) (by rfl) D_ways.g D_ways.F.kp D_ways.b (fun _ => Passes.at pass_def _) (l_cons (e_v 0) (l_cons (e_v 2) l_nil)))) (g_n (i := 5) sc.nd) (SMs.one (s_for (passes_of rfl) rfl (i_it (e_ix (hu_of hr) (e_v 1) (e_v 5))) (g_n (i := 6) sc.nd) (SMs.one (s_if (b_cmp (or_notinAll hr) ok_notin (e_v 6) (e_v 4) (by rfl)) (SMs.one (s_ret e_bl)) SMs.nil))))))))
    (SMs.one (s_ret e_bl))))
theorem sc_greatest_paper : FnScope ["code", "members", "waiting", "r", "behind", "way", "left", "a"] ["code"] (defScope s_greatest_paper) := ⟨rfl, rfl, rfl, by decide +kernel, rfl, by decide +kernel, by decide +kernel⟩
theorem ok_greatest_paper {f_greatest_paper : Addr} {fd_greatest_paper : FuncData} {f_public_behind : Addr} {fd_public_behind : FuncData} {f_ways : Addr} {fd_ways : FuncData} (D_greatest_paper : DefAt K mg "greatest_paper" s_greatest_paper ["code"] f_greatest_paper fd_greatest_paper) (D_public_behind : DefAt K mg "public_behind" s_public_behind ["code", "r", "member"] f_public_behind fd_public_behind) (D_ways : DefAt K mg "ways" s_ways ["code", "r"] f_ways fd_ways) (G_public_behind : FnOk P w K mg base (L2.CX P w) 3 f_public_behind fd_public_behind ["code", "r", "member"] (spM K 3 m_public_behind)) (G_ways : FnOk P w K mg base (L2.CX P w) 1 f_ways fd_ways ["code", "r"] (spM K 2 m_ways)) (g_REGISTERS : GV K mg "REGISTERS" d_REGISTERS) (z_tuple : mg "tuple" = none) (z_range : mg "range" = none) (z_len : mg "len" = none) (z_list : mg "list" = none) (z_reversed : mg "reversed" = none) : FnOk P w K mg base (L2.CX P w) 4 f_greatest_paper fd_greatest_paper ["code"] (spM K 1 (m_greatest_paper)) := by
  have sc := sc_greatest_paper
  refine fn_def (m := b_greatest_paper) D_greatest_paper.F sc rfl rfl fun cdv A outer s H E hr => ?_
  unfold b_greatest_paper
  exact (SMs.cons (s_set (i := 1) sc.nd (e_mul (e_lst (l_cons (c_tupleRg1 rfl z_tuple z_range (e_g g_REGISTERS)) l_nil)) (c_len z_len (l_cons (e_ix (hu_of hr) (e_v 0) e_int) l_nil))))
    (SMs.cons (s_set (i := 2) sc.nd (c_listRevRg1 rfl z_list z_reversed z_range (c_len z_len (l_cons (e_ix (hu_of hr) (e_v 0) e_int) l_nil))))
    (SMs.cons (s_while (passes_of rfl) (b_tru (e_v 2)) (SMs.cons (s_set (i := 3) sc.nd (e_bm0 PySem.F.plainAttrs_list PySem.F.slot_list_pop PySem.F.type_list_pop mt_pop ok_pop (e_v 2)))
    (SMs.cons (s_set (i := 4) sc.nd (e_fn G_public_behind len_public_behind (hr.mono (by decide)) (by rfl) D_public_behind.g D_public_behind.F.kp D_public_behind.b (fun _ => Passes.at pass_def _) (l_cons (e_v 0) (l_cons (e_v 3) (l_cons (e_ix (hu_of hr) (e_v 1) (e_v 3)) l_nil)))))
    (SMs.one (s_for (passes_of rfl) rfl (i_it (e_fn G_ways len_ways (hr.mono (by decide)) (by rfl) D_ways.g D_ways.F.kp D_ways.b (fun _ => Passes.at pass_def _) (l_cons (e_v 0) (l_cons (e_v 3) l_nil)))) (g_n (i := 5) sc.nd) (SMs.cons (s_set (i := 6) sc.nd (c_tuple z_tuple (l_cons (e_lc rfl sc.nd (i_it (e_ix (hu_of hr) (e_v 1) (e_v 5))) (blkOk_by (own := [("a", 7)]) (by rfl)) (gok_n (i := 7) rfl) (fun _ _ _ _ _ => pg_name (i := 7) sc.nd rfl (by first | exact Or.inl rfl | exact Or.inr rfl)) (fun _ _ _ _ _ => ct_one (b_cmp (or_inAll hr) ok_in (e_v 7) (e_v 4) (by rfl))) (fun _ _ _ _ _ => (e_v 7))) l_nil)))
    (SMs.one (s_if (b_cmp (or_neA hr) ok_ne (e_v 6) (e_ix (hu_of hr) (e_v 1) (e_v 5)) (nomark _)) (SMs.cons (s_sub (hu_of hr) (e_v 6) (e_v 1) (e_v 5))
    (SMs.one (s_expr (e_bm PySem.F.plainAttrs_list PySem.F.slot_list_append PySem.F.type_list_append mt_append ok_append (e_v 2) (l_cons (e_v 5) l_nil))))) SMs.nil))))))))
    (SMs.one (s_ret (c_tuple z_tuple (l_cons (e_v 1) l_nil)))))))
theorem sc__law_is_member : FnScope ["thing", "one"] ["thing"] (defScope s__law_is_member) := ⟨rfl, rfl, rfl, by decide +kernel, rfl, by decide +kernel, by decide +kernel⟩
theorem ok__law_is_member {f__law_is_member : Addr} {fd__law_is_member : FuncData} (D__law_is_member : DefAt K mg "_law_is_member" s__law_is_member ["thing"] f__law_is_member fd__law_is_member) (z_isinstance : mg "isinstance" = none) (z_tuple : mg "tuple" = none) (z_int : mg "int" = none) (z_bool : mg "bool" = none) (z_list : mg "list" = none) (z_sorted : mg "sorted" = none) (z_len : mg "len" = none) (z_range : mg "range" = none) : FnOk P w K mg base (L2.CX P w) 1 f__law_is_member fd__law_is_member ["thing"] (spM K 1 (m__law_is_member)) := by
  have sc := sc__law_is_member
  refine fn_def (m := b__law_is_member) D__law_is_member.F sc rfl rfl fun cdv A outer s H E hr => ?_
  unfold b__law_is_member
  exact (SMs.cons (s_if (b_not (b_tru (c_isi (cn := "tuple") z_isinstance z_tuple (e_v 0)))) (SMs.one (s_ret e_bl)) SMs.nil)
    (SMs.cons (s_for (passes_of rfl) rfl (i_it (e_v 0)) (g_n (i := 1) sc.nd) (SMs.one (s_if (b_of (w_or (b_not (b_tru (c_isi (cn := "int") z_isinstance z_int (e_v 1)))) (w_or (b_tru (c_isi (cn := "bool") z_isinstance z_bool (e_v 1))) (w_or (b_cmp op_lt ok_lt (e_v 1) e_int (nomark _)) (w_or1 (b_cmp op_gt ok_gt (e_v 1) e_int (nomark _))))))) (SMs.one (s_ret e_bl)) SMs.nil)))
    (SMs.one (s_ret (e_and (e_cmp (or_eqA hr) ok_eq (c_list rfl z_list (l_cons (e_v 0) l_nil)) (c_sortA rfl z_sorted (l_cons (e_v 0) l_nil)) (nomark _)) (e_one (e_cmp (or_eqA hr) ok_eq (c_len z_len (l_cons (e_lc rfl sc.nd (i_rng1 z_range (l_cons e_int l_nil)) (blkOk_by (own := [("one", 1)]) (by rfl)) (gok_n (i := 1) rfl) (fun _ _ _ _ _ => pg_name (i := 1) sc.nd rfl (by first | exact Or.inl rfl | exact Or.inr rfl)) (fun _ _ _ _ _ => ct_one (b_cmp (or_inAll hr) ok_in (e_v 1) (e_v 0) (by rfl))) (fun _ _ _ _ _ => (e_v 1))) l_nil)) (c_len z_len (l_cons (e_v 0) l_nil)) (nomark _))))))))
theorem sc__law_holds : FnScope ["code", "paper", "r", "behind", "way", "member", "one"] ["code", "paper"] (defScope s__law_holds) := ⟨rfl, rfl, rfl, by decide +kernel, rfl, by decide +kernel, by decide +kernel⟩
theorem ok__law_holds {f__law_holds : Addr} {fd__law_holds : FuncData} {f__law_is_member : Addr} {fd__law_is_member : FuncData} {f__law_behind : Addr} {fd__law_behind : FuncData} {f__law_ways : Addr} {fd__law_ways : FuncData} (D__law_holds : DefAt K mg "_law_holds" s__law_holds ["code", "paper"] f__law_holds fd__law_holds) (D__law_is_member : DefAt K mg "_law_is_member" s__law_is_member ["thing"] f__law_is_member fd__law_is_member) (D__law_behind : DefAt K mg "_law_behind" s__law_behind ["code", "r", "member"] f__law_behind fd__law_behind) (D__law_ways : DefAt K mg "_law_ways" s__law_ways ["code", "r"] f__law_ways fd__law_ways) (G__law_is_member : FnOk P w K mg base (L2.CX P w) 1 f__law_is_member fd__law_is_member ["thing"] (spM K 1 m__law_is_member)) (G__law_behind : FnOk P w K mg base (L2.CX P w) 2 f__law_behind fd__law_behind ["code", "r", "member"] (spM K 3 m__law_behind)) (G__law_ways : FnOk P w K mg base (L2.CX P w) 1 f__law_ways fd__law_ways ["code", "r"] (spM K 2 m__law_ways)) (z_isinstance : mg "isinstance" = none) (z_tuple : mg "tuple" = none) (z_len : mg "len" = none) (z_range : mg "range" = none) : FnOk P w K mg base (L2.CX P w) 3 f__law_holds fd__law_holds ["code", "paper"] (spM K 2 (m__law_holds)) := by
  have sc := sc__law_holds
  refine fn_def (m := b__law_holds) D__law_holds.F sc rfl rfl fun cdv A outer s H E hr => ?_
  unfold b__law_holds
  exact (SMs.cons (s_if (b_of (w_or (b_not (b_tru (c_isi (cn := "tuple") z_isinstance z_tuple (e_v 1)))) (w_or1 (b_cmp (or_neA hr) ok_ne (c_len z_len (l_cons (e_v 1) l_nil)) (c_len z_len (l_cons (e_ix (hu_of hr) (e_v 0) e_int) l_nil)) (nomark _))))) (SMs.one (s_ret e_bl)) SMs.nil)
    (SMs.cons (s_if (b_cmp (or_neA hr) ok_ne (e_lc rfl sc.nd (i_it (e_v 1)) (blkOk_by (own := [("member", 5)]) (by rfl)) (gok_n (i := 5) rfl) (fun _ _ _ _ _ => pg_name (i := 5) sc.nd rfl (by first | exact Or.inl rfl | exact Or.inr rfl)) (fun _ _ _ _ _ => ct_one (b_not (b_tru (e_fn G__law_is_member len__law_is_member (hr.mono (by decide)) (by rfl) D__law_is_member.g D__law_is_member.F.kp D__law_is_member.b (fun _ => Passes.at passL _) (l_cons (e_v 5) l_nil))))) (fun _ _ _ _ _ => (e_v 5))) (e_lst l_nil) (nomark _)) (SMs.one (s_ret e_bl)) SMs.nil)
    (SMs.cons (s_for (passes_of rfl) rfl (i_rng1 z_range (l_cons (c_len z_len (l_cons (e_v 1) l_nil)) l_nil)) (g_n (i := 2) sc.nd) (SMs.cons (s_set (i := 3) sc.nd (e_fn G__law_behind len__law_behind (hr.mono (by decide)) (by rfl) D__law_behind.g D__law_behind.F.kp D__law_behind.b (fun _ => Passes.at pass_def _) (l_cons (e_v 0) (l_cons (e_v 2) (l_cons (e_ix (hu_of hr) (e_v 1) (e_v 2)) l_nil)))))
    (SMs.one (s_for (passes_of rfl) rfl (i_it (e_fn G__law_ways len__law_ways (hr.mono (by decide)) (by rfl) D__law_ways.g D__law_ways.F.kp D__law_ways.b (fun _ => Passes.at pass_def _) (l_cons (e_v 0) (l_cons (e_v 2) l_nil)))) (g_n (i := 4) sc.nd) (SMs.one (s_if (b_cmp (or_neA hr) ok_ne (e_lc rfl sc.nd (i_it (e_ix (hu_of hr) (e_v 1) (e_v 4))) (blkOk_by (own := [("one", 6)]) (by rfl)) (gok_n (i := 6) rfl) (fun _ _ _ _ _ => pg_name (i := 6) sc.nd rfl (by first | exact Or.inl rfl | exact Or.inr rfl)) (fun _ _ _ _ _ => ct_one (b_cmp (or_notinAll hr) ok_notin (e_v 6) (e_v 3) (by rfl))) (fun _ _ _ _ _ => (e_v 6))) (e_lst l_nil) (nomark _)) (SMs.one (s_ret e_bl)) SMs.nil))))))
    (SMs.one (s_ret e_bl)))))
theorem sc_law : FnScope ["script", "w", "code", "greatest", "r", "member", "turn", "paper", "told", "other", "one"] ["script"] (defScope s_law) := ⟨rfl, rfl, rfl, by decide +kernel, rfl, by decide +kernel, by decide +kernel⟩
theorem ok_law {f_law : Addr} {fd_law : FuncData} {f__law_draws : Addr} {fd__law_draws : FuncData} {f__law_code : Addr} {fd__law_code : FuncData} {f__law_greatest : Addr} {fd__law_greatest : FuncData} {f_greatest_paper : Addr} {fd_greatest_paper : FuncData} {f_holds : Addr} {fd_holds : FuncData} {f__law_next : Addr} {fd__law_next : FuncData} {f_public_behind : Addr} {fd_public_behind : FuncData} {f__law_behind : Addr} {fd__law_behind : FuncData} {f_ways : Addr} {fd_ways : FuncData} {f__law_ways : Addr} {fd__law_ways : FuncData} {f__law_paper : Addr} {fd__law_paper : FuncData} {f__law_holds : Addr} {fd__law_holds : FuncData} (D_law : DefAt K mg "law" s_law ["script"] f_law fd_law) (D__law_draws : DefAt K mg "_law_draws" s__law_draws ["script", "many"] f__law_draws fd__law_draws) (D__law_code : DefAt K mg "_law_code" s__law_code ["w"] f__law_code fd__law_code) (D__law_greatest : DefAt K mg "_law_greatest" s__law_greatest ["code"] f__law_greatest fd__law_greatest) (D_greatest_paper : DefAt K mg "greatest_paper" s_greatest_paper ["code"] f_greatest_paper fd_greatest_paper) (D_holds : DefAt K mg "holds" s_holds ["code", "paper"] f_holds fd_holds) (D__law_next : DefAt K mg "_law_next" s__law_next ["w", "many"] f__law_next fd__law_next) (D_public_behind : DefAt K mg "public_behind" s_public_behind ["code", "r", "member"] f_public_behind fd_public_behind) (D__law_behind : DefAt K mg "_law_behind" s__law_behind ["code", "r", "member"] f__law_behind fd__law_behind) (D_ways : DefAt K mg "ways" s_ways ["code", "r"] f_ways fd_ways) (D__law_ways : DefAt K mg "_law_ways" s__law_ways ["code", "r"] f__law_ways fd__law_ways) (D__law_paper : DefAt K mg "_law_paper" s__law_paper ["w", "greatest"] f__law_paper fd__law_paper) (D__law_holds : DefAt K mg "_law_holds" s__law_holds ["code", "paper"] f__law_holds fd__law_holds) (G__law_draws : FnOk P w K mg base (L2.CX P w) 1 f__law_draws fd__law_draws ["script", "many"] (spM K 2 m__law_draws)) (G__law_code : FnOk P w K mg base (L2.CX P w) 4 f__law_code fd__law_code ["w"] (spM K 1 m__law_code)) (G__law_greatest : Ly.FnR P w K mg base (L2.CX P w) (Rgd 3) f__law_greatest fd__law_greatest ["code"] (spM K 1 m__law_greatest)) (G_greatest_paper : FnOk P w K mg base (L2.CX P w) 4 f_greatest_paper fd_greatest_paper ["code"] (spM K 1 m_greatest_paper)) (G_holds : FnOk P w K mg base (L2.CX P w) 4 f_holds fd_holds ["code", "paper"] (spM K 2 m_holds)) (G__law_next : FnOk P w K mg base (L2.CX P w) 1 f__law_next fd__law_next ["w", "many"] (spM K 2 m__law_next)) (G_public_behind : FnOk P w K mg base (L2.CX P w) 3 f_public_behind fd_public_behind ["code", "r", "member"] (spM K 3 m_public_behind)) (G__law_behind : FnOk P w K mg base (L2.CX P w) 2 f__law_behind fd__law_behind ["code", "r", "member"] (spM K 3 m__law_behind)) (G_ways : FnOk P w K mg base (L2.CX P w) 1 f_ways fd_ways ["code", "r"] (spM K 2 m_ways)) (G__law_ways : FnOk P w K mg base (L2.CX P w) 1 f__law_ways fd__law_ways ["code", "r"] (spM K 2 m__law_ways)) (G__law_paper : FnOk P w K mg base (L2.CX P w) 2 f__law_paper fd__law_paper ["w", "greatest"] (spM K 2 m__law_paper)) (G__law_holds : FnOk P w K mg base (L2.CX P w) 3 f__law_holds fd__law_holds ["code", "paper"] (spM K 2 m__law_holds)) (z_range : mg "range" = none) (z_len : mg "len" = none) (z_tuple : mg "tuple" = none) (z_isinstance : mg "isinstance" = none) (z_bool : mg "bool" = none) : Ly.FnR P w K mg base (L2.CX P w) (Rgd 5) f_law fd_law ["script"] (spM K 1 (m_law)) := by
  have sc := sc_law
  refine fn_defR (m := b_law) D_law.F sc rfl rfl (fun A r => ⟨r.room.hd, by have := r.room.dp; omega⟩) fun cdv A outer s H E hr0 => ?_
  have hrk := hr0.deeper (PyProof.Rows.envOfC "law" (defScope s_law) s.heap.objs.size f_law cdv)
  have hr := hrk.room
  unfold b_law
  exact (SMs.cons (s_set (i := 1) sc.nd (e_disp (dp_cons e_str (e_fn G__law_draws len__law_draws (hr.mono (by decide)) (by rfl) D__law_draws.g D__law_draws.F.kp D__law_draws.b (fun _ => Passes.at pass_def _) (l_cons (e_v 0) (l_cons e_int l_nil))) (dp_cons e_str e_int dp_nil))))
    (SMs.cons (s_set (i := 2) sc.nd (e_fn G__law_code len__law_code (hr.mono (by decide)) (by rfl) D__law_code.g D__law_code.F.kp D__law_code.b (fun _ => Passes.at pass_def _) (l_cons (e_v 1) l_nil)))
    (SMs.cons (s_set (i := 3) sc.nd (e_fnR G__law_greatest len__law_greatest (hrk.mono (by decide)) (by rfl) D__law_greatest.g D__law_greatest.F.kp D__law_greatest.b (fun _ => Passes.at pass_def _) (l_cons (e_v 2) l_nil)))
    (SMs.cons (s_if (b_of (w_or (b_cmp (or_neA hr) ok_ne (e_fn G_greatest_paper len_greatest_paper (hr.mono (by decide)) (by rfl) D_greatest_paper.g D_greatest_paper.F.kp D_greatest_paper.b (fun _ => Passes.at pass_def _) (l_cons (e_v 2) l_nil)) (e_v 3) (nomark _)) (w_or1 (b_cmp or_isnotA ok_isnot (e_fn G_holds len_holds (hr.mono (by decide)) (by rfl) D_holds.g D_holds.F.kp D_holds.b (fun _ => Passes.at pass_def _) (l_cons (e_v 2) (l_cons (e_v 3) l_nil))) e_bl (nomark _))))) (SMs.one (s_ret e_bl)) SMs.nil)
    (SMs.cons (s_for (passes_of rfl) rfl (i_rng1 z_range (l_cons (c_len z_len (l_cons (e_ix (hu_of hr) (e_v 2) e_int) l_nil)) l_nil)) (g_n (i := 4) sc.nd) (SMs.cons (s_set (i := 5) sc.nd (c_tuple z_tuple (l_cons (e_lc rfl sc.nd (i_rng1 z_range (l_cons e_int l_nil)) (blkOk_by (own := [("one", 10)]) (by rfl)) (gok_n (i := 10) rfl) (fun _ _ _ _ _ => pg_name (i := 10) sc.nd rfl (by first | exact Or.inl rfl | exact Or.inr rfl)) (fun _ _ _ _ _ => ct_one (b_cmp (or_eqA hr) ok_eq (e_fn G__law_next len__law_next (hr.mono (by decide)) (by rfl) D__law_next.g D__law_next.F.kp D__law_next.b (fun _ => Passes.at passL _) (l_cons (e_v 1) (l_cons e_int l_nil))) e_int (nomark _))) (fun _ _ _ _ _ => (e_v 10))) l_nil)))
    (SMs.one (s_if (b_of (w_or (b_cmp (or_neA hr) ok_ne (e_fn G_public_behind len_public_behind (hr.mono (by decide)) (by rfl) D_public_behind.g D_public_behind.F.kp D_public_behind.b (fun _ => Passes.at pass_def _) (l_cons (e_v 2) (l_cons (e_v 4) (l_cons (e_v 5) l_nil)))) (c_tuple z_tuple (l_cons (e_fn G__law_behind len__law_behind (hr.mono (by decide)) (by rfl) D__law_behind.g D__law_behind.F.kp D__law_behind.b (fun _ => Passes.at pass_def _) (l_cons (e_v 2) (l_cons (e_v 4) (l_cons (e_v 5) l_nil)))) l_nil)) (nomark _)) (w_or1 (b_cmp (or_neA hr) ok_ne (e_fn G_ways len_ways (hr.mono (by decide)) (by rfl) D_ways.g D_ways.F.kp D_ways.b (fun _ => Passes.at pass_def _) (l_cons (e_v 2) (l_cons (e_v 4) l_nil))) (c_tuple z_tuple (l_cons (e_fn G__law_ways len__law_ways (hr.mono (by decide)) (by rfl) D__law_ways.g D__law_ways.F.kp D__law_ways.b (fun _ => Passes.at pass_def _) (l_cons (e_v 2) (l_cons (e_v 4) l_nil))) l_nil)) (nomark _))))) (SMs.one (s_ret e_bl)) SMs.nil))))
    (SMs.cons (s_for (passes_of rfl) rfl (i_rng1 z_range (l_cons e_int l_nil)) (g_n (i := 6) sc.nd) (SMs.cons (s_set (i := 7) sc.nd (e_fn G__law_paper len__law_paper (hr.mono (by decide)) (by rfl) D__law_paper.g D__law_paper.F.kp D__law_paper.b (fun _ => Passes.at pass_def _) (l_cons (e_v 1) (l_cons (e_v 3) l_nil))))
    (SMs.cons (s_set (i := 8) sc.nd (e_fn G_holds len_holds (hr.mono (by decide)) (by rfl) D_holds.g D_holds.F.kp D_holds.b (fun _ => Passes.at pass_def _) (l_cons (e_v 2) (l_cons (e_v 7) l_nil))))
    (SMs.cons (s_if (b_of (w_or (b_not (b_tru (c_isi (cn := "bool") z_isinstance z_bool (e_v 8)))) (w_or1 (b_cmp (or_neA hr) ok_ne (e_v 8) (e_fn G__law_holds len__law_holds (hr.mono (by decide)) (by rfl) D__law_holds.g D__law_holds.F.kp D__law_holds.b (fun _ => Passes.at pass_def _) (l_cons (e_v 2) (l_cons (e_v 7) l_nil))) (nomark _))))) (SMs.one (s_ret e_bl)) SMs.nil)
    (SMs.one (s_if (b_of (w_and (b_tru (e_v 8)) (w_and1 (b_cmp (or_neA hr) ok_ne (e_lc rfl sc.nd (i_rng1 z_range (l_cons (c_len z_len (l_cons (e_v 7) l_nil)) l_nil)) (blkOk_by (own := [("r", 4)]) (by rfl)) (gok_n (i := 4) rfl) (fun _ _ _ _ _ => pg_name (i := 4) sc.nd rfl (by first | exact Or.inl rfl | exact Or.inr rfl)) (fun _ _ _ _ _ => ct_one (b_cmp (or_neA hr) ok_ne (e_lc rfl sc.nd (i_it (e_ix (hu_of hr) (e_v 7) (e_v 4))) (blkOk_by (own := [("one", 10)]) (by rfl)) (gok_n (i := 10) rfl) (fun _ _ _ _ _ => pg_name (i := 10) sc.nd rfl (by first | exact Or.inl rfl | exact Or.inr rfl)) (fun _ _ _ _ _ => ct_one (b_cmp (or_notinAll hr) ok_notin (e_v 10) (e_ix (hu_of hr) (e_v 3) (e_v 4)) (by rfl))) (fun _ _ _ _ _ => (e_v 10))) (e_lst l_nil) (nomark _))) (fun _ _ _ _ _ => (e_v 4))) (e_lst l_nil) (nomark _))))) (SMs.one (s_ret e_bl)) SMs.nil))))))
    (SMs.cons (s_for (passes_of rfl) rfl (i_it (e_lst (l_cons e_non (l_cons (e_tup l_nil) (l_cons e_str (l_cons e_int (l_cons e_bl (l_cons (e_add (e_v 3) (e_tup (l_cons (e_tup l_nil) l_nil))) l_nil)))))))) (g_n (i := 9) sc.nd) (SMs.one (s_if (b_cmp or_isnotA ok_isnot (e_fn G_holds len_holds (hr.mono (by decide)) (by rfl) D_holds.g D_holds.F.kp D_holds.b (fun _ => Passes.at pass_def _) (l_cons (e_v 2) (l_cons (e_v 9) l_nil))) e_bl (nomark _)) (SMs.one (s_ret e_bl)) SMs.nil)))
    (SMs.one (s_ret e_bl)))))))))
end
end GK64
set_option Elab.async false
set_option linter.all false
set_option maxRecDepth 100000
namespace GK64
open PySem L2 Ly
open PySem.Spec hiding Row
open PyProof.Rows hiding St
local macro_rules | `(tactic| simp_arith [$ls,*]) => `(tactic| simp only [Ly.line_le, Ly.atX_no, Ly.v_ok, Ly.v_bad, Ly.v_bind, Ly.k_bd, Ly.v_at, Ly.v_bin, Ly.k_bi, Ly.k_bi2, Ly.v_var, Ly.v_c, Ly.v_un, Ly.k_un, Ly.v_if, Ly.k_ife, Ly.v_and, Ly.k_and, Ly.k_and2, Ly.v_or, Ly.k_or, Ly.k_or2, Ly.v_tup, Ly.k_tup, Ly.v_lst, Ly.k_lst, Ly.v_call, Ly.k_ca, Ly.v_fn, Ly.k_fn, Ly.v_bm, Ly.k_bm, Ly.k_bm2, Ly.v_sl, Ly.k_sl, Ly.k_sl2, Ly.k_sl3, Ly.v_ixK, Ly.k_ixk, Ly.v_inK, Ly.k_ink, Ly.v_notinK, Ly.k_nink, Ly.v_getK2, Ly.k_gk2, Ly.k_gk, Ly.v_get2, Ly.k_g2, Ly.k_g22, Ly.k_g23, Ly.v_nil, Ly.v_cons, Ly.k_co, Ly.k_co2, Ly.v_no, Ly.v_some, Ly.k_so, Ly.k_cm, Ly.v_cmp, Ly.v_tru, Ly.k_tr, Ly.v_notB, Ly.k_no, Ly.v_andB, Ly.k_an, Ly.v_orB, Ly.k_orb, Ly.v_yes, Ly.v_inKB, Ly.k_inkB, Ly.v_notinKB, Ly.k_ninkB, Ly.v_set, Ly.k_st, Ly.v_expr, Ly.k_ex, Ly.v_ret, Ly.k_re, Ly.v_retN, Ly.v_pass, Ly.v_brk, Ly.v_cnt, Ly.v_seq, Ly.k_sq_nx, Ly.k_sq_rt, Ly.k_sq_bk, Ly.k_sq_ct, Ly.v_ifS, Ly.k_ifs, Ly.v_asg, Ly.k_as, Ly.k_as2, Ly.v_aug, Ly.k_au, Ly.v_for, Ly.k_fo, Ly.v_it, Ly.k_it, Ly.k_ij, Ly.v_rng1, Ly.v_rng2, Ly.v_enum, Ly.v_zip, Ly.v_ez, Ly.v_gN, Ly.v_gsN, Ly.v_gsC, Ly.k_gc, Ly.v_gT, Ly.v_gTw, Ly.v_gSb, Ly.k_gsb, Ly.k_gsb2, Ly.k_gsb3, Ly.k_en_rt, Ly.k_en_nx, Ly.k_tu_nx, Ly.k_tu_ct, Ly.k_tu_bk, Ly.k_tu_rt, Ly.v_lc, Ly.k_lc, Ly.v_augI, Ly.k_ag, Ly.k_ag2, Ly.k_ag3, Ly.k_ag4, Ly.k_ag5, Ly.v_del, Ly.k_dl, Ly.k_dl2, Ly.v_setd, Ly.v_pop2, Ly.k_d3, Ly.k_d32, Ly.k_d33, Ly.v_get1, Ly.k_g1, Ly.k_g12, Ly.v_rg1, Ly.k_rg, Ly.v_rg2, Ly.k_rg2, Ly.k_rg22, Ly.v_dicK, Ly.v_dicT, Ly.v_dc, Ly.k_dc, List.getElem?_cons_zero, List.getElem?_cons_succ, List.set_cons_zero, List.set_cons_succ, List.length_cons, List.length_nil, List.map_cons, List.map_nil, List.cons_append, List.nil_append, List.replicate, if_true, if_false, Bool.false_eq_true, Bool.not_true, Bool.not_false, Bool.true_and, Bool.false_and, decide_true, decide_false, decide_eq_true_eq, Nat.zero_add, Nat.reduceAdd, Nat.reduceLeDiff, true_and, and_true, $ls,*])
theorem is_ways : m_ways = m_waysJ := rfl
theorem is_holds : m_holds = m_holdsJ := rfl
theorem is_pb : m_public_behind = m_public_behindJ := rfl
theorem is_gp : m_greatest_paper = m_greatest_paperJ := rfl
theorem is_code : m__law_code = m_codeG := rfl
theorem is_gr : m__law_greatest = m_greatestG := rfl
theorem is_lw : m__law_ways = m_waysG := rfl
theorem is_lb : m__law_behind = m_behindG := rfl
theorem is_next : m__law_next = m_next := rfl
theorem is_draws : m__law_draws = mDef 2 6 b_draws := rfl
def oddsL : List D := [.non, .tup [.int 1, .int 1], .tup [.int 2, .int 1], .tup [.int 16], .tup [.int (-1)], .tup [.bl true], .str "1", .tup [.str "1"], .tup [.tup []]]
inductive Mf : D → Prop
  | nats {p : List Nat} : Mb p → Mf (tuN p)
  | odd {d : D} : d ∈ oddsL → Mf d
section
variable {S S' : Hs} {rs : List Rg} {rows : List MRow} {d : D} {p : List Nat}
def memB (p : List Nat) : Bool := decide (p = sortN p) && decide ((bits16 fun a => decide (a ∈ p)).length = p.length)
theorem mem_nats (hp : ∀ a ∈ p, a < 16) (hl : p.length ≤ 1000) : Wp NoX (m__law_is_member [tuN p] S) fun v S' => v = .bl (memB p) ∧ Kp [] S S' := by
  refine wp_def0 rfl ?_
  unfold b__law_is_member
  rw [v_seq]
  simp_arith [Ly.v_fld, Ly.v_meth, Ly.k_me2, Ly.v_make, Ly.k_mk, Ly.v_fldset, Ly.k_fs, Ly.v_fldaug, Ly.k_fa2, Ly.look1, List.mem_cons, List.not_mem_nil, or_false, true_or, or_true, show ∀ xs S, oIsi "tuple" (.tup xs) S = .ok (.bl true) S from fun _ _ => rfl, oTru_bl, -v_seq]
  rw [v_seq]
  simp_arith [Ly.v_fld, Ly.v_meth, Ly.k_me2, Ly.v_make, Ly.k_mk, Ly.v_fldset, Ly.k_fs, Ly.v_fldaug, Ly.k_fa2, Ly.look1, List.mem_cons, List.not_mem_nil, or_false, true_or, or_true, oIt, -v_seq]
  refine wp_tupM nD (xs := p) (fun pre l S' => (∃ o, l = [some (tuN p), o]) ∧ S' = S) ⟨⟨_, rfl⟩, rfl⟩ ?_ ?_
  · rintro pre x post l S' hsp ⟨⟨o, rfl⟩, rfl⟩
    have hx := hp x (by rw [hsp]; simp)
    unfold lb__law_is_member_0
    simp_arith [Ly.v_fld, Ly.v_meth, Ly.k_me2, Ly.v_make, Ly.k_mk, Ly.v_fldset, Ly.k_fs, Ly.v_fldaug, Ly.k_fa2, Ly.look1, List.mem_cons, List.not_mem_nil, or_false, true_or, or_true, show ∀ i S, oIsi "int" (.int i) S = .ok (.bl true) S from fun _ _ => rfl, show ∀ i S, oIsi "bool" (.int i) S = .ok (.bl false) S from fun _ _ => rfl, oTru_bl, oLt_int, oGt_int, show ¬ ((x : Int) < 0) by omega, show ¬ ((15 : Int) < (x : Int)) by omega]
    exact ⟨_, rfl⟩
  · rintro l S' ⟨⟨o, rfl⟩, rfl⟩
    have hb : bSortA [tuN p] (S' ++ [.lst (nDs p)]) = .ok (.ref (S'.length + 1)) ((S' ++ [.lst (nDs p)]) ++ [.lst (nDs (sortN p))]) := by
      simp only [bSortA, intsD_nat, sortI_nat]
      simp
    have q1 : ((S' ++ [O.lst (nDs p)]) ++ [O.lst (nDs (sortN p))])[S'.length]? = some (.lst (nDs p)) := Kp.get (A := []) Kp.new get_end (by simp)
    have q2 : ((S' ++ [O.lst (nDs p)]) ++ [O.lst (nDs (sortN p))])[S'.length + 1]? = some (.lst (nDs (sortN p))) := by
      have : (S' ++ [O.lst (nDs p)]).length = S'.length + 1 := by simp
      rw [← this]; exact get_end
    have dp : ∀ L : List Nat, PyData.depthAll (D.toPs (nDs L)) ≤ 30 := fun L => by
      induction L with
      | nil => simp [D.toPs, PyData.depthAll]
      | cons a L ih =>
        simp only [List.map_cons, D.toPs, PyData.depthAll]
        refine Nat.max_le.mpr ⟨?_, ih⟩
        simp [nD, D.toP, PyData.depth]
    obtain ⟨b, e1, e2⟩ := cEq_lsts q1 q2 noBs_nats noBs_nats (dp p) (dp _)
    have k1 : Kp [] S' ((S' ++ [O.lst (nDs p)]) ++ [O.lst (nDs (sortN p))]) := Kp.new.app
    simp_arith [Ly.v_fld, Ly.v_meth, Ly.k_me2, Ly.v_make, Ly.k_mk, Ly.v_fldset, Ly.k_fs, Ly.v_fldaug, Ly.k_fa2, Ly.look1, List.mem_cons, List.not_mem_nil, or_false, true_or, or_true, show bList [tuN p] S' = .ok (.ref S'.length) (S' ++ [.lst (nDs p)]) from rfl, hb]
    generalize (S' ++ [O.lst (nDs p)]) ++ [O.lst (nDs (sortN p))] = S1 at *
    have e3 : oEq (.ref S'.length) (.ref (S'.length + 1)) S1 = .ok (.bl b) S1 := by unfold oEq; rw [e1]
    simp_arith [Ly.v_fld, Ly.v_meth, Ly.k_me2, Ly.v_make, Ly.k_mk, Ly.v_fldset, Ly.k_fs, Ly.v_fldaug, Ly.k_fa2, Ly.look1, List.mem_cons, List.not_mem_nil, or_false, true_or, or_true, e3, oTru_bl]
    rw [nDs_inj] at e2
    cases b with
    | false =>
      have : ¬ (p = sortN p) := fun c => by have := e2.mpr c; cases this
      simp_arith [Ly.v_fld, Ly.v_meth, Ly.k_me2, Ly.v_make, Ly.k_mk, Ly.v_fldset, Ly.k_fs, Ly.v_fldaug, Ly.k_fa2, Ly.look1, List.mem_cons, List.not_mem_nil, or_false, true_or, or_true, memB, decide_eq_false this, Bool.false_and]
      exact k1
    | true =>
      have hs := e2.mp rfl
      simp_arith [Ly.v_fld, Ly.v_meth, Ly.k_me2, Ly.v_make, Ly.k_mk, Ly.v_fldset, Ly.k_fs, Ly.v_fldaug, Ly.k_fa2, Ly.look1, List.mem_cons, List.not_mem_nil, or_false, true_or, or_true, rg16G, wipe1]
      refine lc16 (fun y => decide (y ∈ p)) (by simp) (fun y hy S2 hS2 => ?_) (fun S2 h1 h2 => ?_)
      · simp_arith [Ly.v_fld, Ly.v_meth, Ly.k_me2, Ly.v_make, Ly.k_mk, Ly.v_fldset, Ly.k_fs, Ly.v_fldaug, Ly.k_fa2, Ly.look1, List.mem_cons, List.not_mem_nil, or_false, true_or, or_true, in_nats]
      · simp_arith [Ly.v_fld, Ly.v_meth, Ly.k_me2, Ly.v_make, Ly.k_mk, Ly.v_fldset, Ly.k_fs, Ly.v_fldaug, Ly.k_fa2, Ly.look1, List.mem_cons, List.not_mem_nil, or_false, true_or, or_true, bLen_lst h1, bLen_tup, oEq_int, List.length_map, natEqG, memB, decide_eq_true hs, Bool.true_and]
        exact k1.trans h2
theorem mb_memB (h : Mb p) : memB p = true := by
  have h1 : sortN p = p := List.Perm.eq_of_pairwise (fun a b _ _ h1 h2 => Nat.le_antisymm h1 h2) (sortN_pw p) (h.pw.imp Nat.le_of_lt) (sortN_perm p)
  have h2 := h.bits
  unfold memB
  rw [← h2]
  simp [h1]
theorem is_member (h : Mf d) : Wp NoX (m__law_is_member [d] S) fun v S' => v = .bl (memOf d).isSome ∧ Kp [] S S' := by
  cases h with
  | nats h =>
    rename_i p
    have e : memOf (tuN p) = some p := mbOf_nats h.pw fun a ha => ⟨Nat.zero_le _, h.lt a ha⟩
    rw [e]
    have := mem_nats (S := S) h.lt (by have := h.len; omega)
    rw [mb_memB h] at this
    exact this
  | odd h =>
    have one : ∀ x : D, ((oIsi "int" x = fun S => .ok (.bl false) S) ∨ (oIsi "bool" x = fun S => .ok (.bl true) S) ∨ (∃ i : Int, x = .int i ∧ (i < 0 ∨ 15 < i))) → (oIsi "int" x = (fun S => .ok (.bl false) S) ∨ oIsi "int" x = fun S => .ok (.bl true) S) → (oIsi "bool" x = (fun S => .ok (.bl false) S) ∨ oIsi "bool" x = fun S => .ok (.bl true) S) → (memOf (.tup [x])).isSome = false → Wp NoX (m__law_is_member [.tup [x]] S) fun v S' => v = .bl (memOf (.tup [x])).isSome ∧ Kp [] S S' := by
      intro x hx hi hb hm
      rw [hm]
      refine wp_def0 rfl ?_
      unfold b__law_is_member
      rw [v_seq]
      simp_arith [Ly.v_fld, Ly.v_meth, Ly.k_me2, Ly.v_make, Ly.k_mk, Ly.v_fldset, Ly.k_fs, Ly.v_fldaug, Ly.k_fa2, Ly.look1, List.mem_cons, List.not_mem_nil, or_false, true_or, or_true, show ∀ xs S, oIsi "tuple" (.tup xs) S = .ok (.bl true) S from fun _ _ => rfl, oTru_bl, -v_seq]
      rw [v_seq]
      simp_arith [Ly.v_fld, Ly.v_meth, Ly.k_me2, Ly.v_make, Ly.k_mk, Ly.v_fldset, Ly.k_fs, Ly.v_fldaug, Ly.k_fa2, Ly.look1, List.mem_cons, List.not_mem_nil, or_false, true_or, or_true, oIt, -v_seq]
      refine wp_tup1 ?_
      unfold lb__law_is_member_0
      rcases hi with hi | hi
      · simp_arith [Ly.v_fld, Ly.v_meth, Ly.k_me2, Ly.v_make, Ly.k_mk, Ly.v_fldset, Ly.k_fs, Ly.v_fldaug, Ly.k_fa2, Ly.look1, List.mem_cons, List.not_mem_nil, or_false, true_or, or_true, hi, oTru_bl]; exact Kp.refl
      · rcases hb with hb | hb
        · rcases hx with h | h | ⟨i, rfl, h⟩
          · rw [hi] at h; have := congrFun h S; simp at this
          · rw [hb] at h; have := congrFun h S; simp at this
          · simp_arith [Ly.v_fld, Ly.v_meth, Ly.k_me2, Ly.v_make, Ly.k_mk, Ly.v_fldset, Ly.k_fs, Ly.v_fldaug, Ly.k_fa2, Ly.look1, List.mem_cons, List.not_mem_nil, or_false, true_or, or_true, hi, hb, oTru_bl, oLt_int, oGt_int]
            rcases h with h | h
            · simp_arith [Ly.v_fld, Ly.v_meth, Ly.k_me2, Ly.v_make, Ly.k_mk, Ly.v_fldset, Ly.k_fs, Ly.v_fldaug, Ly.k_fa2, Ly.look1, List.mem_cons, List.not_mem_nil, or_false, true_or, or_true, h]; exact Kp.refl
            · simp_arith [Ly.v_fld, Ly.v_meth, Ly.k_me2, Ly.v_make, Ly.k_mk, Ly.v_fldset, Ly.k_fs, Ly.v_fldaug, Ly.k_fa2, Ly.look1, List.mem_cons, List.not_mem_nil, or_false, true_or, or_true, h]
              by_cases c : i < 0
              · simp_arith [Ly.v_fld, Ly.v_meth, Ly.k_me2, Ly.v_make, Ly.k_mk, Ly.v_fldset, Ly.k_fs, Ly.v_fldaug, Ly.k_fa2, Ly.look1, List.mem_cons, List.not_mem_nil, or_false, true_or, or_true, c]; exact Kp.refl
              · simp_arith [Ly.v_fld, Ly.v_meth, Ly.k_me2, Ly.v_make, Ly.k_mk, Ly.v_fldset, Ly.k_fs, Ly.v_fldaug, Ly.k_fa2, Ly.look1, List.mem_cons, List.not_mem_nil, or_false, true_or, or_true, c]; exact Kp.refl
        · simp_arith [Ly.v_fld, Ly.v_meth, Ly.k_me2, Ly.v_make, Ly.k_mk, Ly.v_fldset, Ly.k_fs, Ly.v_fldaug, Ly.k_fa2, Ly.look1, List.mem_cons, List.not_mem_nil, or_false, true_or, or_true, hi, hb, oTru_bl]; exact Kp.refl
    have small : ∀ p : List Nat, (∀ a ∈ p, a < 16) → p.length ≤ 1000 → memB p = (memOf (tuN p)).isSome → Wp NoX (m__law_is_member [tuN p] S) fun v S' => v = .bl (memOf (tuN p)).isSome ∧ Kp [] S S' := by
      intro p h1 h2 h3
      rw [← h3]
      exact mem_nats h1 h2
    simp only [oddsL, List.mem_cons, List.not_mem_nil, or_false] at h
    rcases h with rfl | rfl | rfl | rfl | rfl | rfl | rfl | rfl | rfl
    · refine wp_def0 rfl ?_
      unfold b__law_is_member
      simp_arith [Ly.v_fld, Ly.v_meth, Ly.k_me2, Ly.v_make, Ly.k_mk, Ly.v_fldset, Ly.k_fs, Ly.v_fldaug, Ly.k_fa2, Ly.look1, List.mem_cons, List.not_mem_nil, or_false, true_or, or_true, show ∀ S, oIsi "tuple" .non S = .ok (.bl false) S from fun _ => rfl, oTru_bl]
      exact ⟨rfl, Kp.refl⟩
    · exact small [1, 1] (by decide) (by decide) (by rw [show memB [1, 1] = false from by unfold memB; rw [show (bits16 fun a => decide (a ∈ [1, 1])).length = 1 from by decide +kernel]; simp]; rfl)
    · exact small [2, 1] (by decide) (by decide) (by rw [show memB [2, 1] = false from by unfold memB; rw [show sortN [2, 1] = [1, 2] from sort2 (a := 2) (b := 1)]; simp]; rfl)
    · exact one _ (.inr (.inr ⟨_, rfl, .inr (by decide)⟩)) (.inr rfl) (.inl rfl) (by decide +kernel)
    · exact one _ (.inr (.inr ⟨_, rfl, .inl (by decide)⟩)) (.inr rfl) (.inl rfl) (by decide +kernel)
    · exact one _ (.inr (.inl rfl)) (.inr rfl) (.inr rfl) rfl
    · refine wp_def0 rfl ?_
      unfold b__law_is_member
      simp_arith [Ly.v_fld, Ly.v_meth, Ly.k_me2, Ly.v_make, Ly.k_mk, Ly.v_fldset, Ly.k_fs, Ly.v_fldaug, Ly.k_fa2, Ly.look1, List.mem_cons, List.not_mem_nil, or_false, true_or, or_true, show ∀ x S, oIsi "tuple" (.str x) S = .ok (.bl false) S from fun _ _ => rfl, oTru_bl]
      exact ⟨rfl, Kp.refl⟩
    · exact one _ (.inl rfl) (.inl rfl) (.inl rfl) rfl
    · exact one _ (.inl rfl) (.inl rfl) (.inl rfl) rfl
theorem memsOf_iff : ∀ {ds : List D}, (memsOf ds).isSome = ds.all fun d => (memOf d).isSome
  | [] => rfl
  | d :: ds => by
    have ih := memsOf_iff (ds := ds)
    unfold memsOf
    rw [List.all_cons, ← ih]
    cases memOf d with
    | none => rfl
    | some m => cases memsOf ds <;> rfl
theorem odd_mf (h : d ∈ oddsL) : D.plain d = true ∧ d.toP.depth ≤ 3 := by
  simp only [oddsL, List.mem_cons, List.not_mem_nil, or_false] at h
  rcases h with rfl | rfl | rfl | rfl | rfl | rfl | rfl | rfl | rfl <;> exact ⟨by decide +kernel, by decide +kernel⟩
theorem nats_mf (p : List Nat) : D.plain (tuN p) = true ∧ (tuN p).toP.depth ≤ 3 := by
  refine ⟨noB_plain _ (by simp only [noB]; exact noBs_nats), ?_⟩
  show PyData.depthAll (D.toPs (nDs p)) + 1 ≤ 3
  have : PyData.depthAll (D.toPs (nDs p)) ≤ 0 := by
    induction p with
    | nil => simp [D.toPs, PyData.depthAll]
    | cons a L ih =>
      simp only [List.map_cons, D.toPs, PyData.depthAll]
      refine Nat.max_le.mpr ⟨?_, ih⟩
      simp [nD, D.toP, PyData.depth]
  omega
theorem mf_plain (h : Mf d) : D.plain d = true ∧ d.toP.depth ≤ 3 := by
  cases h with
  | nats _ => exact nats_mf _
  | odd h => exact odd_mf h
theorem plains_of : ∀ {L : List D}, (∀ d ∈ L, D.plain d = true ∧ d.toP.depth ≤ 3) → D.plains L = true ∧ PyData.depthAll (D.toPs L) ≤ 30
  | [], _ => ⟨rfl, by simp [D.toPs, PyData.depthAll]⟩
  | d :: L, h => by
    obtain ⟨a, b⟩ := plains_of (L := L) fun x hx => h x (List.mem_cons_of_mem _ hx)
    obtain ⟨c, e⟩ := h d (by simp)
    refine ⟨by simp only [D.plains, c, a, Bool.and_self], ?_⟩
    simp only [D.toPs, PyData.depthAll]
    exact Nat.max_le.mpr ⟨by omega, b⟩
theorem ne_nil {i j : Nat} {xs : List D} (hi : S[i]? = some (.lst xs)) (hj : S[j]? = some (.lst [])) (hp : ∀ d ∈ xs, D.plain d = true ∧ d.toP.depth ≤ 3) : oNe (.ref i) (.ref j) S = .ok (.bl (!xs.isEmpty)) S := by
  obtain ⟨a, b⟩ := plains_of hp
  unfold oNe
  rw [eq_nil hi hj a b]
theorem lc_tupN {X : XP} {tt : MB} {l : Ls} {s : Nat} {Q : D → Hs → Prop} (f : Nat → Bool) (hs : s < l.length) (hp : p.length ≤ 1000000) (ht : ∀ y ∈ p, ∀ S', Kp [] S S' → Wp NoX (tt (l.set s (some (nD y))) S') fun t S2 => S2 = S' ∧ t = f y)
    (hQ : ∀ S', S'[S.length]? = some (.lst (nDs (p.filter f))) → Kp [] S S' → Q (.ref S.length) S') : Wp X (cLoop (.tup (nDs p)) (cN s) tt (mVar s) l S.length 0 (S ++ [.lst []])) Q := by
  refine lc_pure nD (S := S) (xs := p) (fun y => if f y = true then some (nD y) else none) (fun S' _ j hj => by simp only [itGo, List.getElem?_map]) hp (fun y hy S' hS' => ?_) (fun S' h1 h2 => ?_)
  · refine ⟨l.set s (some (nD y)), rfl, (ht y hy S' hS').mono (fun _ _ _ _ h => h) ?_⟩
    rintro t S2 ⟨rfl, rfl⟩
    refine ⟨Kp.refl, ?_⟩
    cases f y with
    | false => simp
    | true =>
      simp only [if_true]
      simp_arith [Ly.v_fld, Ly.v_meth, Ly.k_me2, Ly.v_make, Ly.k_mk, Ly.v_fldset, Ly.k_fs, Ly.v_fldaug, Ly.k_fa2, Ly.look1, List.mem_cons, List.not_mem_nil, or_false, true_or, or_true, List.getElem?_set_self hs]
      exact Kp.refl
  · rw [filterMap_nats] at h1
    exact hQ S' h1 h2
theorem ne_nilN {i j : Nat} {L : List Nat} (hi : S[i]? = some (.lst (nDs L))) (hj : S[j]? = some (.lst [])) : oNe (.ref i) (.ref j) S = .ok (.bl (!L.isEmpty)) S := by
  have := ne_nil hi hj fun d hd => by
    obtain ⟨a, _, rfl⟩ := List.mem_map.mp hd
    exact ⟨by simp [nD, D.plain], by simp [nD, D.toP, PyData.depth]⟩
  rw [this]
  cases L <;> rfl
def phB (as : List AR) (n : Nat) (d : D) : Bool := match papOf n d with
  | some ms => holdsN as ms
  | none => false
theorem phB_some {as : List AR} {n : Nat} {d : D} {ms : List (List Nat)} (h : papOf n d = some ms) : phB as n d = holdsN as ms := by unfold phB; rw [h]
theorem phB_none {as : List AR} {n : Nat} {d : D} (h : papOf n d = none) : phB as n d = false := by unfold phB; rw [h]
theorem holds_G {m n : Nat} (c : CodeOk rs rows) (hl : rs.length ≤ 100000) (h : Dt m n d) : Wp NoX (m_holdsJ [codeD rs rows, d] S) fun v S' => v = .bl (phB (ars rs rows) rows.length d) ∧ Kp [] S S' := holds_J c hl h
theorem law_holds_ok (c0 : CodeG rs rows) {ds : List D} (hd : ∀ d ∈ ds, Mf d) (hl : ds.length ≤ 1000) : Wp NoX (m__law_holds [codeD rs rows, .tup ds] S) fun v S' => v = .bl (phB (ars rs rows) rows.length (.tup ds)) ∧ Kp [] S S' := by
  refine wp_def0 rfl ?_
  unfold b__law_holds
  rw [v_seq]
  simp_arith [Ly.v_fld, Ly.v_meth, Ly.k_me2, Ly.v_make, Ly.k_mk, Ly.v_fldset, Ly.k_fs, Ly.v_fldaug, Ly.k_fa2, Ly.look1, List.mem_cons, List.not_mem_nil, or_false, true_or, or_true, show ∀ xs S, oIsi "tuple" (.tup xs) S = .ok (.bl true) S from fun _ _ => rfl, oTru_bl, codeD, tix1, bLen_tup, oNe_int, List.length_map, natEqG, -v_seq]
  have A := asOk c0.ok
  by_cases hn : ds.length = rows.length
  · have hpap : papOf rows.length (.tup ds) = memsOf ds := by show (if ds.length = rows.length then memsOf ds else none) = _; rw [if_pos hn]
    simp_arith [Ly.v_fld, Ly.v_meth, Ly.k_me2, Ly.v_make, Ly.k_mk, Ly.v_fldset, Ly.k_fs, Ly.v_fldaug, Ly.k_fa2, Ly.look1, List.mem_cons, List.not_mem_nil, or_false, true_or, or_true, hn, -v_seq]
    rw [v_seq]
    simp_arith [Ly.v_fld, Ly.v_meth, Ly.k_me2, Ly.v_make, Ly.k_mk, Ly.v_fldset, Ly.k_fs, Ly.v_fldaug, Ly.k_fa2, Ly.look1, List.mem_cons, List.not_mem_nil, or_false, true_or, or_true, oIt, wipe1, -v_seq]
    refine lc_pure (fun d : D => d) (S := S) (xs := ds) (fun d => if (memOf d).isSome = false then some d else none) (fun S' _ j hj => ?_) (by omega) (fun d hdm S' hS' => ?_) (fun S1 h1 h2 => ?_)
    · simp only [itGo, Option.map_id']
    · refine ⟨_, rfl, ?_⟩
      simp_arith [Ly.v_fld, Ly.v_meth, Ly.k_me2, Ly.v_make, Ly.k_mk, Ly.v_fldset, Ly.k_fs, Ly.v_fldaug, Ly.k_fa2, Ly.look1, List.mem_cons, List.not_mem_nil, or_false, true_or, or_true]
      refine Wp.call (is_member (hd d hdm)) ?_
      rintro _ S2 ⟨rfl, k2⟩
      simp_arith [Ly.v_fld, Ly.v_meth, Ly.k_me2, Ly.v_make, Ly.k_mk, Ly.v_fldset, Ly.k_fs, Ly.v_fldaug, Ly.k_fa2, Ly.look1, List.mem_cons, List.not_mem_nil, or_false, true_or, or_true, oTru_bl]
      refine ⟨k2, ?_⟩
      cases (memOf d).isSome with
      | true => simp
      | false => simp_arith [Ly.v_fld, Ly.v_meth, Ly.k_me2, Ly.v_make, Ly.k_mk, Ly.v_fldset, Ly.k_fs, Ly.v_fldaug, Ly.k_fa2, Ly.look1, List.mem_cons, List.not_mem_nil, or_false, true_or, or_true]; exact Kp.refl
    · have q1 := Kp.get (A := []) (Kp.new (g := [O.lst []])) h1 (by simp)
      have q2 : (S1 ++ [O.lst []])[S1.length]? = some (.lst []) := get_end
      have hF : (ds.filterMap fun d => if (memOf d).isSome = false then some d else none).isEmpty = (memsOf ds).isSome := by
        rw [memsOf_iff]
        clear q1 h1 hd hl hn hpap
        induction ds with
        | nil => rfl
        | cons d ds ih =>
          rw [List.filterMap_cons, List.all_cons]
          cases (memOf d).isSome with
          | true => simpa using ih
          | false => simp
      have q3 := ne_nil q1 q2 (fun x hx => by
        obtain ⟨y, hy, e⟩ := List.mem_filterMap.mp hx
        split at e
        · cases e; exact mf_plain (hd _ hy)
        · cases e)
      rw [hF] at q3
      have k1 : Kp [] S (S1 ++ [O.lst []]) := h2.app
      simp_arith [Ly.v_fld, Ly.v_meth, Ly.k_me2, Ly.v_make, Ly.k_mk, Ly.v_fldset, Ly.k_fs, Ly.v_fldaug, Ly.k_fa2, Ly.look1, List.mem_cons, List.not_mem_nil, or_false, true_or, or_true, q3, -v_seq]
      generalize S1 ++ [O.lst []] = S2 at *
      cases hm : memsOf ds with
      | none =>
        rw [phB_none (hpap.trans hm)]
        simp_arith [Ly.v_fld, Ly.v_meth, Ly.k_me2, Ly.v_make, Ly.k_mk, Ly.v_fldset, Ly.k_fs, Ly.v_fldaug, Ly.k_fa2, Ly.look1, List.mem_cons, List.not_mem_nil, or_false, true_or, or_true, Option.isSome_none, Bool.not_false]
        exact k1
      | some ms =>
        rw [phB_some (hpap.trans hm)]
        obtain ⟨rfl, hmb⟩ := memsOf_spec hm
        simp_arith [Ly.v_fld, Ly.v_meth, Ly.k_me2, Ly.v_make, Ly.k_mk, Ly.v_fldset, Ly.k_fs, Ly.v_fldaug, Ly.k_fa2, Ly.look1, List.mem_cons, List.not_mem_nil, or_false, true_or, or_true, Option.isSome_some, Bool.not_true, -v_seq]
        rw [v_seq]
        have hml : ms.length = rows.length := by simpa using hn
        have hsh := c0.short
        simp_arith [Ly.v_fld, Ly.v_meth, Ly.k_me2, Ly.v_make, Ly.k_mk, Ly.v_fldset, Ly.k_fs, Ly.v_fldaug, Ly.k_fa2, Ly.look1, List.mem_cons, List.not_mem_nil, or_false, true_or, or_true, bLen_tup, List.length_map, show oRng1 [.int (ms.length : Int)] S2 = _ from rng1 _ (by omega) (by omega), Int.toNat_natCast, -v_seq]
        have hal : (ars rs rows).length = rows.length := ars_len
        refine wp_rng (fun k l S' => (∃ o2 o3 o4 o5 o6, l = [some (codeD rs rows), some (.tup (ms.map tuN)), o2, o3, o4, o5, o6]) ∧ Kp [] S S' ∧ ∀ r, r < k → ∀ w ∈ ((ars rs rows).getD r AR0).ws, ∀ a ∈ ms.getD w [], a ∈ ((ars rs rows).getD r AR0).behind (ms.getD r [])) ⟨⟨_, _, _, _, _, rfl⟩, k1, fun r hr => by omega⟩ ?_ ?_
        · rintro k l S' hk ⟨⟨o2, o3, o4, o5, o6, rfl⟩, K', hin⟩
          have hkr : k < rows.length := by omega
          have hrow : rows[k]? = some (rows.getD k (.stop 0)) := by simp [List.getD, List.getElem?_eq_getElem hkr]
          have hAR : (ars rs rows).getD k AR0 = (rows.getD k (.stop 0)).ar rs k := ars_at hkr
          have exM : ∀ i, i < ms.length → ∀ S, oIx (.tup (ms.map tuN)) (nD i) S = .ok (tuN (ms.getD i [])) S := fun i hi S => oIx_tup (by rw [List.getElem?_map, List.getElem?_eq_getElem hi]; simp [List.getD, List.getElem?_eq_getElem hi])
          unfold lb__law_holds_1
          rw [show (0 : Int) + (k : Int) = (k : Int) by omega]
          rw [v_gN]
          rw [v_seq]
          simp_arith [Ly.v_fld, Ly.v_meth, Ly.k_me2, Ly.v_make, Ly.k_mk, Ly.v_fldset, Ly.k_fs, Ly.v_fldaug, Ly.k_fa2, Ly.look1, List.mem_cons, List.not_mem_nil, or_false, true_or, or_true, is_lb, is_lw, exM k hk, -v_seq]
          refine Wp.call (behind_G (by have := c0.few; omega) c0.lab hrow (.inl rfl)) ?_
          rintro _ S3 ⟨q3, rfl, b1, b2, k3⟩
          simp_arith [Ly.v_fld, Ly.v_meth, Ly.k_me2, Ly.v_make, Ly.k_mk, Ly.v_fldset, Ly.k_fs, Ly.v_fldaug, Ly.k_fa2, Ly.look1, List.mem_cons, List.not_mem_nil, or_false, true_or, or_true, is_lw]
          refine Wp.call (ways_G (rs := rs) hrow) ?_
          rintro _ S4 ⟨q4, rfl, w1, w2, k4⟩
          simp_arith [Ly.v_fld, Ly.v_meth, Ly.k_me2, Ly.v_make, Ly.k_mk, Ly.v_fldset, Ly.k_fs, Ly.v_fldaug, Ly.k_fa2, Ly.look1, List.mem_cons, List.not_mem_nil, or_false, true_or, or_true, oIt_lst w1]
          have hws : ∀ x ∈ (rows.getD k (.stop 0)).ways k, x < ms.length := fun x hx => by
            have := ws_lt A (r := k) (by rw [ars_len]; exact hkr) x (by rw [hAR]; exact hx)
            rw [ars_len] at this; omega
          refine wp_lstM nD (xs := (rows.getD k (.stop 0)).ways k) (fun pre l' S' => (∃ o4, l' = [some (codeD rs rows), some (.tup (ms.map tuN)), some (nD k), some (.ref q3), o4, o5, o6]) ∧ Kp [] S4 S' ∧ ∀ w ∈ pre, ∀ a ∈ ms.getD w [], a ∈ ((ars rs rows).getD k AR0).behind (ms.getD k []))
            (fun pre l' S' h => seqAt_lst (h.2.1.get w1 (by simp))) ⟨⟨_, rfl⟩, Kp.refl, fun w hw => by cases hw⟩ ?_ ?_
          · rintro pre x post l' S5 hsp ⟨⟨o4, rfl⟩, K5, hpre⟩
            have hxw : x ∈ (rows.getD k (.stop 0)).ways k := by rw [hsp]; simp
            have hx := hws x hxw
            unfold lb__law_holds_0
            have bq : S5[q3]? = some (.lst (nDs (((ars rs rows).getD k AR0).behind (ms.getD k [])))) := by rw [hAR]; exact K5.get (k4.get b1 (by simp)) (by simp)
            simp_arith [Ly.v_fld, Ly.v_meth, Ly.k_me2, Ly.v_make, Ly.k_mk, Ly.v_fldset, Ly.k_fs, Ly.v_fldaug, Ly.k_fa2, Ly.look1, List.mem_cons, List.not_mem_nil, or_false, true_or, or_true, exM x hx, oIt, wipe1]
            have hmx : Mb (ms.getD x []) := hmb _ (List.mem_of_getElem? (i := x) (by simp [List.getD, List.getElem?_eq_getElem hx]))
            refine lc_tupN (fun a => !decide (a ∈ ((ars rs rows).getD k AR0).behind (ms.getD k []))) (by simp) (by have := hmx.len; omega) (fun y hy S6 k6 => ?_) (fun S6 h6 k6 => ?_)
            · simp_arith [Ly.v_fld, Ly.v_meth, Ly.k_me2, Ly.v_make, Ly.k_mk, Ly.v_fldset, Ly.k_fs, Ly.v_fldaug, Ly.k_fa2, Ly.look1, List.mem_cons, List.not_mem_nil, or_false, true_or, or_true, oNotIn_lst (k6.get bq (by simp))]
            · have q5 := Kp.get (A := []) (Kp.new (g := [O.lst []])) h6 (by simp)
              have q6 : (S6 ++ [O.lst []])[S6.length]? = some (.lst []) := get_end
              simp_arith [Ly.v_fld, Ly.v_meth, Ly.k_me2, Ly.v_make, Ly.k_mk, Ly.v_fldset, Ly.k_fs, Ly.v_fldaug, Ly.k_fa2, Ly.look1, List.mem_cons, List.not_mem_nil, or_false, true_or, or_true, ne_nilN q5 q6]
              have k7 : Kp [] S5 (S6 ++ [O.lst []]) := k6.app
              cases hf : ((ms.getD x []).filter fun a => !decide (a ∈ ((ars rs rows).getD k AR0).behind (ms.getD k []))).isEmpty with
              | true =>
                simp_arith [Ly.v_fld, Ly.v_meth, Ly.k_me2, Ly.v_make, Ly.k_mk, Ly.v_fldset, Ly.k_fs, Ly.v_fldaug, Ly.k_fa2, Ly.look1, List.mem_cons, List.not_mem_nil, or_false, true_or, or_true]
                refine ⟨⟨_, rfl⟩, K5.trans k7, fun w hw => ?_⟩
                rcases List.mem_append.mp hw with h | h
                · exact hpre w h
                · rw [List.mem_singleton.mp h]
                  intro a ha
                  have := List.isEmpty_iff.mp hf
                  rw [List.filter_eq_nil_iff] at this
                  simpa using this a ha
              | false =>
                have hno : holdsN (ars rs rows) ms = false := by
                  rw [← Bool.not_eq_true, hold_iff]
                  intro c
                  have hc := c k (by omega) x (by rw [hAR]; exact hxw)
                  have : ((ms.getD x []).filter fun a => !decide (a ∈ ((ars rs rows).getD k AR0).behind (ms.getD k []))) = [] := by
                    rw [List.filter_eq_nil_iff]
                    intro a ha
                    rw [decide_eq_true (hc a ha)]; decide
                  rw [this] at hf
                  cases hf
                simp_arith [Ly.v_fld, Ly.v_meth, Ly.k_me2, Ly.v_make, Ly.k_mk, Ly.v_fldset, Ly.k_fs, Ly.v_fldaug, Ly.k_fa2, Ly.look1, List.mem_cons, List.not_mem_nil, or_false, true_or, or_true, hno]
                exact (((K'.trans k3).trans k4).trans K5).trans k7
          · rintro l' S5 ⟨⟨o4, rfl⟩, K5, hpre⟩
            refine ⟨⟨_, _, _, _, _, rfl⟩, ((K'.trans k3).trans k4).trans K5, fun r hr => ?_⟩
            by_cases e : r = k
            · rw [e]
              intro w hw
              rw [hAR] at hw
              exact hpre w hw
            · exact hin r (by omega)
        · rintro l S' ⟨⟨o2, o3, o4, o5, o6, rfl⟩, K', hin⟩
          have : holdsN (ars rs rows) ms = true := hold_iff.mpr fun r hr => hin r (by omega)
          simp_arith [Ly.v_fld, Ly.v_meth, Ly.k_me2, Ly.v_make, Ly.k_mk, Ly.v_fldset, Ly.k_fs, Ly.v_fldaug, Ly.k_fa2, Ly.look1, List.mem_cons, List.not_mem_nil, or_false, true_or, or_true, this]
          exact K'
  · have hpap : papOf rows.length (.tup ds) = none := by show (if ds.length = rows.length then memsOf ds else none) = _; rw [if_neg hn]
    rw [phB_none hpap]
    simp_arith [Ly.v_fld, Ly.v_meth, Ly.k_me2, Ly.v_make, Ly.k_mk, Ly.v_fldset, Ly.k_fs, Ly.v_fldaug, Ly.k_fa2, Ly.look1, List.mem_cons, List.not_mem_nil, or_false, true_or, or_true, hn]
    exact Kp.refl
end
end GK64
set_option Elab.async false
set_option linter.all false
set_option maxRecDepth 100000
namespace GK64
open PySem L2 Ly
open PySem.Spec hiding Row
open PyProof.Rows hiding St
local macro_rules | `(tactic| simp_arith [$ls,*]) => `(tactic| simp only [Ly.line_le, Ly.atX_no, Ly.v_ok, Ly.v_bad, Ly.v_bind, Ly.k_bd, Ly.v_at, Ly.v_bin, Ly.k_bi, Ly.k_bi2, Ly.v_var, Ly.v_c, Ly.v_un, Ly.k_un, Ly.v_if, Ly.k_ife, Ly.v_and, Ly.k_and, Ly.k_and2, Ly.v_or, Ly.k_or, Ly.k_or2, Ly.v_tup, Ly.k_tup, Ly.v_lst, Ly.k_lst, Ly.v_call, Ly.k_ca, Ly.v_fn, Ly.k_fn, Ly.v_bm, Ly.k_bm, Ly.k_bm2, Ly.v_sl, Ly.k_sl, Ly.k_sl2, Ly.k_sl3, Ly.v_ixK, Ly.k_ixk, Ly.v_inK, Ly.k_ink, Ly.v_notinK, Ly.k_nink, Ly.v_getK2, Ly.k_gk2, Ly.k_gk, Ly.v_get2, Ly.k_g2, Ly.k_g22, Ly.k_g23, Ly.v_nil, Ly.v_cons, Ly.k_co, Ly.k_co2, Ly.v_no, Ly.v_some, Ly.k_so, Ly.k_cm, Ly.v_cmp, Ly.v_tru, Ly.k_tr, Ly.v_notB, Ly.k_no, Ly.v_andB, Ly.k_an, Ly.v_orB, Ly.k_orb, Ly.v_yes, Ly.v_inKB, Ly.k_inkB, Ly.v_notinKB, Ly.k_ninkB, Ly.v_set, Ly.k_st, Ly.v_expr, Ly.k_ex, Ly.v_ret, Ly.k_re, Ly.v_retN, Ly.v_pass, Ly.v_brk, Ly.v_cnt, Ly.v_seq, Ly.k_sq_nx, Ly.k_sq_rt, Ly.k_sq_bk, Ly.k_sq_ct, Ly.v_ifS, Ly.k_ifs, Ly.v_asg, Ly.k_as, Ly.k_as2, Ly.v_aug, Ly.k_au, Ly.v_for, Ly.k_fo, Ly.v_it, Ly.k_it, Ly.k_ij, Ly.v_rng1, Ly.v_rng2, Ly.v_enum, Ly.v_zip, Ly.v_ez, Ly.v_gN, Ly.v_gsN, Ly.v_gsC, Ly.k_gc, Ly.v_gT, Ly.v_gTw, Ly.v_gSb, Ly.k_gsb, Ly.k_gsb2, Ly.k_gsb3, Ly.k_en_rt, Ly.k_en_nx, Ly.k_tu_nx, Ly.k_tu_ct, Ly.k_tu_bk, Ly.k_tu_rt, Ly.v_lc, Ly.k_lc, Ly.v_augI, Ly.k_ag, Ly.k_ag2, Ly.k_ag3, Ly.k_ag4, Ly.k_ag5, Ly.v_del, Ly.k_dl, Ly.k_dl2, Ly.v_setd, Ly.v_pop2, Ly.k_d3, Ly.k_d32, Ly.k_d33, Ly.v_get1, Ly.k_g1, Ly.k_g12, Ly.v_rg1, Ly.k_rg, Ly.v_rg2, Ly.k_rg2, Ly.k_rg22, Ly.v_dicK, Ly.v_dicT, Ly.v_dc, Ly.k_dc, List.getElem?_cons_zero, List.getElem?_cons_succ, List.set_cons_zero, List.set_cons_succ, List.length_cons, List.length_nil, List.map_cons, List.map_nil, List.cons_append, List.nil_append, List.replicate, if_true, if_false, Bool.false_eq_true, Bool.not_true, Bool.not_false, Bool.true_and, Bool.false_and, decide_true, decide_false, decide_eq_true_eq, Nat.zero_add, Nat.reduceAdd, Nat.reduceLeDiff, true_and, and_true, $ls,*])
section
variable {S S' : Hs} {i j : Nat} {p : List Nat}
theorem lc16D {X : XP} {tt : MB} {l : Ls} {s : Nat} {Q : D → Hs → Prop} (h : DrG S i j) (hs : s < l.length) (ht : ∀ y, y < 16 → ∀ S', DrG S' i j → Kp [i] S S' → Wp NoX (tt (l.set s (some (nD y))) S') fun t S2 => DrG S2 i j ∧ Kp [i] S' S2)
    (hd : ∀ p S', Mb p → S'[S.length]? = some (.lst (nDs p)) → DrG S' i j → Kp [i] S S' → Q (.ref S.length) S') : Wp X (cLoop (.rng 0 16) (cN s) tt (mVar s) l S.length 0 (S ++ [.lst []])) Q := by
  have hi := h.lt
  have hj := h.ltj
  refine wp_lcRng (fun k acc S' => ∃ p : List Nat, acc = nDs p ∧ p.Pairwise (· < ·) ∧ (∀ a ∈ p, a < k) ∧ p.length ≤ k ∧ S'[S.length]? = some (.lst acc) ∧ DrG S' i j ∧ Kp [i] S S') ⟨[], rfl, List.Pairwise.nil, by simp, by simp, by simp, h.new, Kp.new⟩ ?_ ?_
  · rintro k acc S' hk ⟨p, rfl, hpw, hlt, hpl, hq, hn, hK⟩
    refine ⟨_, rfl, ?_⟩
    rw [show (0 : Int) + (k : Int) = (k : Int) by omega]
    refine (ht k hk S' hn hK).mono (fun _ _ _ _ h => h) ?_
    rintro t S2 ⟨hn2, k2⟩
    have hq2 := k2.get hq (by simp; omega)
    cases t with
    | false =>
      simp only [Bool.false_eq_true, if_false]
      exact ⟨p, rfl, hpw, fun a ha => Nat.lt_succ_of_lt (hlt a ha), by omega, hq2, hn2, hK.trans k2⟩
    | true =>
      simp only [if_true]
      simp_arith [Ly.v_fld, Ly.v_meth, Ly.k_me2, Ly.v_make, Ly.k_mk, Ly.v_fldset, Ly.k_fs, Ly.v_fldaug, Ly.k_fa2, Ly.look1, List.mem_cons, List.not_mem_nil, or_false, true_or, or_true, List.getElem?_set_self hs]
      refine ⟨hq2, by simp only [List.length_map]; exact line_big (by omega), p ++ [k], by simp, ?_, ?_, by simp; omega, get_put hq2, hn2.kp (A := [S.length]) (Kp.set (by simp)) (by simp; omega) (by simp; omega), (hK.trans k2).setNew (Nat.le_refl _)⟩
      · rw [List.pairwise_append]
        exact ⟨hpw, List.pairwise_singleton _ _, fun a ha b hb => by rw [List.mem_singleton.mp hb]; exact hlt a ha⟩
      · intro a ha
        rcases List.mem_append.mp ha with h | h
        · exact Nat.lt_succ_of_lt (hlt a h)
        · rw [List.mem_singleton.mp h]; exact Nat.lt_succ_self _
  · rintro acc S' ⟨p, rfl, hpw, hlt, hpl, hq, hn, hK⟩
    exact hd p S' ⟨hpw, hlt⟩ hq hn hK
theorem ten_mf : ∀ y, y < 10 → ∃ d, (oddsL ++ [tuN []])[y]? = some d ∧ Mf d := fun y hy => by
  by_cases h : y < 9
  · have hl : y < oddsL.length := h
    exact ⟨oddsL[y], by rw [List.getElem?_append_left hl, List.getElem?_eq_getElem hl], .odd (List.getElem_mem hl)⟩
  · have : y = 9 := by omega
    subst this
    exact ⟨tuN [], rfl, .nats ⟨List.Pairwise.nil, by simp⟩⟩
theorem paper_ok (d : DrG S i j) {ms : List (List Nat)} (hm : ∀ m ∈ ms, Mb m) (h0 : 0 < ms.length) (hl : ms.length ≤ 1000) : Wp NoX (m__law_paper [.ref i, .tup (ms.map tuN)] S) (DwG i j S fun v => ∃ ds, v = .tup ds ∧ (∀ d ∈ ds, Mf d) ∧ ds.length ≤ 1000) := by
  refine wp_def0 rfl ?_
  unfold b__law_paper
  have hdl := d.lt
  have hdj := d.ltj
  rw [v_seq]
  simp_arith [Ly.v_fld, Ly.v_meth, Ly.k_me2, Ly.v_make, Ly.k_mk, Ly.v_fldset, Ly.k_fs, Ly.v_fldaug, Ly.k_fa2, Ly.look1, List.mem_cons, List.not_mem_nil, or_false, true_or, or_true, is_next, -v_seq]
  rw [v_seq]
  simp_arith [Ly.v_fld, Ly.v_meth, Ly.k_me2, Ly.v_make, Ly.k_mk, Ly.v_fldset, Ly.k_fs, Ly.v_fldaug, Ly.k_fa2, Ly.look1, List.mem_cons, List.not_mem_nil, or_false, true_or, or_true, is_next, -v_seq]
  refine nxG d.new (by decide) fun t S1 ht d1 k1 => ?_
  have hq1 : S1[S.length]? = some (.lst []) := k1.get (i := S.length) (by simp) (by simp; omega)
  simp_arith [Ly.v_fld, Ly.v_meth, Ly.k_me2, Ly.v_make, Ly.k_mk, Ly.v_fldset, Ly.k_fs, Ly.v_fldaug, Ly.k_fa2, Ly.look1, List.mem_cons, List.not_mem_nil, or_false, true_or, or_true, -v_seq]
  rw [v_seq]
  simp_arith [Ly.v_fld, Ly.v_meth, Ly.k_me2, Ly.v_make, Ly.k_mk, Ly.v_fldset, Ly.k_fs, Ly.v_fldaug, Ly.k_fa2, Ly.look1, List.mem_cons, List.not_mem_nil, or_false, true_or, or_true, oIt, -v_seq]
  refine wp_tupM tuN (xs := ms) (fun pre l S' => ∃ (ds : List D) (o4 o5 : Option D), l = [some (.ref i), some (.tup (ms.map tuN)), some (.ref S.length), some (nD t), o4, o5, none, none] ∧ S'[S.length]? = some (.lst ds) ∧ (∀ d ∈ ds, Mf d) ∧ ds.length = pre.length ∧ DrG S' i j ∧ Kp [i] S S') ⟨[], none, none, rfl, hq1, by simp, rfl, d1, Kp.new.trans k1⟩ ?_ ?_
  · rintro pre m post l S' hsp ⟨ds, o4, o5, rfl, hq, hds, hdl', d', K'⟩
    unfold lb__law_paper_0
    have hpre : pre.length ≤ ms.length := by rw [hsp]; simp
    have hil := d'.lt
    simp_arith [Ly.v_fld, Ly.v_meth, Ly.k_me2, Ly.v_make, Ly.k_mk, Ly.v_fldset, Ly.k_fs, Ly.v_fldaug, Ly.k_fa2, Ly.look1, List.mem_cons, List.not_mem_nil, or_false, true_or, or_true, rg16G, wipe1, is_next]
    refine lc16D d' (by simp) (fun y hy S2 d2 k2 => ?_) (fun p S2 hp hp2 d2 k2 => ?_)
    · simp_arith [Ly.v_fld, Ly.v_meth, Ly.k_me2, Ly.v_make, Ly.k_mk, Ly.v_fldset, Ly.k_fs, Ly.v_fldaug, Ly.k_fa2, Ly.look1, List.mem_cons, List.not_mem_nil, or_false, true_or, or_true, in_nats, oEq_int, is_next]
      by_cases hy2 : y ∈ m
      · rw [if_pos hy2]
        by_cases ht0 : (t : Int) = 0
        · rw [if_pos ht0]
          exact ⟨d2, Kp.refl⟩
        · rw [if_neg ht0]
          refine nxG d2 (by decide) fun x S3 hx d3 k3 => ?_
          simp_arith [Ly.v_fld, Ly.v_meth, Ly.k_me2, Ly.v_make, Ly.k_mk, Ly.v_fldset, Ly.k_fs, Ly.v_fldaug, Ly.k_fa2, Ly.look1, List.mem_cons, List.not_mem_nil, or_false, true_or, or_true, oGt_int]
          by_cases hx0 : (0 : Int) < (x : Int)
          · simp_arith [Ly.v_fld, Ly.v_meth, Ly.k_me2, Ly.v_make, Ly.k_mk, Ly.v_fldset, Ly.k_fs, Ly.v_fldaug, Ly.k_fa2, Ly.look1, List.mem_cons, List.not_mem_nil, or_false, true_or, or_true, hx0]
            exact ⟨d3, k3⟩
          · simp_arith [Ly.v_fld, Ly.v_meth, Ly.k_me2, Ly.v_make, Ly.k_mk, Ly.v_fldset, Ly.k_fs, Ly.v_fldaug, Ly.k_fa2, Ly.look1, List.mem_cons, List.not_mem_nil, or_false, true_or, or_true, hx0, oEq_int, is_next]
            by_cases h2 : (t : Int) = 2
            · simp_arith [Ly.v_fld, Ly.v_meth, Ly.k_me2, Ly.v_make, Ly.k_mk, Ly.v_fldset, Ly.k_fs, Ly.v_fldaug, Ly.k_fa2, Ly.look1, List.mem_cons, List.not_mem_nil, or_false, true_or, or_true, h2]
              refine nxG d3 (by decide) fun x S4 hx d4 k4 => ?_
              simp_arith [Ly.v_fld, Ly.v_meth, Ly.k_me2, Ly.v_make, Ly.k_mk, Ly.v_fldset, Ly.k_fs, Ly.v_fldaug, Ly.k_fa2, Ly.look1, List.mem_cons, List.not_mem_nil, or_false, true_or, or_true, oEq_int]
              exact ⟨d4, k3.trans k4⟩
            · simp_arith [Ly.v_fld, Ly.v_meth, Ly.k_me2, Ly.v_make, Ly.k_mk, Ly.v_fldset, Ly.k_fs, Ly.v_fldaug, Ly.k_fa2, Ly.look1, List.mem_cons, List.not_mem_nil, or_false, true_or, or_true, h2]
              exact ⟨d3, k3⟩
      · rw [if_neg hy2]
        by_cases h2 : (t : Int) = 2
        · rw [if_pos h2]
          refine nxG d2 (by decide) fun x S4 hx d4 k4 => ?_
          simp_arith [Ly.v_fld, Ly.v_meth, Ly.k_me2, Ly.v_make, Ly.k_mk, Ly.v_fldset, Ly.k_fs, Ly.v_fldaug, Ly.k_fa2, Ly.look1, List.mem_cons, List.not_mem_nil, or_false, true_or, or_true, oEq_int]
          exact ⟨d4, k4⟩
        · rw [if_neg h2]
          exact ⟨d2, Kp.refl⟩
    · have hq2 := k2.get hq (by simp; omega)
      simp_arith [Ly.v_fld, Ly.v_meth, Ly.k_me2, Ly.v_make, Ly.k_mk, Ly.v_fldset, Ly.k_fs, Ly.v_fldaug, Ly.k_fa2, Ly.look1, List.mem_cons, List.not_mem_nil, or_false, true_or, or_true, hasTy_lst hq2, bTuple_lst hp2, oAppend_lst hq2 (line_big (by omega))]
      refine ⟨ds ++ [tuN p], _, _, rfl, get_put hq2, ?_, by simp [hdl'], d2.kp (A := [S.length]) (Kp.set (by simp)) (by simp; omega) (by simp; omega), (K'.trans k2).setNew (Nat.le_refl _)⟩
      intro x hx
      rcases List.mem_append.mp hx with h | h
      · exact hds x h
      · rw [List.mem_singleton.mp h]; exact .nats hp
  · rintro l S' ⟨ds, o4, o5, rfl, hq, hds, hdl', d', K'⟩
    have fin : ∀ (S2 : Hs) (ds : List D) (o6 : Option D), S2[S.length]? = some (.lst ds) → (∀ d ∈ ds, Mf d) → ds.length ≤ 1000 → DrG S2 i j → Kp [i] S S2 →
        Wp NoX ((mSeq (mIfS (mCmp oEq (mFn m_next (lCons (mVar 0) (lCons (mC (.int 12)) lNil))) (mC (.int 0))) (mSet 2 (mSl (mVar 2) (oSome (mC (.int 1))) oNo)) mPass) (mRet (mCall bTuple (lCons (mVar 2) lNil)))) [some (.ref i), some (.tup (ms.map tuN)), some (.ref S.length), some (nD t), o4, o5, o6, none] S2)
          (enK (DwG i j S fun v => ∃ ds, v = .tup ds ∧ (∀ d ∈ ds, Mf d) ∧ ds.length ≤ 1000)) := by
      intro S2 ds o6 hq hds hl2 d2 k2
      rw [v_seq]
      simp_arith [Ly.v_fld, Ly.v_meth, Ly.k_me2, Ly.v_make, Ly.k_mk, Ly.v_fldset, Ly.k_fs, Ly.v_fldaug, Ly.k_fa2, Ly.look1, List.mem_cons, List.not_mem_nil, or_false, true_or, or_true, -v_seq]
      refine nxG d2 (by decide) fun x S3 hx d3 k3 => ?_
      have hq3 := k3.get hq (by simp; omega)
      simp_arith [Ly.v_fld, Ly.v_meth, Ly.k_me2, Ly.v_make, Ly.k_mk, Ly.v_fldset, Ly.k_fs, Ly.v_fldaug, Ly.k_fa2, Ly.look1, List.mem_cons, List.not_mem_nil, or_false, true_or, or_true, oEq_int]
      by_cases hx0 : (x : Int) = 0
      · simp_arith [Ly.v_fld, Ly.v_meth, Ly.k_me2, Ly.v_make, Ly.k_mk, Ly.v_fldset, Ly.k_fs, Ly.v_fldaug, Ly.k_fa2, Ly.look1, List.mem_cons, List.not_mem_nil, or_false, true_or, or_true, hx0, oSl_lst hq3, cutD_from (ds := ds) (k := 1)]
        rw [show cutD ds (some 1) none = ds.drop 1 from cutD_from (k := 1)]
        simp_arith [Ly.v_fld, Ly.v_meth, Ly.k_me2, Ly.v_make, Ly.k_mk, Ly.v_fldset, Ly.k_fs, Ly.v_fldaug, Ly.k_fa2, Ly.look1, List.mem_cons, List.not_mem_nil, or_false, true_or, or_true, bTuple_lst get_end]
        exact ⟨⟨_, rfl, fun d hd => hds d (List.mem_of_mem_drop hd), by simp; omega⟩, d3.new, (k2.trans k3).app⟩
      · simp_arith [Ly.v_fld, Ly.v_meth, Ly.k_me2, Ly.v_make, Ly.k_mk, Ly.v_fldset, Ly.k_fs, Ly.v_fldaug, Ly.k_fa2, Ly.look1, List.mem_cons, List.not_mem_nil, or_false, true_or, or_true, hx0, bTuple_lst hq3]
        exact ⟨⟨_, rfl, hds, hl2⟩, d3, k2.trans k3⟩
    rw [k_sq_nx, v_seq]
    simp_arith [Ly.v_fld, Ly.v_meth, Ly.k_me2, Ly.v_make, Ly.k_mk, Ly.v_fldset, Ly.k_fs, Ly.v_fldaug, Ly.k_fa2, Ly.look1, List.mem_cons, List.not_mem_nil, or_false, true_or, or_true, oEq_int, is_next, -v_seq]
    by_cases h3 : (t : Int) = 3
    · simp_arith [Ly.v_fld, Ly.v_meth, Ly.k_me2, Ly.v_make, Ly.k_mk, Ly.v_fldset, Ly.k_fs, Ly.v_fldaug, Ly.k_fa2, Ly.look1, List.mem_cons, List.not_mem_nil, or_false, true_or, or_true, h3, -v_seq]
      rw [v_seq]
      simp_arith [Ly.v_fld, Ly.v_meth, Ly.k_me2, Ly.v_make, Ly.k_mk, Ly.v_fldset, Ly.k_fs, Ly.v_fldaug, Ly.k_fa2, Ly.look1, List.mem_cons, List.not_mem_nil, or_false, true_or, or_true, bLen_lst hq, is_next, -v_seq]
      refine nxG d' (by omega) fun x S2 hx d2 k2 => ?_
      have hq2 := k2.get hq (by simp; omega)
      simp_arith [Ly.v_fld, Ly.v_meth, Ly.k_me2, Ly.v_make, Ly.k_mk, Ly.v_fldset, Ly.k_fs, Ly.v_fldaug, Ly.k_fa2, Ly.look1, List.mem_cons, List.not_mem_nil, or_false, true_or, or_true, show oNeg (.int 1) S2 = .ok (.int (-1)) S2 from rfl, is_next, -v_seq]
      refine nxG d2.new (by decide) fun y S3 hy d3 k3 => ?_
      have hi2 := d2.lt
      have hz : S3[S2.length]? = some (.lst (oddsL ++ [tuN []])) := k3.get (i := S2.length) (by simp [oddsL]) (by simp; omega)
      have hq3 : S3[S.length]? = some (.lst ds) := k3.get (Kp.get (A := []) Kp.new hq2 (by simp)) (by simp; omega)
      obtain ⟨e, he, hme⟩ := ten_mf y (by omega)
      have hxl : x < ds.length := by omega
      simp_arith [Ly.v_fld, Ly.v_meth, Ly.k_me2, Ly.v_make, Ly.k_mk, Ly.v_fldset, Ly.k_fs, Ly.v_fldaug, Ly.k_fa2, Ly.look1, List.mem_cons, List.not_mem_nil, or_false, true_or, or_true, oIx_lst hz (Int.natCast_nonneg y) (by simp [oddsL]; omega) he, setLG hq3 hxl, -v_seq]
      refine fin _ (ds.set x e) _ (get_put hq3) ?_ (by simp; omega) (d3.kp (A := [S.length]) (Kp.set (by simp)) (by simp; omega) (by simp; omega)) ((K'.trans (k2.trans (Kp.new.trans k3))).setNew (Nat.le_refl _))
      intro d hd
      rcases List.mem_or_eq_of_mem_set hd with h | h
      · exact hds d h
      · rw [h]; exact hme
    · simp_arith [Ly.v_fld, Ly.v_meth, Ly.k_me2, Ly.v_make, Ly.k_mk, Ly.v_fldset, Ly.k_fs, Ly.v_fldaug, Ly.k_fa2, Ly.look1, List.mem_cons, List.not_mem_nil, or_false, true_or, or_true, h3, -v_seq]
      exact fin _ ds _ hq hds (by omega) d' K'
end
end GK64
set_option Elab.async false
set_option linter.all false
set_option maxRecDepth 100000
namespace GK64
open PySem L2 Ly
open PySem.Spec hiding Row
open PyProof.Rows hiding St
local macro_rules | `(tactic| simp_arith [$ls,*]) => `(tactic| simp only [Ly.line_le, Ly.atX_no, Ly.v_ok, Ly.v_bad, Ly.v_bind, Ly.k_bd, Ly.v_at, Ly.v_bin, Ly.k_bi, Ly.k_bi2, Ly.v_var, Ly.v_c, Ly.v_un, Ly.k_un, Ly.v_if, Ly.k_ife, Ly.v_and, Ly.k_and, Ly.k_and2, Ly.v_or, Ly.k_or, Ly.k_or2, Ly.v_tup, Ly.k_tup, Ly.v_lst, Ly.k_lst, Ly.v_call, Ly.k_ca, Ly.v_fn, Ly.k_fn, Ly.v_bm, Ly.k_bm, Ly.k_bm2, Ly.v_sl, Ly.k_sl, Ly.k_sl2, Ly.k_sl3, Ly.v_ixK, Ly.k_ixk, Ly.v_inK, Ly.k_ink, Ly.v_notinK, Ly.k_nink, Ly.v_getK2, Ly.k_gk2, Ly.k_gk, Ly.v_get2, Ly.k_g2, Ly.k_g22, Ly.k_g23, Ly.v_nil, Ly.v_cons, Ly.k_co, Ly.k_co2, Ly.v_no, Ly.v_some, Ly.k_so, Ly.k_cm, Ly.v_cmp, Ly.v_tru, Ly.k_tr, Ly.v_notB, Ly.k_no, Ly.v_andB, Ly.k_an, Ly.v_orB, Ly.k_orb, Ly.v_yes, Ly.v_inKB, Ly.k_inkB, Ly.v_notinKB, Ly.k_ninkB, Ly.v_set, Ly.k_st, Ly.v_expr, Ly.k_ex, Ly.v_ret, Ly.k_re, Ly.v_retN, Ly.v_pass, Ly.v_brk, Ly.v_cnt, Ly.v_seq, Ly.k_sq_nx, Ly.k_sq_rt, Ly.k_sq_bk, Ly.k_sq_ct, Ly.v_ifS, Ly.k_ifs, Ly.v_asg, Ly.k_as, Ly.k_as2, Ly.v_aug, Ly.k_au, Ly.v_for, Ly.k_fo, Ly.v_it, Ly.k_it, Ly.k_ij, Ly.v_rng1, Ly.v_rng2, Ly.v_enum, Ly.v_zip, Ly.v_ez, Ly.v_gN, Ly.v_gsN, Ly.v_gsC, Ly.k_gc, Ly.v_gT, Ly.v_gTw, Ly.v_gSb, Ly.k_gsb, Ly.k_gsb2, Ly.k_gsb3, Ly.k_en_rt, Ly.k_en_nx, Ly.k_tu_nx, Ly.k_tu_ct, Ly.k_tu_bk, Ly.k_tu_rt, Ly.v_lc, Ly.k_lc, Ly.v_augI, Ly.k_ag, Ly.k_ag2, Ly.k_ag3, Ly.k_ag4, Ly.k_ag5, Ly.v_del, Ly.k_dl, Ly.k_dl2, Ly.v_setd, Ly.v_pop2, Ly.k_d3, Ly.k_d32, Ly.k_d33, Ly.v_get1, Ly.k_g1, Ly.k_g12, Ly.v_rg1, Ly.k_rg, Ly.v_rg2, Ly.k_rg2, Ly.k_rg22, Ly.v_dicK, Ly.v_dicT, Ly.v_dc, Ly.k_dc, List.getElem?_cons_zero, List.getElem?_cons_succ, List.set_cons_zero, List.set_cons_succ, List.length_cons, List.length_nil, List.map_cons, List.map_nil, List.cons_append, List.nil_append, List.replicate, if_true, if_false, Bool.false_eq_true, Bool.not_true, Bool.not_false, Bool.true_and, Bool.false_and, decide_true, decide_false, decide_eq_true_eq, Nat.zero_add, Nat.reduceAdd, Nat.reduceLeDiff, true_and, and_true, $ls,*])
section
variable {S S' : Hs} {rs : List Rg} {rows : List MRow} {d : D} {p : List Nat} {ms : List (List Nat)}
theorem nat_dtG {n m : Nat} {L : List Nat} (h : L.length ≤ m) : Dt m (n + 1) (tuN L) := .tup (by rw [List.length_map]; exact h) fun x hx => by
  obtain ⟨a, _, rfl⟩ := List.mem_map.mp hx; exact .int _
theorem mf_dt (h : Mf d) : Dt 1000 2 d := by
  cases h with
  | nats h => exact nat_dtG (by have := h.len; omega)
  | odd h =>
    have s1 : PyData.strOk "1" = true := by decide +kernel
    simp only [oddsL, List.mem_cons, List.not_mem_nil, or_false] at h
    rcases h with rfl | rfl | rfl | rfl | rfl | rfl | rfl | rfl | rfl
    · exact .non
    · exact .tup (by decide) fun x hx => by simp at hx; subst hx; exact .int _
    · exact .tup (by decide) fun x hx => by simp at hx; rcases hx with rfl | rfl <;> exact .int _
    · exact .tup (by decide) fun x hx => by simp at hx; subst hx; exact .int _
    · exact .tup (by decide) fun x hx => by simp at hx; subst hx; exact .int _
    · exact .tup (by decide) fun x hx => by simp at hx; subst hx; exact .bl _
    · exact .str s1
    · exact .tup (by decide) fun x hx => by simp at hx; subst hx; exact .str s1
    · exact .tup (by decide) fun x hx => by simp at hx; subst hx; exact .tup (by decide) fun x hx => by cases hx
theorem pap_dt {ds : List D} (h : ∀ d ∈ ds, Mf d) (hl : ds.length ≤ 1000) : Dt 1000 3 (.tup ds) := .tup hl fun x hx => mf_dt (h x hx)
theorem ms_mf (h : ∀ m ∈ ms, Mb m) : ∀ d ∈ ms.map tuN, Mf d := fun d hd => by
  obtain ⟨m, hm, rfl⟩ := List.mem_map.mp hd
  exact .nats (h m hm)
theorem ne_paps (ms : List (List Nat)) : oNe (.tup (ms.map tuN)) (.tup (ms.map tuN)) S = .ok (.bl false) S := by
  have h1 : noBs (ms.map tuN) = true := noBs_mem fun d hd => by
    obtain ⟨m, _, rfl⟩ := List.mem_map.mp hd
    simp only [noB]; exact noBs_nats
  have h2 : PyData.depthAll (D.toPs (ms.map tuN)) ≤ 30 := (plains_of fun d hd => by
    obtain ⟨m, _, rfl⟩ := List.mem_map.mp hd
    exact nats_mf m).2
  obtain ⟨b, e1, e2⟩ := oNe_tups (S := S) h1 h1 h2 h2
  rw [e1, e2.mpr rfl]
theorem row_law {i j k : Nat} (c0 : CodeG rs rows) (d0 : DrG S i j) (hk : k < rows.length) {x : D} {o5 o6 o7 o8 o9 o10 : Option D} :
    Wp NoX (lb_law_0 [some x, some (.ref i), some (codeD rs rows), some (.tup (ms.map tuN)), some (nD k), o5, o6, o7, o8, o9, o10] S) fun f S' => (∃ o5, f = .nx [some x, some (.ref i), some (codeD rs rows), some (.tup (ms.map tuN)), some (nD k), o5, o6, o7, o8, o9, o10]) ∧ DrG S' i j ∧ Kp [i] S S' := by
  have hrow : rows[k]? = some (rows.getD k (.stop 0)) := by simp [List.getD, List.getElem?_eq_getElem hk]
  have hwr : ∀ x, (rows.getD k (.stop 0)).wr? = some x → x < 16 := fun x e => wr_lt (c0.ok.ok _ (List.mem_of_getElem? hrow)) e
  have hfew := c0.few
  unfold lb_law_0
  rw [v_seq]
  simp_arith [Ly.v_fld, Ly.v_meth, Ly.k_me2, Ly.v_make, Ly.k_mk, Ly.v_fldset, Ly.k_fs, Ly.v_fldaug, Ly.k_fa2, Ly.look1, List.mem_cons, List.not_mem_nil, or_false, true_or, or_true, rg16G, wipe1, is_next, -v_seq]
  refine lc16D d0 (by simp) (fun y hy S2 d2 k2 => ?_) (fun p S2 hp hp2 d2 k2 => ?_)
  · simp_arith [Ly.v_fld, Ly.v_meth, Ly.k_me2, Ly.v_make, Ly.k_mk, Ly.v_fldset, Ly.k_fs, Ly.v_fldaug, Ly.k_fa2, Ly.look1, List.mem_cons, List.not_mem_nil, or_false, true_or, or_true, is_next]
    refine nxG d2 (by decide) fun x S3 hx d3 k3 => ?_
    simp_arith [Ly.v_fld, Ly.v_meth, Ly.k_me2, Ly.v_make, Ly.k_mk, Ly.v_fldset, Ly.k_fs, Ly.v_fldaug, Ly.k_fa2, Ly.look1, List.mem_cons, List.not_mem_nil, or_false, true_or, or_true, oEq_int]
    exact ⟨d3, k3⟩
  · simp_arith [Ly.v_fld, Ly.v_meth, Ly.k_me2, Ly.v_make, Ly.k_mk, Ly.v_fldset, Ly.k_fs, Ly.v_fldaug, Ly.k_fa2, Ly.look1, List.mem_cons, List.not_mem_nil, or_false, true_or, or_true, bTuple_lst hp2, is_pb]
    refine Wp.call (behind_J c0.ok.cg (by omega) hrow hwr hp) ?_
    rintro _ S3 ⟨rfl, k3⟩
    simp_arith [Ly.v_fld, Ly.v_meth, Ly.k_me2, Ly.v_make, Ly.k_mk, Ly.v_fldset, Ly.k_fs, Ly.v_fldaug, Ly.k_fa2, Ly.look1, List.mem_cons, List.not_mem_nil, or_false, true_or, or_true, is_lb]
    refine Wp.call (behind_G (by omega) c0.lab hrow (.inl rfl)) ?_
    rintro _ S4 ⟨q4, rfl, h4, _, k4⟩
    simp_arith [Ly.v_fld, Ly.v_meth, Ly.k_me2, Ly.v_make, Ly.k_mk, Ly.v_fldset, Ly.k_fs, Ly.v_fldaug, Ly.k_fa2, Ly.look1, List.mem_cons, List.not_mem_nil, or_false, true_or, or_true, bTuple_lst h4, oNe_nats2, decide_true, Bool.not_true, is_ways]
    refine Wp.call (ways_J (rs := rs) hrow) ?_
    rintro _ S5 ⟨rfl, k5⟩
    simp_arith [Ly.v_fld, Ly.v_meth, Ly.k_me2, Ly.v_make, Ly.k_mk, Ly.v_fldset, Ly.k_fs, Ly.v_fldaug, Ly.k_fa2, Ly.look1, List.mem_cons, List.not_mem_nil, or_false, true_or, or_true, is_lw]
    refine Wp.call (ways_G (rs := rs) hrow) ?_
    rintro _ S6 ⟨q6, rfl, h6, _, k6⟩
    simp_arith [Ly.v_fld, Ly.v_meth, Ly.k_me2, Ly.v_make, Ly.k_mk, Ly.v_fldset, Ly.k_fs, Ly.v_fldaug, Ly.k_fa2, Ly.look1, List.mem_cons, List.not_mem_nil, or_false, true_or, or_true, bTuple_lst h6, oNe_nats2, decide_true, Bool.not_true]
    have kk : Kp [] S2 S6 := ((k3.trans k4).trans k5).trans k6
    exact ⟨⟨_, rfl⟩, d2.kp0 kk, k2.trans (kk.sub (by simp))⟩
theorem paper_law {i j : Nat} (c0 : CodeG rs rows) (d0 : DrG S i j) (hms : ms = gmIt (ars rs rows) 400 (gm0 rows.length)) {x : D} {o4 o5 o6 o7 o8 o9 o10 : Option D} :
    Wp NoX (lb_law_1 [some x, some (.ref i), some (codeD rs rows), some (.tup (ms.map tuN)), o4, o5, o6, o7, o8, o9, o10] S) fun f S' => (∃ o7 o8, f = .nx [some x, some (.ref i), some (codeD rs rows), some (.tup (ms.map tuN)), o4, o5, o6, o7, o8, o9, o10]) ∧ DrG S' i j ∧ Kp [i] S S' := by
  have A := asOk c0.ok
  have hsh := c0.short
  have hne := c0.ok.ne
  have hfew := c0.few
  have hst : GmSt (ars rs rows) ms := by rw [hms, ← ars_len (rs := rs)]; exact gmIt_st A gm0_st 400
  have hml : ms.length = rows.length := by rw [hst.len, ars_len]
  unfold lb_law_1
  rw [v_seq]
  simp_arith [Ly.v_fld, Ly.v_meth, Ly.k_me2, Ly.v_make, Ly.k_mk, Ly.v_fldset, Ly.k_fs, Ly.v_fldaug, Ly.k_fa2, Ly.look1, List.mem_cons, List.not_mem_nil, or_false, true_or, or_true, -v_seq]
  refine Wp.call (paper_ok d0 hst.mb (by omega) (by omega)) ?_
  rintro _ S1 ⟨⟨ds, rfl, hds, hdl⟩, d1, k1⟩
  simp_arith [Ly.v_fld, Ly.v_meth, Ly.k_me2, Ly.v_make, Ly.k_mk, Ly.v_fldset, Ly.k_fs, Ly.v_fldaug, Ly.k_fa2, Ly.look1, List.mem_cons, List.not_mem_nil, or_false, true_or, or_true, -v_seq]
  rw [v_seq]
  simp_arith [Ly.v_fld, Ly.v_meth, Ly.k_me2, Ly.v_make, Ly.k_mk, Ly.v_fldset, Ly.k_fs, Ly.v_fldaug, Ly.k_fa2, Ly.look1, List.mem_cons, List.not_mem_nil, or_false, true_or, or_true, is_holds, -v_seq]
  refine Wp.call (holds_G c0.ok (by omega) (pap_dt hds hdl)) ?_
  rintro _ S2 ⟨rfl, k2⟩
  generalize hb : phB (ars rs rows) rows.length (.tup ds) = b
  simp_arith [Ly.v_fld, Ly.v_meth, Ly.k_me2, Ly.v_make, Ly.k_mk, Ly.v_fldset, Ly.k_fs, Ly.v_fldaug, Ly.k_fa2, Ly.look1, List.mem_cons, List.not_mem_nil, or_false, true_or, or_true, -v_seq]
  rw [v_seq]
  simp_arith [Ly.v_fld, Ly.v_meth, Ly.k_me2, Ly.v_make, Ly.k_mk, Ly.v_fldset, Ly.k_fs, Ly.v_fldaug, Ly.k_fa2, Ly.look1, List.mem_cons, List.not_mem_nil, or_false, true_or, or_true, show ∀ b S, oIsi "bool" (.bl b) S = .ok (.bl true) S from fun _ _ => rfl, oTru_bl, -v_seq]
  refine Wp.call (law_holds_ok c0 hds hdl) ?_
  rintro _ S3 ⟨rfl, k3⟩
  rw [hb]
  have eb : oNe (.bl b) (.bl b) S3 = .ok (.bl false) S3 := by cases b <;> rfl
  have k23 : Kp [] S1 S3 := k2.trans k3
  have d3 := d1.kp0 k23
  have K3 : Kp [i] S S3 := k1.trans (k23.sub (by simp))
  cases b with
  | false =>
    simp_arith [Ly.v_fld, Ly.v_meth, Ly.k_me2, Ly.v_make, Ly.k_mk, Ly.v_fldset, Ly.k_fs, Ly.v_fldaug, Ly.k_fa2, Ly.look1, List.mem_cons, List.not_mem_nil, or_false, true_or, or_true, eb, oTru_bl]
    exact ⟨⟨_, _, rfl⟩, d3, K3⟩
  | true =>
    simp_arith [Ly.v_fld, Ly.v_meth, Ly.k_me2, Ly.v_make, Ly.k_mk, Ly.v_fldset, Ly.k_fs, Ly.v_fldaug, Ly.k_fa2, Ly.look1, List.mem_cons, List.not_mem_nil, or_false, true_or, or_true, eb, oTru_bl, -v_lc]
    cases hp : papOf rows.length (.tup ds) with
    | none => rw [phB_none hp] at hb; cases hb
    | some hs =>
      rw [phB_some hp] at hb
      obtain ⟨e1, hmb, hhl⟩ := papOf_spec hp
      injection e1 with e1
      subst e1
      have H : HoldM (ars rs rows) hs := ⟨⟨by rw [ars_len]; exact hhl, hmb⟩, hb⟩
      have hsub : Sub hs ms := by
        rw [hms, ← ars_len (rs := rs)]
        exact gmIt_sub A H gm0_st (gm0_sub H.st) 400
      have exM : ∀ (L : List (List Nat)) (k : Nat), k < L.length → ∀ S, oIx (.tup (L.map tuN)) (nD k) S = .ok (tuN (L.getD k [])) S := fun L k hk S => oIx_tup (by rw [List.getElem?_map, List.getElem?_eq_getElem hk]; simp [List.getD, List.getElem?_eq_getElem hk])
      simp_arith [Ly.v_fld, Ly.v_meth, Ly.k_me2, Ly.v_make, Ly.k_mk, Ly.v_fldset, Ly.k_fs, Ly.v_fldaug, Ly.k_fa2, Ly.look1, List.mem_cons, List.not_mem_nil, or_false, true_or, or_true, bLen_tup, List.length_map, show oRng1 [.int (hs.length : Int)] S3 = _ from rng1 _ (by omega) (by omega), Int.toNat_natCast, wipe1]
      refine lc_pure nD (S := S3) (xs := List.range hs.length) (fun _ => none) (fun S' _ j hj => rngG (by simpa using hj)) (by simp; omega) (fun y hy S4 k4 => ?_) (fun S4 h4 k4 => ?_)
      · have hy2 : y < hs.length := by simpa using hy
        have hmy : Mb (hs.getD y []) := H.st.get (by rw [ars_len]; omega)
        refine ⟨_, rfl, ?_⟩
        simp_arith [Ly.v_fld, Ly.v_meth, Ly.k_me2, Ly.v_make, Ly.k_mk, Ly.v_fldset, Ly.k_fs, Ly.v_fldaug, Ly.k_fa2, Ly.look1, List.mem_cons, List.not_mem_nil, or_false, true_or, or_true, exM hs y hy2, oIt, wipe1]
        refine lc_tupN (fun a => !decide (a ∈ ms.getD y [])) (by simp) (by have := hmy.len; omega) (fun z hz S5 k5 => ?_) (fun S5 h5 k5 => ?_)
        · simp_arith [Ly.v_fld, Ly.v_meth, Ly.k_me2, Ly.v_make, Ly.k_mk, Ly.v_fldset, Ly.k_fs, Ly.v_fldaug, Ly.k_fa2, Ly.look1, List.mem_cons, List.not_mem_nil, or_false, true_or, or_true, exM ms y (by omega), notin_nats]
        · have hnil : (hs.getD y []).filter (fun a => !decide (a ∈ ms.getD y [])) = [] := by
            rw [List.filter_eq_nil_iff]
            intro a ha
            rw [decide_eq_true (hsub y a ha)]; decide
          rw [hnil] at h5
          have q1 := Kp.get (A := []) (Kp.new (g := [O.lst []])) h5 (by simp)
          have q2 : (S5 ++ [O.lst []])[S5.length]? = some (.lst []) := get_end
          simp_arith [Ly.v_fld, Ly.v_meth, Ly.k_me2, Ly.v_make, Ly.k_mk, Ly.v_fldset, Ly.k_fs, Ly.v_fldaug, Ly.k_fa2, Ly.look1, List.mem_cons, List.not_mem_nil, or_false, true_or, or_true, ne_nilN (L := []) q1 q2]
          exact ⟨k5.app, by simp⟩
      · have h5 : S4[S3.length]? = some (.lst (nDs [])) := by
          rw [h4]
          congr 2
          exact List.filterMap_eq_nil_iff.mpr fun a _ => rfl
        have q1 := Kp.get (A := []) (Kp.new (g := [O.lst []])) h5 (by simp)
        have q2 : (S4 ++ [O.lst []])[S4.length]? = some (.lst []) := get_end
        simp_arith [Ly.v_fld, Ly.v_meth, Ly.k_me2, Ly.v_make, Ly.k_mk, Ly.v_fldset, Ly.k_fs, Ly.v_fldaug, Ly.k_fa2, Ly.look1, List.mem_cons, List.not_mem_nil, or_false, true_or, or_true, ne_nilN (L := []) q1 q2]
        have kk : Kp [] S3 (S4 ++ [O.lst []]) := k4.app
        exact ⟨⟨_, _, rfl⟩, d3.kp0 kk, K3.trans (kk.sub (by simp))⟩
theorem law_true : LawTrue m_law := by
  intro ns x S hn _ _ _ _ hx _
  have main : Wp NoX (m_law [x] S) fun v S' => v = .bl true := by
    refine wp_def0 rfl ?_
    unfold b_law
    rw [v_seq, v_set, is_draws]
    refine start_G hx hn rfl fun i j S1 d1 k1 => ?_
    simp_arith [Ly.v_fld, Ly.v_meth, Ly.k_me2, Ly.v_make, Ly.k_mk, Ly.v_fldset, Ly.k_fs, Ly.v_fldaug, Ly.k_fa2, Ly.look1, List.mem_cons, List.not_mem_nil, or_false, true_or, or_true, -v_seq]
    rw [v_seq]
    simp_arith [Ly.v_fld, Ly.v_meth, Ly.k_me2, Ly.v_make, Ly.k_mk, Ly.v_fldset, Ly.k_fs, Ly.v_fldaug, Ly.k_fa2, Ly.look1, List.mem_cons, List.not_mem_nil, or_false, true_or, or_true, is_code, -v_seq]
    refine Wp.call (code_G d1) ?_
    rintro _ S2 ⟨⟨rs, rows, rfl, c0⟩, d2, k2⟩
    have A := asOk c0.ok
    have hsh := c0.short
    have hne := c0.ok.ne
    have hfew := c0.few
    simp_arith [Ly.v_fld, Ly.v_meth, Ly.k_me2, Ly.v_make, Ly.k_mk, Ly.v_fldset, Ly.k_fs, Ly.v_fldaug, Ly.k_fa2, Ly.look1, List.mem_cons, List.not_mem_nil, or_false, true_or, or_true, -v_seq]
    rw [v_seq]
    simp_arith [Ly.v_fld, Ly.v_meth, Ly.k_me2, Ly.v_make, Ly.k_mk, Ly.v_fldset, Ly.k_fs, Ly.v_fldaug, Ly.k_fa2, Ly.look1, List.mem_cons, List.not_mem_nil, or_false, true_or, or_true, is_gr, -v_seq]
    refine Wp.call (greatest_G c0) ?_
    rintro _ S3 ⟨rfl, k3⟩
    have d3 := d2.kp0 k3
    simp_arith [Ly.v_fld, Ly.v_meth, Ly.k_me2, Ly.v_make, Ly.k_mk, Ly.v_fldset, Ly.k_fs, Ly.v_fldaug, Ly.k_fa2, Ly.look1, List.mem_cons, List.not_mem_nil, or_false, true_or, or_true, -v_seq]
    rw [v_seq]
    simp_arith [Ly.v_fld, Ly.v_meth, Ly.k_me2, Ly.v_make, Ly.k_mk, Ly.v_fldset, Ly.k_fs, Ly.v_fldaug, Ly.k_fa2, Ly.look1, List.mem_cons, List.not_mem_nil, or_false, true_or, or_true, is_gp, -v_seq]
    refine Wp.call (greatest_J c0.ok (by omega) (by omega)) ?_
    rintro _ S4 ⟨⟨ms2, rfl, hst2, n2, hit⟩, k4⟩
    have d4 := d3.kp0 k4
    have hstab : gmTurn (ars rs rows) (gmIt (ars rs rows) 400 (gm0 (ars rs rows).length)) = gmIt (ars rs rows) 400 (gm0 (ars rs rows).length) := gm_stable (by
      have := sum_mb (gm0_st (as := ars rs rows)).mb
      have e : (gm0 (ars rs rows).length).length = rows.length := by simp [gm0, ars_len]
      omega)
    have hit' : gpIt (ars rs rows) n2 (gp0 (ars rs rows).length) = (ms2, []) := by rw [ars_len]; exact hit
    have hgm : gmIt (ars rs rows) 400 (gm0 rows.length) = ms2 := by
      have := gm_gp A hit' hstab
      rwa [ars_len] at this
    have hst : GmSt (ars rs rows) ms2 := ⟨hst2.len, hst2.mb⟩
    have hml : ms2.length = rows.length := by rw [hst.len, ars_len]
    have hhold : holdsN (ars rs rows) ms2 = true := by
      rw [ars_len] at hstab
      rw [hgm] at hstab
      exact gm_holds hst A hstab
    rw [hgm]
    simp_arith [Ly.v_fld, Ly.v_meth, Ly.k_me2, Ly.v_make, Ly.k_mk, Ly.v_fldset, Ly.k_fs, Ly.v_fldaug, Ly.k_fa2, Ly.look1, List.mem_cons, List.not_mem_nil, or_false, true_or, or_true, ne_paps, is_holds, -v_seq]
    refine Wp.call (holds_G c0.ok (by omega) (pap_dt (ms_mf hst.mb) (by rw [List.length_map]; omega))) ?_
    rintro _ S5 ⟨rfl, k5⟩
    have d5 := d4.kp0 k5
    rw [phB_some (papOf_map hst.mb hml)]
    simp_arith [Ly.v_fld, Ly.v_meth, Ly.k_me2, Ly.v_make, Ly.k_mk, Ly.v_fldset, Ly.k_fs, Ly.v_fldaug, Ly.k_fa2, Ly.look1, List.mem_cons, List.not_mem_nil, or_false, true_or, or_true, hhold, show ∀ S, oIsNot (.bl true) (.bl true) S = .ok (.bl false) S from fun _ => rfl, -v_seq]
    rw [v_seq]
    simp_arith [Ly.v_fld, Ly.v_meth, Ly.k_me2, Ly.v_make, Ly.k_mk, Ly.v_fldset, Ly.k_fs, Ly.v_fldaug, Ly.k_fa2, Ly.look1, List.mem_cons, List.not_mem_nil, or_false, true_or, or_true, codeD, tix1, bLen_tup, List.length_map, show oRng1 [.int (rows.length : Int)] S5 = _ from rng1 _ (by omega) (by omega), Int.toNat_natCast, -v_seq]
    refine wp_rng (fun k l S' => (∃ o4 o5, l = [some x, some (.ref i), some (codeD rs rows), some (.tup (ms2.map tuN)), o4, o5, none, none, none, none, none]) ∧ DrG S' i j) ⟨⟨_, _, rfl⟩, d5⟩ ?_ ?_
    · rintro k l S' hk ⟨⟨o4, o5, rfl⟩, d'⟩
      rw [v_gN, show (0 : Int) + (k : Int) = (k : Int) by omega]
      refine Wp.call (row_law (ms := ms2) c0 d' hk) ?_
      rintro f S6 ⟨⟨o5, rfl⟩, d6, _⟩
      exact ⟨⟨_, _, rfl⟩, d6⟩
    rintro l S6 ⟨⟨o4, o5, rfl⟩, d6⟩
    rw [k_sq_nx, v_seq]
    simp_arith [Ly.v_fld, Ly.v_meth, Ly.k_me2, Ly.v_make, Ly.k_mk, Ly.v_fldset, Ly.k_fs, Ly.v_fldaug, Ly.k_fa2, Ly.look1, List.mem_cons, List.not_mem_nil, or_false, true_or, or_true, show oRng1 [.int 6] S6 = .ok (.rng 0 6) S6 from rng1 (n := 6) S6 (by decide) (by decide), -v_seq]
    refine wp_rng (fun k l S' => (∃ o6 o7 o8, l = [some x, some (.ref i), some (codeD rs rows), some (.tup (ms2.map tuN)), o4, o5, o6, o7, o8, none, none]) ∧ DrG S' i j) ⟨⟨_, _, _, rfl⟩, d6⟩ ?_ ?_
    · rintro k l S' hk ⟨⟨o6, o7, o8, rfl⟩, d'⟩
      rw [v_gN]
      refine Wp.call (paper_law c0 d' hgm.symm) ?_
      rintro f S7 ⟨⟨o7, o8, rfl⟩, d7, _⟩
      exact ⟨⟨_, _, _, rfl⟩, d7⟩
    rintro l S7 ⟨⟨o6, o7, o8, rfl⟩, d7⟩
    rw [k_sq_nx, v_seq]
    have hcat : oAdd (.tup (ms2.map tuN)) (.tup [.tup []]) S7 = .ok (.tup ((ms2 ++ [[]]).map tuN)) S7 := by
      simp only [oAdd, List.map_append, List.map_cons, List.map_nil]
      rw [if_pos (by simp; exact line_le (by omega))]
      rfl
    simp_arith [Ly.v_fld, Ly.v_meth, Ly.k_me2, Ly.v_make, Ly.k_mk, Ly.v_fldset, Ly.k_fs, Ly.v_fldaug, Ly.k_fa2, Ly.look1, List.mem_cons, List.not_mem_nil, or_false, true_or, or_true, hcat, -v_seq]
    have hz : (S7 ++ [O.lst [.non, .tup [], .str "paper", .int 3, .bl true, .tup ((ms2 ++ [[]]).map tuN)]])[S7.length]? = some (.lst [.non, .tup [], .str "paper", .int 3, .bl true, .tup ((ms2 ++ [[]]).map tuN)]) := get_end
    rw [oIt_lst hz]
    simp_arith [Ly.v_fld, Ly.v_meth, Ly.k_me2, Ly.v_make, Ly.k_mk, Ly.v_fldset, Ly.k_fs, Ly.v_fldaug, Ly.k_fa2, Ly.look1, List.mem_cons, List.not_mem_nil, or_false, true_or, or_true, -v_seq]
    generalize S7 ++ [O.lst [.non, .tup [], .str "paper", .int 3, .bl true, .tup ((ms2 ++ [[]]).map tuN)]] = S8 at *
    have hno : ∀ d ∈ ([.non, .tup [], .str "paper", .int 3, .bl true, .tup ((ms2 ++ [[]]).map tuN)] : List D), (∃ n, Dt 1000 n d) ∧ papOf rows.length d = none := by
      have s1 : PyData.strOk "paper" = true := by decide +kernel
      intro d hd
      simp only [List.mem_cons, List.not_mem_nil, or_false] at hd
      rcases hd with rfl | rfl | rfl | rfl | rfl | rfl
      · exact ⟨⟨0, .non⟩, rfl⟩
      · refine ⟨⟨1, .tup (by decide) fun x hx => by cases hx⟩, ?_⟩
        show (if ([] : List D).length = rows.length then _ else none) = _
        rw [if_neg (by simp; omega)]
      · exact ⟨⟨0, .str s1⟩, rfl⟩
      · exact ⟨⟨0, .int _⟩, rfl⟩
      · exact ⟨⟨0, .bl _⟩, rfl⟩
      · refine ⟨⟨3, pap_dt (ms_mf fun m hm => ?_) (by rw [List.length_map]; simp; omega)⟩, ?_⟩
        · rcases List.mem_append.mp hm with h | h
          · exact hst.mb m h
          · rw [List.mem_singleton.mp h]; exact ⟨List.Pairwise.nil, by simp⟩
        · show (if ((ms2 ++ [[]]).map tuN).length = rows.length then _ else none) = _
          rw [if_neg (by simp; omega)]
    refine wp_lst (fun pre l S' => (∃ o9, l = [some x, some (.ref i), some (codeD rs rows), some (.tup (ms2.map tuN)), o4, o5, o6, o7, o8, o9, none]) ∧ Kp [] S8 S') (fun pre l S' h => seqAt_lst (h.2.get hz (by simp))) ⟨⟨_, rfl⟩, Kp.refl⟩ ?_ ?_
    · rintro pre d post l S' hsp ⟨⟨o9, rfl⟩, K'⟩
      obtain ⟨⟨n, hdt⟩, hpn⟩ := hno d (by rw [hsp]; simp)
      unfold lb_law_2
      simp_arith [Ly.v_fld, Ly.v_meth, Ly.k_me2, Ly.v_make, Ly.k_mk, Ly.v_fldset, Ly.k_fs, Ly.v_fldaug, Ly.k_fa2, Ly.look1, List.mem_cons, List.not_mem_nil, or_false, true_or, or_true, is_holds]
      refine Wp.call (holds_G c0.ok (by omega) hdt) ?_
      rintro _ S9 ⟨rfl, k9⟩
      rw [phB_none hpn]
      simp_arith [Ly.v_fld, Ly.v_meth, Ly.k_me2, Ly.v_make, Ly.k_mk, Ly.v_fldset, Ly.k_fs, Ly.v_fldaug, Ly.k_fa2, Ly.look1, List.mem_cons, List.not_mem_nil, or_false, true_or, or_true, show ∀ S, oIsNot (.bl false) (.bl false) S = .ok (.bl false) S from fun _ => rfl]
      exact ⟨⟨_, rfl⟩, K'.trans k9⟩
    · rintro l S' ⟨⟨o9, rfl⟩, K'⟩
      simp_arith [Ly.v_fld, Ly.v_meth, Ly.k_me2, Ly.v_make, Ly.k_mk, Ly.v_fldset, Ly.k_fs, Ly.v_fldaug, Ly.k_fa2, Ly.look1, List.mem_cons, List.not_mem_nil, or_false, true_or, or_true]
  obtain ⟨v, S', e, rfl⟩ := main.ex
  exact ⟨S', e⟩
end
end GK64
set_option Elab.async false
set_option linter.all false
set_option maxRecDepth 100000
set_option maxHeartbeats 4000000
namespace GK64
open PySem PySem.Spec L2 Ly
open PyProof.Rows hiding St
theorem all_mk {l : PySem.W.OpenLaw} {w : World} {K : PySem.W.Frag} {h : Heap} {mg : Str → Option Value} {fa : Addr} (X : K.In h) (G : h.Ns mainGlobals mg) (hfa : mg "law" = some (.ref fa))
    {f__law_next : Addr} {od__law_next an__law_next : Option Addr} {sl__law_next : Array (Option Value)} {oc__law_next kV__law_next dc__law_next pm__law_next cd__law_next ct__law_next : Value} {f__law_regions : Addr} {od__law_regions an__law_regions : Option Addr} {sl__law_regions : Array (Option Value)} {oc__law_regions kV__law_regions dc__law_regions pm__law_regions cd__law_regions ct__law_regions : Value} {f__law_span : Addr} {od__law_span an__law_span : Option Addr} {sl__law_span : Array (Option Value)} {oc__law_span kV__law_span dc__law_span pm__law_span cd__law_span ct__law_span : Value} {f__law_row : Addr} {od__law_row an__law_row : Option Addr} {sl__law_row : Array (Option Value)} {oc__law_row kV__law_row dc__law_row pm__law_row cd__law_row ct__law_row : Value} {f__law_code : Addr} {od__law_code an__law_code : Option Addr} {sl__law_code : Array (Option Value)} {oc__law_code kV__law_code dc__law_code pm__law_code cd__law_code ct__law_code : Value} {f__law_region : Addr} {od__law_region an__law_region : Option Addr} {sl__law_region : Array (Option Value)} {oc__law_region kV__law_region dc__law_region pm__law_region cd__law_region ct__law_region : Value} {f__law_behind : Addr} {od__law_behind an__law_behind : Option Addr} {sl__law_behind : Array (Option Value)} {oc__law_behind kV__law_behind dc__law_behind pm__law_behind cd__law_behind ct__law_behind : Value} {f__law_ways : Addr} {od__law_ways an__law_ways : Option Addr} {sl__law_ways : Array (Option Value)} {oc__law_ways kV__law_ways dc__law_ways pm__law_ways cd__law_ways ct__law_ways : Value} {f__law_greatest : Addr} {od__law_greatest an__law_greatest : Option Addr} {sl__law_greatest : Array (Option Value)} {oc__law_greatest kV__law_greatest dc__law_greatest pm__law_greatest cd__law_greatest ct__law_greatest : Value} {f__law_draws : Addr} {od__law_draws an__law_draws : Option Addr} {sl__law_draws : Array (Option Value)} {oc__law_draws kV__law_draws dc__law_draws pm__law_draws cd__law_draws ct__law_draws : Value} {f__law_paper : Addr} {od__law_paper an__law_paper : Option Addr} {sl__law_paper : Array (Option Value)} {oc__law_paper kV__law_paper dc__law_paper pm__law_paper cd__law_paper ct__law_paper : Value} {f_is_number : Addr} {od_is_number an_is_number : Option Addr} {sl_is_number : Array (Option Value)} {oc_is_number kV_is_number dc_is_number pm_is_number cd_is_number ct_is_number : Value} {f_is_paper : Addr} {od_is_paper an_is_paper : Option Addr} {sl_is_paper : Array (Option Value)} {oc_is_paper kV_is_paper dc_is_paper pm_is_paper cd_is_paper ct_is_paper : Value} {f_ways : Addr} {od_ways an_ways : Option Addr} {sl_ways : Array (Option Value)} {oc_ways kV_ways dc_ways pm_ways cd_ways ct_ways : Value} {f_writes : Addr} {od_writes an_writes : Option Addr} {sl_writes : Array (Option Value)} {oc_writes kV_writes dc_writes pm_writes cd_writes ct_writes : Value} {f_reads : Addr} {od_reads an_reads : Option Addr} {sl_reads : Array (Option Value)} {oc_reads kV_reads dc_reads pm_reads cd_reads ct_reads : Value} {f_region_of : Addr} {od_region_of an_region_of : Option Addr} {sl_region_of : Array (Option Value)} {oc_region_of kV_region_of dc_region_of pm_region_of cd_region_of ct_region_of : Value} {f__makes_public : Addr} {od__makes_public an__makes_public : Option Addr} {sl__makes_public : Array (Option Value)} {oc__makes_public kV__makes_public dc__makes_public pm__makes_public cd__makes_public ct__makes_public : Value} {f_public_behind : Addr} {od_public_behind an_public_behind : Option Addr} {sl_public_behind : Array (Option Value)} {oc_public_behind kV_public_behind dc_public_behind pm_public_behind cd_public_behind ct_public_behind : Value} {f_holds : Addr} {od_holds an_holds : Option Addr} {sl_holds : Array (Option Value)} {oc_holds kV_holds dc_holds pm_holds cd_holds ct_holds : Value} {f_greatest_paper : Addr} {od_greatest_paper an_greatest_paper : Option Addr} {sl_greatest_paper : Array (Option Value)} {oc_greatest_paper kV_greatest_paper dc_greatest_paper pm_greatest_paper cd_greatest_paper ct_greatest_paper : Value} {f__law_is_member : Addr} {od__law_is_member an__law_is_member : Option Addr} {sl__law_is_member : Array (Option Value)} {oc__law_is_member kV__law_is_member dc__law_is_member pm__law_is_member cd__law_is_member ct__law_is_member : Value} {f__law_holds : Addr} {od__law_holds an__law_holds : Option Addr} {sl__law_holds : Array (Option Value)} {oc__law_holds kV__law_holds dc__law_holds pm__law_holds cd__law_holds ct__law_holds : Value} {f_law : Addr} {od_law an_law : Option Addr} {sl_law : Array (Option Value)} {oc_law kV_law dc_law pm_law cd_law ct_law : Value} {u_REGISTERS : Value} {ad_CODE_FORMS : Addr} {n_CODE_FORMS : Nat} {es_CODE_FORMS : Array DictEntry} {ad_CODE_FORMS_0 : Addr} {oad_CODE_FORMS_0 : Option Addr} {nad_CODE_FORMS_0 : Nat} {sad_CODE_FORMS_0 : Array (Option Value)} {iad_CODE_FORMS_0 : Array Value} {ad_CODE_FORMS_1 : Addr} {oad_CODE_FORMS_1 : Option Addr} {nad_CODE_FORMS_1 : Nat} {sad_CODE_FORMS_1 : Array (Option Value)} {iad_CODE_FORMS_1 : Array Value} {ad_CODE_FORMS_2 : Addr} {oad_CODE_FORMS_2 : Option Addr} {nad_CODE_FORMS_2 : Nat} {sad_CODE_FORMS_2 : Array (Option Value)} {iad_CODE_FORMS_2 : Array Value} {ad_CODE_FORMS_3 : Addr} {oad_CODE_FORMS_3 : Option Addr} {nad_CODE_FORMS_3 : Nat} {sad_CODE_FORMS_3 : Array (Option Value)} {iad_CODE_FORMS_3 : Array Value} {ad_CODE_FORMS_4 : Addr} {oad_CODE_FORMS_4 : Option Addr} {nad_CODE_FORMS_4 : Nat} {sad_CODE_FORMS_4 : Array (Option Value)} {iad_CODE_FORMS_4 : Array Value} {ad_CODE_FORMS_5 : Addr} {oad_CODE_FORMS_5 : Option Addr} {nad_CODE_FORMS_5 : Nat} {sad_CODE_FORMS_5 : Array (Option Value)} {iad_CODE_FORMS_5 : Array Value} {ad_CODE_FORMS_6 : Addr} {oad_CODE_FORMS_6 : Option Addr} {nad_CODE_FORMS_6 : Nat} {sad_CODE_FORMS_6 : Array (Option Value)} {iad_CODE_FORMS_6 : Array Value} {ad_CODE_FORMS_7 : Addr} {oad_CODE_FORMS_7 : Option Addr} {nad_CODE_FORMS_7 : Nat} {sad_CODE_FORMS_7 : Array (Option Value)} {iad_CODE_FORMS_7 : Array Value} {ad_CODE_FORMS_8 : Addr} {oad_CODE_FORMS_8 : Option Addr} {nad_CODE_FORMS_8 : Nat} {sad_CODE_FORMS_8 : Array (Option Value)} {iad_CODE_FORMS_8 : Array Value}
    (a__law_next : PySem.W.nsIn K mainGlobals "_law_next" = some (some (.ref f__law_next)))
    (l__law_next : K.lookup f__law_next = some ⟨oc__law_next, od__law_next, .func (PySem.W.fnOf "_law_next" "_law_next" (defArgs s__law_next) (defBody s__law_next) (defScope s__law_next) .none kV__law_next dc__law_next pm__law_next an__law_next cd__law_next ct__law_next), sl__law_next⟩)
    (c__law_next : PySem.W.codeIn K cd__law_next "_law_next" = true)
    (k__law_next : PySem.W.keepIn K (.ref f__law_next) = true)
    (a__law_regions : PySem.W.nsIn K mainGlobals "_law_regions" = some (some (.ref f__law_regions)))
    (l__law_regions : K.lookup f__law_regions = some ⟨oc__law_regions, od__law_regions, .func (PySem.W.fnOf "_law_regions" "_law_regions" (defArgs s__law_regions) (defBody s__law_regions) (defScope s__law_regions) .none kV__law_regions dc__law_regions pm__law_regions an__law_regions cd__law_regions ct__law_regions), sl__law_regions⟩)
    (c__law_regions : PySem.W.codeIn K cd__law_regions "_law_regions" = true)
    (k__law_regions : PySem.W.keepIn K (.ref f__law_regions) = true)
    (a__law_span : PySem.W.nsIn K mainGlobals "_law_span" = some (some (.ref f__law_span)))
    (l__law_span : K.lookup f__law_span = some ⟨oc__law_span, od__law_span, .func (PySem.W.fnOf "_law_span" "_law_span" (defArgs s__law_span) (defBody s__law_span) (defScope s__law_span) .none kV__law_span dc__law_span pm__law_span an__law_span cd__law_span ct__law_span), sl__law_span⟩)
    (c__law_span : PySem.W.codeIn K cd__law_span "_law_span" = true)
    (k__law_span : PySem.W.keepIn K (.ref f__law_span) = true)
    (a__law_row : PySem.W.nsIn K mainGlobals "_law_row" = some (some (.ref f__law_row)))
    (l__law_row : K.lookup f__law_row = some ⟨oc__law_row, od__law_row, .func (PySem.W.fnOf "_law_row" "_law_row" (defArgs s__law_row) (defBody s__law_row) (defScope s__law_row) .none kV__law_row dc__law_row pm__law_row an__law_row cd__law_row ct__law_row), sl__law_row⟩)
    (c__law_row : PySem.W.codeIn K cd__law_row "_law_row" = true)
    (k__law_row : PySem.W.keepIn K (.ref f__law_row) = true)
    (a__law_code : PySem.W.nsIn K mainGlobals "_law_code" = some (some (.ref f__law_code)))
    (l__law_code : K.lookup f__law_code = some ⟨oc__law_code, od__law_code, .func (PySem.W.fnOf "_law_code" "_law_code" (defArgs s__law_code) (defBody s__law_code) (defScope s__law_code) .none kV__law_code dc__law_code pm__law_code an__law_code cd__law_code ct__law_code), sl__law_code⟩)
    (c__law_code : PySem.W.codeIn K cd__law_code "_law_code" = true)
    (k__law_code : PySem.W.keepIn K (.ref f__law_code) = true)
    (a__law_region : PySem.W.nsIn K mainGlobals "_law_region" = some (some (.ref f__law_region)))
    (l__law_region : K.lookup f__law_region = some ⟨oc__law_region, od__law_region, .func (PySem.W.fnOf "_law_region" "_law_region" (defArgs s__law_region) (defBody s__law_region) (defScope s__law_region) .none kV__law_region dc__law_region pm__law_region an__law_region cd__law_region ct__law_region), sl__law_region⟩)
    (c__law_region : PySem.W.codeIn K cd__law_region "_law_region" = true)
    (k__law_region : PySem.W.keepIn K (.ref f__law_region) = true)
    (a__law_behind : PySem.W.nsIn K mainGlobals "_law_behind" = some (some (.ref f__law_behind)))
    (l__law_behind : K.lookup f__law_behind = some ⟨oc__law_behind, od__law_behind, .func (PySem.W.fnOf "_law_behind" "_law_behind" (defArgs s__law_behind) (defBody s__law_behind) (defScope s__law_behind) .none kV__law_behind dc__law_behind pm__law_behind an__law_behind cd__law_behind ct__law_behind), sl__law_behind⟩)
    (c__law_behind : PySem.W.codeIn K cd__law_behind "_law_behind" = true)
    (k__law_behind : PySem.W.keepIn K (.ref f__law_behind) = true)
    (a__law_ways : PySem.W.nsIn K mainGlobals "_law_ways" = some (some (.ref f__law_ways)))
    (l__law_ways : K.lookup f__law_ways = some ⟨oc__law_ways, od__law_ways, .func (PySem.W.fnOf "_law_ways" "_law_ways" (defArgs s__law_ways) (defBody s__law_ways) (defScope s__law_ways) .none kV__law_ways dc__law_ways pm__law_ways an__law_ways cd__law_ways ct__law_ways), sl__law_ways⟩)
    (c__law_ways : PySem.W.codeIn K cd__law_ways "_law_ways" = true)
    (k__law_ways : PySem.W.keepIn K (.ref f__law_ways) = true)
    (a__law_greatest : PySem.W.nsIn K mainGlobals "_law_greatest" = some (some (.ref f__law_greatest)))
    (l__law_greatest : K.lookup f__law_greatest = some ⟨oc__law_greatest, od__law_greatest, .func (PySem.W.fnOf "_law_greatest" "_law_greatest" (defArgs s__law_greatest) (defBody s__law_greatest) (defScope s__law_greatest) .none kV__law_greatest dc__law_greatest pm__law_greatest an__law_greatest cd__law_greatest ct__law_greatest), sl__law_greatest⟩)
    (c__law_greatest : PySem.W.codeIn K cd__law_greatest "_law_greatest" = true)
    (k__law_greatest : PySem.W.keepIn K (.ref f__law_greatest) = true)
    (a__law_draws : PySem.W.nsIn K mainGlobals "_law_draws" = some (some (.ref f__law_draws)))
    (l__law_draws : K.lookup f__law_draws = some ⟨oc__law_draws, od__law_draws, .func (PySem.W.fnOf "_law_draws" "_law_draws" (defArgs s__law_draws) (defBody s__law_draws) (defScope s__law_draws) .none kV__law_draws dc__law_draws pm__law_draws an__law_draws cd__law_draws ct__law_draws), sl__law_draws⟩)
    (c__law_draws : PySem.W.codeIn K cd__law_draws "_law_draws" = true)
    (k__law_draws : PySem.W.keepIn K (.ref f__law_draws) = true)
    (a__law_paper : PySem.W.nsIn K mainGlobals "_law_paper" = some (some (.ref f__law_paper)))
    (l__law_paper : K.lookup f__law_paper = some ⟨oc__law_paper, od__law_paper, .func (PySem.W.fnOf "_law_paper" "_law_paper" (defArgs s__law_paper) (defBody s__law_paper) (defScope s__law_paper) .none kV__law_paper dc__law_paper pm__law_paper an__law_paper cd__law_paper ct__law_paper), sl__law_paper⟩)
    (c__law_paper : PySem.W.codeIn K cd__law_paper "_law_paper" = true)
    (k__law_paper : PySem.W.keepIn K (.ref f__law_paper) = true)
    (a_is_number : PySem.W.nsIn K mainGlobals "is_number" = some (some (.ref f_is_number)))
    (l_is_number : K.lookup f_is_number = some ⟨oc_is_number, od_is_number, .func (PySem.W.fnOf "is_number" "is_number" (defArgs s_is_number) (defBody s_is_number) (defScope s_is_number) .none kV_is_number dc_is_number pm_is_number an_is_number cd_is_number ct_is_number), sl_is_number⟩)
    (c_is_number : PySem.W.codeIn K cd_is_number "is_number" = true)
    (k_is_number : PySem.W.keepIn K (.ref f_is_number) = true)
    (a_is_paper : PySem.W.nsIn K mainGlobals "is_paper" = some (some (.ref f_is_paper)))
    (l_is_paper : K.lookup f_is_paper = some ⟨oc_is_paper, od_is_paper, .func (PySem.W.fnOf "is_paper" "is_paper" (defArgs s_is_paper) (defBody s_is_paper) (defScope s_is_paper) .none kV_is_paper dc_is_paper pm_is_paper an_is_paper cd_is_paper ct_is_paper), sl_is_paper⟩)
    (c_is_paper : PySem.W.codeIn K cd_is_paper "is_paper" = true)
    (k_is_paper : PySem.W.keepIn K (.ref f_is_paper) = true)
    (a_ways : PySem.W.nsIn K mainGlobals "ways" = some (some (.ref f_ways)))
    (l_ways : K.lookup f_ways = some ⟨oc_ways, od_ways, .func (PySem.W.fnOf "ways" "ways" (defArgs s_ways) (defBody s_ways) (defScope s_ways) .none kV_ways dc_ways pm_ways an_ways cd_ways ct_ways), sl_ways⟩)
    (c_ways : PySem.W.codeIn K cd_ways "ways" = true)
    (k_ways : PySem.W.keepIn K (.ref f_ways) = true)
    (a_writes : PySem.W.nsIn K mainGlobals "writes" = some (some (.ref f_writes)))
    (l_writes : K.lookup f_writes = some ⟨oc_writes, od_writes, .func (PySem.W.fnOf "writes" "writes" (defArgs s_writes) (defBody s_writes) (defScope s_writes) .none kV_writes dc_writes pm_writes an_writes cd_writes ct_writes), sl_writes⟩)
    (c_writes : PySem.W.codeIn K cd_writes "writes" = true)
    (k_writes : PySem.W.keepIn K (.ref f_writes) = true)
    (a_reads : PySem.W.nsIn K mainGlobals "reads" = some (some (.ref f_reads)))
    (l_reads : K.lookup f_reads = some ⟨oc_reads, od_reads, .func (PySem.W.fnOf "reads" "reads" (defArgs s_reads) (defBody s_reads) (defScope s_reads) .none kV_reads dc_reads pm_reads an_reads cd_reads ct_reads), sl_reads⟩)
    (c_reads : PySem.W.codeIn K cd_reads "reads" = true)
    (k_reads : PySem.W.keepIn K (.ref f_reads) = true)
    (a_region_of : PySem.W.nsIn K mainGlobals "region_of" = some (some (.ref f_region_of)))
    (l_region_of : K.lookup f_region_of = some ⟨oc_region_of, od_region_of, .func (PySem.W.fnOf "region_of" "region_of" (defArgs s_region_of) (defBody s_region_of) (defScope s_region_of) .none kV_region_of dc_region_of pm_region_of an_region_of cd_region_of ct_region_of), sl_region_of⟩)
    (c_region_of : PySem.W.codeIn K cd_region_of "region_of" = true)
    (k_region_of : PySem.W.keepIn K (.ref f_region_of) = true)
    (a__makes_public : PySem.W.nsIn K mainGlobals "_makes_public" = some (some (.ref f__makes_public)))
    (l__makes_public : K.lookup f__makes_public = some ⟨oc__makes_public, od__makes_public, .func (PySem.W.fnOf "_makes_public" "_makes_public" (defArgs s__makes_public) (defBody s__makes_public) (defScope s__makes_public) .none kV__makes_public dc__makes_public pm__makes_public an__makes_public cd__makes_public ct__makes_public), sl__makes_public⟩)
    (c__makes_public : PySem.W.codeIn K cd__makes_public "_makes_public" = true)
    (k__makes_public : PySem.W.keepIn K (.ref f__makes_public) = true)
    (a_public_behind : PySem.W.nsIn K mainGlobals "public_behind" = some (some (.ref f_public_behind)))
    (l_public_behind : K.lookup f_public_behind = some ⟨oc_public_behind, od_public_behind, .func (PySem.W.fnOf "public_behind" "public_behind" (defArgs s_public_behind) (defBody s_public_behind) (defScope s_public_behind) .none kV_public_behind dc_public_behind pm_public_behind an_public_behind cd_public_behind ct_public_behind), sl_public_behind⟩)
    (c_public_behind : PySem.W.codeIn K cd_public_behind "public_behind" = true)
    (k_public_behind : PySem.W.keepIn K (.ref f_public_behind) = true)
    (a_holds : PySem.W.nsIn K mainGlobals "holds" = some (some (.ref f_holds)))
    (l_holds : K.lookup f_holds = some ⟨oc_holds, od_holds, .func (PySem.W.fnOf "holds" "holds" (defArgs s_holds) (defBody s_holds) (defScope s_holds) .none kV_holds dc_holds pm_holds an_holds cd_holds ct_holds), sl_holds⟩)
    (c_holds : PySem.W.codeIn K cd_holds "holds" = true)
    (k_holds : PySem.W.keepIn K (.ref f_holds) = true)
    (a_greatest_paper : PySem.W.nsIn K mainGlobals "greatest_paper" = some (some (.ref f_greatest_paper)))
    (l_greatest_paper : K.lookup f_greatest_paper = some ⟨oc_greatest_paper, od_greatest_paper, .func (PySem.W.fnOf "greatest_paper" "greatest_paper" (defArgs s_greatest_paper) (defBody s_greatest_paper) (defScope s_greatest_paper) .none kV_greatest_paper dc_greatest_paper pm_greatest_paper an_greatest_paper cd_greatest_paper ct_greatest_paper), sl_greatest_paper⟩)
    (c_greatest_paper : PySem.W.codeIn K cd_greatest_paper "greatest_paper" = true)
    (k_greatest_paper : PySem.W.keepIn K (.ref f_greatest_paper) = true)
    (a__law_is_member : PySem.W.nsIn K mainGlobals "_law_is_member" = some (some (.ref f__law_is_member)))
    (l__law_is_member : K.lookup f__law_is_member = some ⟨oc__law_is_member, od__law_is_member, .func (PySem.W.fnOf "_law_is_member" "_law_is_member" (defArgs s__law_is_member) (defBody s__law_is_member) (defScope s__law_is_member) .none kV__law_is_member dc__law_is_member pm__law_is_member an__law_is_member cd__law_is_member ct__law_is_member), sl__law_is_member⟩)
    (c__law_is_member : PySem.W.codeIn K cd__law_is_member "_law_is_member" = true)
    (k__law_is_member : PySem.W.keepIn K (.ref f__law_is_member) = true)
    (a__law_holds : PySem.W.nsIn K mainGlobals "_law_holds" = some (some (.ref f__law_holds)))
    (l__law_holds : K.lookup f__law_holds = some ⟨oc__law_holds, od__law_holds, .func (PySem.W.fnOf "_law_holds" "_law_holds" (defArgs s__law_holds) (defBody s__law_holds) (defScope s__law_holds) .none kV__law_holds dc__law_holds pm__law_holds an__law_holds cd__law_holds ct__law_holds), sl__law_holds⟩)
    (c__law_holds : PySem.W.codeIn K cd__law_holds "_law_holds" = true)
    (k__law_holds : PySem.W.keepIn K (.ref f__law_holds) = true)
    (a_law : PySem.W.nsIn K mainGlobals "law" = some (some (.ref f_law)))
    (l_law : K.lookup f_law = some ⟨oc_law, od_law, .func (PySem.W.fnOf "law" "law" (defArgs s_law) (defBody s_law) (defScope s_law) .none kV_law dc_law pm_law an_law cd_law ct_law), sl_law⟩)
    (c_law : PySem.W.codeIn K cd_law "law" = true)
    (k_law : PySem.W.keepIn K (.ref f_law) = true)
    (a_REGISTERS : PySem.W.nsIn K mainGlobals "REGISTERS" = some (some u_REGISTERS))
    (t_REGISTERS : absV u_REGISTERS = some (.int 16))
    (a_CODE_FORMS : PySem.W.nsIn K mainGlobals "CODE_FORMS" = some (some (.ref ad_CODE_FORMS)))
    (l_CODE_FORMS : K.lookup ad_CODE_FORMS = some ⟨.type "dict", none, .dict es_CODE_FORMS n_CODE_FORMS, #[]⟩)
    (t_wCODE_FORMS : (ad_CODE_FORMS == sysModules) = false)
    (t_kCODE_FORMS : es_CODE_FORMS.toList.map He.keyOf = He.keysIn w.params ["const", "op", "select", "load", "store", "out", "jump", "branch", "stop"])
    (t_vCODE_FORMS : es_CODE_FORMS.toList.map (·.val) = [.ref ad_CODE_FORMS_0, .ref ad_CODE_FORMS_1, .ref ad_CODE_FORMS_2, .ref ad_CODE_FORMS_3, .ref ad_CODE_FORMS_4, .ref ad_CODE_FORMS_5, .ref ad_CODE_FORMS_6, .ref ad_CODE_FORMS_7, .ref ad_CODE_FORMS_8])
    (l_ad_CODE_FORMS_0 : K.lookup ad_CODE_FORMS_0 = some ⟨.type "tuple", oad_CODE_FORMS_0, .seq iad_CODE_FORMS_0 nad_CODE_FORMS_0, sad_CODE_FORMS_0⟩)
    (t_ad_CODE_FORMS_0 : iad_CODE_FORMS_0.toList.map absV = ([.str "write", .str "word"] : List D).map flatC)
    (l_ad_CODE_FORMS_1 : K.lookup ad_CODE_FORMS_1 = some ⟨.type "tuple", oad_CODE_FORMS_1, .seq iad_CODE_FORMS_1 nad_CODE_FORMS_1, sad_CODE_FORMS_1⟩)
    (t_ad_CODE_FORMS_1 : iad_CODE_FORMS_1.toList.map absV = ([.str "sign", .str "write", .str "read", .str "read"] : List D).map flatC)
    (l_ad_CODE_FORMS_2 : K.lookup ad_CODE_FORMS_2 = some ⟨.type "tuple", oad_CODE_FORMS_2, .seq iad_CODE_FORMS_2 nad_CODE_FORMS_2, sad_CODE_FORMS_2⟩)
    (t_ad_CODE_FORMS_2 : iad_CODE_FORMS_2.toList.map absV = ([.str "write", .str "read", .str "read", .str "read"] : List D).map flatC)
    (l_ad_CODE_FORMS_3 : K.lookup ad_CODE_FORMS_3 = some ⟨.type "tuple", oad_CODE_FORMS_3, .seq iad_CODE_FORMS_3 nad_CODE_FORMS_3, sad_CODE_FORMS_3⟩)
    (t_ad_CODE_FORMS_3 : iad_CODE_FORMS_3.toList.map absV = ([.str "write", .str "read", .str "base", .str "mask"] : List D).map flatC)
    (l_ad_CODE_FORMS_4 : K.lookup ad_CODE_FORMS_4 = some ⟨.type "tuple", oad_CODE_FORMS_4, .seq iad_CODE_FORMS_4 nad_CODE_FORMS_4, sad_CODE_FORMS_4⟩)
    (t_ad_CODE_FORMS_4 : iad_CODE_FORMS_4.toList.map absV = ([.str "read", .str "base", .str "mask", .str "read"] : List D).map flatC)
    (l_ad_CODE_FORMS_5 : K.lookup ad_CODE_FORMS_5 = some ⟨.type "tuple", oad_CODE_FORMS_5, .seq iad_CODE_FORMS_5 nad_CODE_FORMS_5, sad_CODE_FORMS_5⟩)
    (t_ad_CODE_FORMS_5 : iad_CODE_FORMS_5.toList.map absV = ([.str "read"] : List D).map flatC)
    (l_ad_CODE_FORMS_6 : K.lookup ad_CODE_FORMS_6 = some ⟨.type "tuple", oad_CODE_FORMS_6, .seq iad_CODE_FORMS_6 nad_CODE_FORMS_6, sad_CODE_FORMS_6⟩)
    (t_ad_CODE_FORMS_6 : iad_CODE_FORMS_6.toList.map absV = ([.str "target"] : List D).map flatC)
    (l_ad_CODE_FORMS_7 : K.lookup ad_CODE_FORMS_7 = some ⟨.type "tuple", oad_CODE_FORMS_7, .seq iad_CODE_FORMS_7 nad_CODE_FORMS_7, sad_CODE_FORMS_7⟩)
    (t_ad_CODE_FORMS_7 : iad_CODE_FORMS_7.toList.map absV = ([.str "read", .str "target"] : List D).map flatC)
    (l_ad_CODE_FORMS_8 : K.lookup ad_CODE_FORMS_8 = some ⟨.type "tuple", oad_CODE_FORMS_8, .seq iad_CODE_FORMS_8 nad_CODE_FORMS_8, sad_CODE_FORMS_8⟩)
    (t_ad_CODE_FORMS_8 : iad_CODE_FORMS_8.toList.map absV = ([.str "read"] : List D).map flatC)
    (z_len : PySem.W.nsIn K mainGlobals "len" = some none)
    (z_int : PySem.W.nsIn K mainGlobals "int" = some none)
    (z_range : PySem.W.nsIn K mainGlobals "range" = some none)
    (z_tuple : PySem.W.nsIn K mainGlobals "tuple" = some none)
    (z_list : PySem.W.nsIn K mainGlobals "list" = some none)
    (z_sorted : PySem.W.nsIn K mainGlobals "sorted" = some none)
    (z_repr : PySem.W.nsIn K mainGlobals "repr" = some none)
    (z_abs : PySem.W.nsIn K mainGlobals "abs" = some none)
    (z_isinstance : PySem.W.nsIn K mainGlobals "isinstance" = some none)
    (z_bool : PySem.W.nsIn K mainGlobals "bool" = some none)
    (z_zip : PySem.W.nsIn K mainGlobals "zip" = some none)
    (z_enumerate : PySem.W.nsIn K mainGlobals "enumerate" = some none)
    (z_reversed : PySem.W.nsIn K mainGlobals "reversed" = some none) :
    ∃ fd : FuncData, (∀ (s : Shared) (v : Value), BindsTo s fd ⟨[v], []⟩ [("script", v)]) ∧ ∀ base : Heap, K.In base → base.Ns mainGlobals mg → Ly.FnR l.prog w K mg base (L2.CX l.prog w) (Rgd 5) fa fd ["script"] (spM K 1 m_law) := by
  have e := hfa.symm.trans (PySem.W.mg_of X G a_law)
  cases e
  have F__law_next := fun_mk (st := s__law_next) l__law_next c__law_next k__law_next
  have D__law_next : DefAt K mg "_law_next" s__law_next ["w", "many"] _ _ := ⟨F__law_next, PySem.W.mg_of X G a__law_next, F__law_next.binds fun _ _ _ _ _ _ us hl => match us, hl with | [_, _], _ => rfl⟩
  have F__law_regions := fun_mk (st := s__law_regions) l__law_regions c__law_regions k__law_regions
  have D__law_regions : DefAt K mg "_law_regions" s__law_regions ["w"] _ _ := ⟨F__law_regions, PySem.W.mg_of X G a__law_regions, F__law_regions.binds fun _ _ _ _ _ _ us hl => match us, hl with | [_], _ => rfl⟩
  have F__law_span := fun_mk (st := s__law_span) l__law_span c__law_span k__law_span
  have D__law_span : DefAt K mg "_law_span" s__law_span ["w", "regions"] _ _ := ⟨F__law_span, PySem.W.mg_of X G a__law_span, F__law_span.binds fun _ _ _ _ _ _ us hl => match us, hl with | [_, _], _ => rfl⟩
  have F__law_row := fun_mk (st := s__law_row) l__law_row c__law_row k__law_row
  have D__law_row : DefAt K mg "_law_row" s__law_row ["w", "regions", "many"] _ _ := ⟨F__law_row, PySem.W.mg_of X G a__law_row, F__law_row.binds fun _ _ _ _ _ _ us hl => match us, hl with | [_, _, _], _ => rfl⟩
  have F__law_code := fun_mk (st := s__law_code) l__law_code c__law_code k__law_code
  have D__law_code : DefAt K mg "_law_code" s__law_code ["w"] _ _ := ⟨F__law_code, PySem.W.mg_of X G a__law_code, F__law_code.binds fun _ _ _ _ _ _ us hl => match us, hl with | [_], _ => rfl⟩
  have F__law_region := fun_mk (st := s__law_region) l__law_region c__law_region k__law_region
  have D__law_region : DefAt K mg "_law_region" s__law_region ["code", "base", "mask"] _ _ := ⟨F__law_region, PySem.W.mg_of X G a__law_region, F__law_region.binds fun _ _ _ _ _ _ us hl => match us, hl with | [_, _, _], _ => rfl⟩
  have F__law_behind := fun_mk (st := s__law_behind) l__law_behind c__law_behind k__law_behind
  have D__law_behind : DefAt K mg "_law_behind" s__law_behind ["code", "r", "member"] _ _ := ⟨F__law_behind, PySem.W.mg_of X G a__law_behind, F__law_behind.binds fun _ _ _ _ _ _ us hl => match us, hl with | [_, _, _], _ => rfl⟩
  have F__law_ways := fun_mk (st := s__law_ways) l__law_ways c__law_ways k__law_ways
  have D__law_ways : DefAt K mg "_law_ways" s__law_ways ["code", "r"] _ _ := ⟨F__law_ways, PySem.W.mg_of X G a__law_ways, F__law_ways.binds fun _ _ _ _ _ _ us hl => match us, hl with | [_, _], _ => rfl⟩
  have F__law_greatest := fun_mk (st := s__law_greatest) l__law_greatest c__law_greatest k__law_greatest
  have D__law_greatest : DefAt K mg "_law_greatest" s__law_greatest ["code"] _ _ := ⟨F__law_greatest, PySem.W.mg_of X G a__law_greatest, F__law_greatest.binds fun _ _ _ _ _ _ us hl => match us, hl with | [_], _ => rfl⟩
  have F__law_draws := fun_mk (st := s__law_draws) l__law_draws c__law_draws k__law_draws
  have D__law_draws : DefAt K mg "_law_draws" s__law_draws ["script", "many"] _ _ := ⟨F__law_draws, PySem.W.mg_of X G a__law_draws, F__law_draws.binds fun _ _ _ _ _ _ us hl => match us, hl with | [_, _], _ => rfl⟩
  have F__law_paper := fun_mk (st := s__law_paper) l__law_paper c__law_paper k__law_paper
  have D__law_paper : DefAt K mg "_law_paper" s__law_paper ["w", "greatest"] _ _ := ⟨F__law_paper, PySem.W.mg_of X G a__law_paper, F__law_paper.binds fun _ _ _ _ _ _ us hl => match us, hl with | [_, _], _ => rfl⟩
  have F_is_number := fun_mk (st := s_is_number) l_is_number c_is_number k_is_number
  have D_is_number : DefAt K mg "is_number" s_is_number ["thing", "least", "most"] _ _ := ⟨F_is_number, PySem.W.mg_of X G a_is_number, F_is_number.binds fun _ _ _ _ _ _ us hl => match us, hl with | [_, _, _], _ => rfl⟩
  have F_is_paper := fun_mk (st := s_is_paper) l_is_paper c_is_paper k_is_paper
  have D_is_paper : DefAt K mg "is_paper" s_is_paper ["code", "thing"] _ _ := ⟨F_is_paper, PySem.W.mg_of X G a_is_paper, F_is_paper.binds fun _ _ _ _ _ _ us hl => match us, hl with | [_, _], _ => rfl⟩
  have F_ways := fun_mk (st := s_ways) l_ways c_ways k_ways
  have D_ways : DefAt K mg "ways" s_ways ["code", "r"] _ _ := ⟨F_ways, PySem.W.mg_of X G a_ways, F_ways.binds fun _ _ _ _ _ _ us hl => match us, hl with | [_, _], _ => rfl⟩
  have F_writes := fun_mk (st := s_writes) l_writes c_writes k_writes
  have D_writes : DefAt K mg "writes" s_writes ["row"] _ _ := ⟨F_writes, PySem.W.mg_of X G a_writes, F_writes.binds fun _ _ _ _ _ _ us hl => match us, hl with | [_], _ => rfl⟩
  have F_reads := fun_mk (st := s_reads) l_reads c_reads k_reads
  have D_reads : DefAt K mg "reads" s_reads ["row"] _ _ := ⟨F_reads, PySem.W.mg_of X G a_reads, F_reads.binds fun _ _ _ _ _ _ us hl => match us, hl with | [_], _ => rfl⟩
  have F_region_of := fun_mk (st := s_region_of) l_region_of c_region_of k_region_of
  have D_region_of : DefAt K mg "region_of" s_region_of ["regions", "base", "mask"] _ _ := ⟨F_region_of, PySem.W.mg_of X G a_region_of, F_region_of.binds fun _ _ _ _ _ _ us hl => match us, hl with | [_, _, _], _ => rfl⟩
  have F__makes_public := fun_mk (st := s__makes_public) l__makes_public c__makes_public k__makes_public
  have D__makes_public : DefAt K mg "_makes_public" s__makes_public ["regions", "row", "public"] _ _ := ⟨F__makes_public, PySem.W.mg_of X G a__makes_public, F__makes_public.binds fun _ _ _ _ _ _ us hl => match us, hl with | [_, _, _], _ => rfl⟩
  have F_public_behind := fun_mk (st := s_public_behind) l_public_behind c_public_behind k_public_behind
  have D_public_behind : DefAt K mg "public_behind" s_public_behind ["code", "r", "member"] _ _ := ⟨F_public_behind, PySem.W.mg_of X G a_public_behind, F_public_behind.binds fun _ _ _ _ _ _ us hl => match us, hl with | [_, _, _], _ => rfl⟩
  have F_holds := fun_mk (st := s_holds) l_holds c_holds k_holds
  have D_holds : DefAt K mg "holds" s_holds ["code", "paper"] _ _ := ⟨F_holds, PySem.W.mg_of X G a_holds, F_holds.binds fun _ _ _ _ _ _ us hl => match us, hl with | [_, _], _ => rfl⟩
  have F_greatest_paper := fun_mk (st := s_greatest_paper) l_greatest_paper c_greatest_paper k_greatest_paper
  have D_greatest_paper : DefAt K mg "greatest_paper" s_greatest_paper ["code"] _ _ := ⟨F_greatest_paper, PySem.W.mg_of X G a_greatest_paper, F_greatest_paper.binds fun _ _ _ _ _ _ us hl => match us, hl with | [_], _ => rfl⟩
  have F__law_is_member := fun_mk (st := s__law_is_member) l__law_is_member c__law_is_member k__law_is_member
  have D__law_is_member : DefAt K mg "_law_is_member" s__law_is_member ["thing"] _ _ := ⟨F__law_is_member, PySem.W.mg_of X G a__law_is_member, F__law_is_member.binds fun _ _ _ _ _ _ us hl => match us, hl with | [_], _ => rfl⟩
  have F__law_holds := fun_mk (st := s__law_holds) l__law_holds c__law_holds k__law_holds
  have D__law_holds : DefAt K mg "_law_holds" s__law_holds ["code", "paper"] _ _ := ⟨F__law_holds, PySem.W.mg_of X G a__law_holds, F__law_holds.binds fun _ _ _ _ _ _ us hl => match us, hl with | [_, _], _ => rfl⟩
  have F_law := fun_mk (st := s_law) l_law c_law k_law
  have D_law : DefAt K mg "law" s_law ["script"] _ _ := ⟨F_law, PySem.W.mg_of X G a_law, F_law.binds fun _ _ _ _ _ _ us hl => match us, hl with | [_], _ => rfl⟩
  have g_REGISTERS : GV K mg "REGISTERS" d_REGISTERS := gv_int (PySem.W.mg_of X G a_REGISTERS) t_REGISTERS
  have g_CODE_FORMS : KD K w mg "CODE_FORMS" d_CODE_FORMS := kd_mk (PySem.W.mg_of X G a_CODE_FORMS) l_CODE_FORMS t_wCODE_FORMS t_kCODE_FORMS (t_vCODE_FORMS ▸ (KVs.cons (kv_flats l_ad_CODE_FORMS_0 t_ad_CODE_FORMS_0) (KVs.cons (kv_flats l_ad_CODE_FORMS_1 t_ad_CODE_FORMS_1) (KVs.cons (kv_flats l_ad_CODE_FORMS_2 t_ad_CODE_FORMS_2) (KVs.cons (kv_flats l_ad_CODE_FORMS_3 t_ad_CODE_FORMS_3) (KVs.cons (kv_flats l_ad_CODE_FORMS_4 t_ad_CODE_FORMS_4) (KVs.cons (kv_flats l_ad_CODE_FORMS_5 t_ad_CODE_FORMS_5) (KVs.cons (kv_flats l_ad_CODE_FORMS_6 t_ad_CODE_FORMS_6) (KVs.cons (kv_flats l_ad_CODE_FORMS_7 t_ad_CODE_FORMS_7) (KVs.cons (kv_flats l_ad_CODE_FORMS_8 t_ad_CODE_FORMS_8) KVs.nil))))))))))
  refine ⟨PySem.W.fnOf "law" "law" (defArgs s_law) (defBody s_law) (defScope s_law) .none kV_law dc_law pm_law an_law cd_law ct_law, fun s v => .of_eq rfl, fun base _ _ => ?_⟩
  have G__law_next := (ok__law_next (P := l.prog) (w := w) (mg := mg) (base := base) D__law_next (PySem.W.mg_none_of X G z_len) (PySem.W.mg_none_of X G z_int))
  have G__law_regions := (ok__law_regions (P := l.prog) (w := w) (mg := mg) (base := base) D__law_regions D__law_next G__law_next (PySem.W.mg_none_of X G z_range) (PySem.W.mg_none_of X G z_tuple))
  have G__law_span := (ok__law_span (P := l.prog) (w := w) (mg := mg) (base := base) D__law_span D__law_next G__law_next (PySem.W.mg_none_of X G z_len))
  have G__law_row := (ok__law_row (P := l.prog) (w := w) (mg := mg) (base := base) D__law_row D__law_next D__law_span G__law_next G__law_span)
  have G__law_code := (ok__law_code (P := l.prog) (w := w) (mg := mg) (base := base) D__law_code D__law_regions D__law_next D__law_row G__law_regions G__law_next G__law_row (PySem.W.mg_none_of X G z_range) (PySem.W.mg_none_of X G z_tuple))
  have G__law_region := (ok__law_region (P := l.prog) (w := w) (mg := mg) (base := base) D__law_region)
  have G__law_behind := (ok__law_behind (P := l.prog) (w := w) (mg := mg) (base := base) D__law_behind D__law_region G__law_region (PySem.W.mg_none_of X G z_range) (PySem.W.mg_none_of X G z_list))
  have G__law_ways := (ok__law_ways (P := l.prog) (w := w) (mg := mg) (base := base) D__law_ways (PySem.W.mg_none_of X G z_sorted))
  have G__law_greatest := (ok__law_greatest (P := l.prog) (w := w) (mg := mg) (base := base) D__law_greatest D__law_behind D__law_ways G__law_behind G__law_ways (PySem.W.mg_none_of X G z_list) (PySem.W.mg_none_of X G z_range) (PySem.W.mg_none_of X G z_repr) (PySem.W.mg_none_of X G z_len) (PySem.W.mg_none_of X G z_tuple))
  have G__law_draws := (ok__law_draws (P := l.prog) (w := w) (mg := mg) (base := base) D__law_draws (PySem.W.mg_none_of X G z_range) (PySem.W.mg_none_of X G z_len) (PySem.W.mg_none_of X G z_abs) (PySem.W.mg_none_of X G z_int))
  have G__law_paper := (ok__law_paper (P := l.prog) (w := w) (mg := mg) (base := base) D__law_paper D__law_next G__law_next (PySem.W.mg_none_of X G z_range) (PySem.W.mg_none_of X G z_tuple) (PySem.W.mg_none_of X G z_len))
  have G_is_number := (ok_is_number (P := l.prog) (w := w) (mg := mg) (base := base) D_is_number (PySem.W.mg_none_of X G z_isinstance) (PySem.W.mg_none_of X G z_int) (PySem.W.mg_none_of X G z_bool))
  have G_is_paper := (ok_is_paper (P := l.prog) (w := w) (mg := mg) (base := base) D_is_paper D_is_number G_is_number g_REGISTERS (PySem.W.mg_none_of X G z_isinstance) (PySem.W.mg_none_of X G z_tuple) (PySem.W.mg_none_of X G z_len))
  have G_ways := (ok_ways (P := l.prog) (w := w) (mg := mg) (base := base) D_ways (PySem.W.mg_none_of X G z_tuple) (PySem.W.mg_none_of X G z_sorted))
  have G_writes := (ok_writes (P := l.prog) (w := w) (mg := mg) (base := base) D_writes g_CODE_FORMS (PySem.W.mg_none_of X G z_zip))
  have G_reads := (ok_reads (P := l.prog) (w := w) (mg := mg) (base := base) D_reads g_CODE_FORMS (PySem.W.mg_none_of X G z_zip) (PySem.W.mg_none_of X G z_tuple) (PySem.W.mg_none_of X G z_sorted))
  have G_region_of := (ok_region_of (P := l.prog) (w := w) (mg := mg) (base := base) D_region_of (PySem.W.mg_none_of X G z_len))
  have G__makes_public := (ok__makes_public (P := l.prog) (w := w) (mg := mg) (base := base) D__makes_public D_region_of D_reads G_region_of G_reads)
  have G_public_behind := (ok_public_behind (P := l.prog) (w := w) (mg := mg) (base := base) D_public_behind D_writes D__makes_public G_writes G__makes_public (PySem.W.mg_none_of X G z_tuple) (PySem.W.mg_none_of X G z_sorted))
  have G_holds := (ok_holds (P := l.prog) (w := w) (mg := mg) (base := base) D_holds D_is_paper D_public_behind D_ways G_is_paper G_public_behind G_ways (PySem.W.mg_none_of X G z_enumerate))
  have G_greatest_paper := (ok_greatest_paper (P := l.prog) (w := w) (mg := mg) (base := base) D_greatest_paper D_public_behind D_ways G_public_behind G_ways g_REGISTERS (PySem.W.mg_none_of X G z_tuple) (PySem.W.mg_none_of X G z_range) (PySem.W.mg_none_of X G z_len) (PySem.W.mg_none_of X G z_list) (PySem.W.mg_none_of X G z_reversed))
  have G__law_is_member := (ok__law_is_member (P := l.prog) (w := w) (mg := mg) (base := base) D__law_is_member (PySem.W.mg_none_of X G z_isinstance) (PySem.W.mg_none_of X G z_tuple) (PySem.W.mg_none_of X G z_int) (PySem.W.mg_none_of X G z_bool) (PySem.W.mg_none_of X G z_list) (PySem.W.mg_none_of X G z_sorted) (PySem.W.mg_none_of X G z_len) (PySem.W.mg_none_of X G z_range))
  have G__law_holds := (ok__law_holds (P := l.prog) (w := w) (mg := mg) (base := base) D__law_holds D__law_is_member D__law_behind D__law_ways G__law_is_member G__law_behind G__law_ways (PySem.W.mg_none_of X G z_isinstance) (PySem.W.mg_none_of X G z_tuple) (PySem.W.mg_none_of X G z_len) (PySem.W.mg_none_of X G z_range))
  have G_law := (ok_law (P := l.prog) (w := w) (mg := mg) (base := base) D_law D__law_draws D__law_code D__law_greatest D_greatest_paper D_holds D__law_next D_public_behind D__law_behind D_ways D__law_ways D__law_paper D__law_holds G__law_draws G__law_code G__law_greatest G_greatest_paper G_holds G__law_next G_public_behind G__law_behind G_ways G__law_ways G__law_paper G__law_holds (PySem.W.mg_none_of X G z_range) (PySem.W.mg_none_of X G z_len) (PySem.W.mg_none_of X G z_tuple) (PySem.W.mg_none_of X G z_isinstance) (PySem.W.mg_none_of X G z_bool))
  exact G_law
def fd__law_next : He.FnD := ⟨("_law_next", none), "_law_next", "_law_next", defArgs s__law_next, defBody s__law_next, defScope s__law_next⟩
def fd__law_regions : He.FnD := ⟨("_law_regions", none), "_law_regions", "_law_regions", defArgs s__law_regions, defBody s__law_regions, defScope s__law_regions⟩
def fd__law_span : He.FnD := ⟨("_law_span", none), "_law_span", "_law_span", defArgs s__law_span, defBody s__law_span, defScope s__law_span⟩
def fd__law_row : He.FnD := ⟨("_law_row", none), "_law_row", "_law_row", defArgs s__law_row, defBody s__law_row, defScope s__law_row⟩
def fd__law_code : He.FnD := ⟨("_law_code", none), "_law_code", "_law_code", defArgs s__law_code, defBody s__law_code, defScope s__law_code⟩
def fd__law_region : He.FnD := ⟨("_law_region", none), "_law_region", "_law_region", defArgs s__law_region, defBody s__law_region, defScope s__law_region⟩
def fd__law_behind : He.FnD := ⟨("_law_behind", none), "_law_behind", "_law_behind", defArgs s__law_behind, defBody s__law_behind, defScope s__law_behind⟩
def fd__law_ways : He.FnD := ⟨("_law_ways", none), "_law_ways", "_law_ways", defArgs s__law_ways, defBody s__law_ways, defScope s__law_ways⟩
def fd__law_greatest : He.FnD := ⟨("_law_greatest", none), "_law_greatest", "_law_greatest", defArgs s__law_greatest, defBody s__law_greatest, defScope s__law_greatest⟩
def fd__law_draws : He.FnD := ⟨("_law_draws", none), "_law_draws", "_law_draws", defArgs s__law_draws, defBody s__law_draws, defScope s__law_draws⟩
def fd__law_paper : He.FnD := ⟨("_law_paper", none), "_law_paper", "_law_paper", defArgs s__law_paper, defBody s__law_paper, defScope s__law_paper⟩
def fd_is_number : He.FnD := ⟨("is_number", none), "is_number", "is_number", defArgs s_is_number, defBody s_is_number, defScope s_is_number⟩
def fd_is_paper : He.FnD := ⟨("is_paper", none), "is_paper", "is_paper", defArgs s_is_paper, defBody s_is_paper, defScope s_is_paper⟩
def fd_ways : He.FnD := ⟨("ways", none), "ways", "ways", defArgs s_ways, defBody s_ways, defScope s_ways⟩
def fd_writes : He.FnD := ⟨("writes", none), "writes", "writes", defArgs s_writes, defBody s_writes, defScope s_writes⟩
def fd_reads : He.FnD := ⟨("reads", none), "reads", "reads", defArgs s_reads, defBody s_reads, defScope s_reads⟩
def fd_region_of : He.FnD := ⟨("region_of", none), "region_of", "region_of", defArgs s_region_of, defBody s_region_of, defScope s_region_of⟩
def fd__makes_public : He.FnD := ⟨("_makes_public", none), "_makes_public", "_makes_public", defArgs s__makes_public, defBody s__makes_public, defScope s__makes_public⟩
def fd_public_behind : He.FnD := ⟨("public_behind", none), "public_behind", "public_behind", defArgs s_public_behind, defBody s_public_behind, defScope s_public_behind⟩
def fd_holds : He.FnD := ⟨("holds", none), "holds", "holds", defArgs s_holds, defBody s_holds, defScope s_holds⟩
def fd_greatest_paper : He.FnD := ⟨("greatest_paper", none), "greatest_paper", "greatest_paper", defArgs s_greatest_paper, defBody s_greatest_paper, defScope s_greatest_paper⟩
def fd__law_is_member : He.FnD := ⟨("_law_is_member", none), "_law_is_member", "_law_is_member", defArgs s__law_is_member, defBody s__law_is_member, defScope s__law_is_member⟩
def fd__law_holds : He.FnD := ⟨("_law_holds", none), "_law_holds", "_law_holds", defArgs s__law_holds, defBody s__law_holds, defScope s__law_holds⟩
def fd_law : He.FnD := ⟨("law", none), "law", "law", defArgs s_law, defBody s_law, defScope s_law⟩
abbrev kR : PySem.W.OpenRow := PySem.W.OpenLaw.row PySem.Challenge.rw_sameclock_k64_papers_that_hold
def ts_CODE_FORMS : He.Tab := (fun K => He.ga K "CODE_FORMS", ["const", "op", "select", "load", "store", "out", "jump", "branch", "stop"])
def xo_REGISTERS : (PySem.W.Frag → Option (List (Option V))) × List (Option V) := (fun K => oV K "REGISTERS", [some (.int 16)])
def xo_ad_CODE_FORMS_0 : (PySem.W.Frag → Option (List (Option V))) × List (Option V) := (fun K => oT K (dcAt K (He.ga K "CODE_FORMS") 0), [some (.str "write"), some (.str "word")])
def xo_ad_CODE_FORMS_1 : (PySem.W.Frag → Option (List (Option V))) × List (Option V) := (fun K => oT K (dcAt K (He.ga K "CODE_FORMS") 1), [some (.str "sign"), some (.str "write"), some (.str "read"), some (.str "read")])
def xo_ad_CODE_FORMS_2 : (PySem.W.Frag → Option (List (Option V))) × List (Option V) := (fun K => oT K (dcAt K (He.ga K "CODE_FORMS") 2), [some (.str "write"), some (.str "read"), some (.str "read"), some (.str "read")])
def xo_ad_CODE_FORMS_3 : (PySem.W.Frag → Option (List (Option V))) × List (Option V) := (fun K => oT K (dcAt K (He.ga K "CODE_FORMS") 3), [some (.str "write"), some (.str "read"), some (.str "base"), some (.str "mask")])
def xo_ad_CODE_FORMS_4 : (PySem.W.Frag → Option (List (Option V))) × List (Option V) := (fun K => oT K (dcAt K (He.ga K "CODE_FORMS") 4), [some (.str "read"), some (.str "base"), some (.str "mask"), some (.str "read")])
def xo_ad_CODE_FORMS_5 : (PySem.W.Frag → Option (List (Option V))) × List (Option V) := (fun K => oT K (dcAt K (He.ga K "CODE_FORMS") 5), [some (.str "read")])
def xo_ad_CODE_FORMS_6 : (PySem.W.Frag → Option (List (Option V))) × List (Option V) := (fun K => oT K (dcAt K (He.ga K "CODE_FORMS") 6), [some (.str "target")])
def xo_ad_CODE_FORMS_7 : (PySem.W.Frag → Option (List (Option V))) × List (Option V) := (fun K => oT K (dcAt K (He.ga K "CODE_FORMS") 7), [some (.str "read"), some (.str "target")])
def xo_ad_CODE_FORMS_8 : (PySem.W.Frag → Option (List (Option V))) × List (Option V) := (fun K => oT K (dcAt K (He.ga K "CODE_FORMS") 8), [some (.str "read")])
def xb_vCODE_FORMS : PySem.W.Frag → Bool := fun K => eqVs (dcVs K (He.ga K "CODE_FORMS")) [.ref (dcAt K (He.ga K "CODE_FORMS") 0), .ref (dcAt K (He.ga K "CODE_FORMS") 1), .ref (dcAt K (He.ga K "CODE_FORMS") 2), .ref (dcAt K (He.ga K "CODE_FORMS") 3), .ref (dcAt K (He.ga K "CODE_FORMS") 4), .ref (dcAt K (He.ga K "CODE_FORMS") 5), .ref (dcAt K (He.ga K "CODE_FORMS") 6), .ref (dcAt K (He.ga K "CODE_FORMS") 7), .ref (dcAt K (He.ga K "CODE_FORMS") 8)]
def kFa_0 : List He.Fa := [.glo "_law_next", .keep "_law_next", .glo "_law_regions", .keep "_law_regions", .glo "_law_span", .keep "_law_span", .glo "_law_row", .keep "_law_row", .glo "_law_code", .keep "_law_code", .glo "_law_region", .keep "_law_region", .glo "_law_behind", .keep "_law_behind", .glo "_law_ways", .keep "_law_ways", .glo "_law_greatest", .keep "_law_greatest", .glo "_law_draws", .keep "_law_draws"]
def kFa_1 : List He.Fa := [.glo "_law_paper", .keep "_law_paper", .glo "is_number", .keep "is_number", .glo "is_paper", .keep "is_paper", .glo "ways", .keep "ways", .glo "writes", .keep "writes", .glo "reads", .keep "reads", .glo "region_of", .keep "region_of", .glo "_makes_public", .keep "_makes_public", .glo "public_behind", .keep "public_behind", .glo "holds", .keep "holds"]
def kFa_2 : List He.Fa := [.glo "greatest_paper", .keep "greatest_paper", .glo "_law_is_member", .keep "_law_is_member", .glo "_law_holds", .keep "_law_holds", .glo "law", .keep "law", .glo "CODE_FORMS", .free "len", .free "int", .free "range", .free "tuple", .free "list", .free "sorted", .free "repr", .free "abs", .free "isinstance", .free "bool", .free "zip"]
def kFa_3 : List He.Fa := [.free "enumerate", .free "reversed"]
def kFa : List He.Fa := kFa_0 ++ kFa_1 ++ kFa_2 ++ kFa_3
def kFn_0 : List He.FnD := [fd__law_next, fd__law_regions, fd__law_span, fd__law_row, fd__law_code, fd__law_region, fd__law_behind, fd__law_ways, fd__law_greatest, fd__law_draws, fd__law_paper, fd_is_number, fd_is_paper, fd_ways, fd_writes, fd_reads, fd_region_of, fd__makes_public, fd_public_behind, fd_holds]
def kFn_1 : List He.FnD := [fd_greatest_paper, fd__law_is_member, fd__law_holds, fd_law]
def kFn : List He.FnD := kFn_0 ++ kFn_1
def kTs : List He.Tab := [ts_CODE_FORMS]
def kXo : List ((PySem.W.Frag → Option (List (Option V))) × List (Option V)) := [xo_REGISTERS, xo_ad_CODE_FORMS_0, xo_ad_CODE_FORMS_1, xo_ad_CODE_FORMS_2, xo_ad_CODE_FORMS_3, xo_ad_CODE_FORMS_4, xo_ad_CODE_FORMS_5, xo_ad_CODE_FORMS_6, xo_ad_CODE_FORMS_7, xo_ad_CODE_FORMS_8]
def kXb : List (PySem.W.Frag → Bool) := [xb_vCODE_FORMS]
def kNames_0 : List Str := ["is_number", "REGISTERS", "CODE_FORMS", "reads", "writes", "region_of", "public_behind", "_makes_public", "ways", "holds", "is_paper", "greatest_paper", "_law_draws", "_law_next", "_law_regions", "_law_span", "_law_row", "_law_code", "_law_region", "_law_behind"]
def kNames_1 : List Str := ["_law_ways", "_law_greatest", "_law_is_member", "_law_holds", "_law_paper"]
def kNames : List Str := kNames_0 ++ kNames_1
def kL : Lk := ⟨kFa, kFn, kTs, kXo, kXb, []⟩
abbrev kQ : Program := PySem.W.view kR.prog [30]
set_option maxHeartbeats 0
theorem k_falseA (w : World) : RunA kR kQ kL 20000 kNames (w.withFollow "special-get-raises" false) := by
  intro os
  kernel_rfl
theorem k_falseB (w : World) : RunB kR kL 20000 (w.withFollow "special-get-raises" false) := by
  intro os
  kernel_rfl
theorem k_trueA (w : World) : RunA kR kQ kL 20000 kNames (w.withFollow "special-get-raises" true) := by
  intro os
  kernel_rfl
theorem k_trueB (w : World) : RunB kR kL 20000 (w.withFollow "special-get-raises" true) := by
  intro os
  kernel_rfl
theorem k_run (w : World) : HandSHeadRun.RunEq kR kQ (hookL kL) (fun s => (obA kL s, obB kL s)) 20000 kNames w := PySem.W.byRow2 "special-get-raises" (fun w => run_ab (k_falseA w) (k_falseB w)) (fun w => run_ab (k_trueA w) (k_trueB w)) w
theorem k_facts {l : PySem.W.OpenLaw} {w : World} {K : PySem.W.Frag} {h : Heap} {mg : Str → Option Value} {fa : Addr} (X : K.In h) (G : h.Ns mainGlobals mg) (hfa : mg "law" = some (.ref fa)) (c : SaysL kL w K) (hlp : l.prog = kR.prog) :
    ∃ fd : FuncData, (∀ (s : Shared) (v : Value), BindsTo s fd ⟨[v], []⟩ [("script", v)]) ∧ ∀ base : Heap, K.In base → base.Ns mainGlobals mg → Ly.FnR l.prog w K mg base (L2.CX l.prog w) (Rgd 5) fa fd ["script"] (spM K 1 m_law) := by
  obtain ⟨oc__law_next, od__law_next, sl__law_next, kV__law_next, dc__law_next, pm__law_next, an__law_next, cd__law_next, ct__law_next, l__law_next, c__law_next⟩ := c.def_ 0 (d := fd__law_next)
  obtain ⟨oc__law_regions, od__law_regions, sl__law_regions, kV__law_regions, dc__law_regions, pm__law_regions, an__law_regions, cd__law_regions, ct__law_regions, l__law_regions, c__law_regions⟩ := c.def_ 1 (d := fd__law_regions)
  obtain ⟨oc__law_span, od__law_span, sl__law_span, kV__law_span, dc__law_span, pm__law_span, an__law_span, cd__law_span, ct__law_span, l__law_span, c__law_span⟩ := c.def_ 2 (d := fd__law_span)
  obtain ⟨oc__law_row, od__law_row, sl__law_row, kV__law_row, dc__law_row, pm__law_row, an__law_row, cd__law_row, ct__law_row, l__law_row, c__law_row⟩ := c.def_ 3 (d := fd__law_row)
  obtain ⟨oc__law_code, od__law_code, sl__law_code, kV__law_code, dc__law_code, pm__law_code, an__law_code, cd__law_code, ct__law_code, l__law_code, c__law_code⟩ := c.def_ 4 (d := fd__law_code)
  obtain ⟨oc__law_region, od__law_region, sl__law_region, kV__law_region, dc__law_region, pm__law_region, an__law_region, cd__law_region, ct__law_region, l__law_region, c__law_region⟩ := c.def_ 5 (d := fd__law_region)
  obtain ⟨oc__law_behind, od__law_behind, sl__law_behind, kV__law_behind, dc__law_behind, pm__law_behind, an__law_behind, cd__law_behind, ct__law_behind, l__law_behind, c__law_behind⟩ := c.def_ 6 (d := fd__law_behind)
  obtain ⟨oc__law_ways, od__law_ways, sl__law_ways, kV__law_ways, dc__law_ways, pm__law_ways, an__law_ways, cd__law_ways, ct__law_ways, l__law_ways, c__law_ways⟩ := c.def_ 7 (d := fd__law_ways)
  obtain ⟨oc__law_greatest, od__law_greatest, sl__law_greatest, kV__law_greatest, dc__law_greatest, pm__law_greatest, an__law_greatest, cd__law_greatest, ct__law_greatest, l__law_greatest, c__law_greatest⟩ := c.def_ 8 (d := fd__law_greatest)
  obtain ⟨oc__law_draws, od__law_draws, sl__law_draws, kV__law_draws, dc__law_draws, pm__law_draws, an__law_draws, cd__law_draws, ct__law_draws, l__law_draws, c__law_draws⟩ := c.def_ 9 (d := fd__law_draws)
  obtain ⟨oc__law_paper, od__law_paper, sl__law_paper, kV__law_paper, dc__law_paper, pm__law_paper, an__law_paper, cd__law_paper, ct__law_paper, l__law_paper, c__law_paper⟩ := c.def_ 10 (d := fd__law_paper)
  obtain ⟨oc_is_number, od_is_number, sl_is_number, kV_is_number, dc_is_number, pm_is_number, an_is_number, cd_is_number, ct_is_number, l_is_number, c_is_number⟩ := c.def_ 11 (d := fd_is_number)
  obtain ⟨oc_is_paper, od_is_paper, sl_is_paper, kV_is_paper, dc_is_paper, pm_is_paper, an_is_paper, cd_is_paper, ct_is_paper, l_is_paper, c_is_paper⟩ := c.def_ 12 (d := fd_is_paper)
  obtain ⟨oc_ways, od_ways, sl_ways, kV_ways, dc_ways, pm_ways, an_ways, cd_ways, ct_ways, l_ways, c_ways⟩ := c.def_ 13 (d := fd_ways)
  obtain ⟨oc_writes, od_writes, sl_writes, kV_writes, dc_writes, pm_writes, an_writes, cd_writes, ct_writes, l_writes, c_writes⟩ := c.def_ 14 (d := fd_writes)
  obtain ⟨oc_reads, od_reads, sl_reads, kV_reads, dc_reads, pm_reads, an_reads, cd_reads, ct_reads, l_reads, c_reads⟩ := c.def_ 15 (d := fd_reads)
  obtain ⟨oc_region_of, od_region_of, sl_region_of, kV_region_of, dc_region_of, pm_region_of, an_region_of, cd_region_of, ct_region_of, l_region_of, c_region_of⟩ := c.def_ 16 (d := fd_region_of)
  obtain ⟨oc__makes_public, od__makes_public, sl__makes_public, kV__makes_public, dc__makes_public, pm__makes_public, an__makes_public, cd__makes_public, ct__makes_public, l__makes_public, c__makes_public⟩ := c.def_ 17 (d := fd__makes_public)
  obtain ⟨oc_public_behind, od_public_behind, sl_public_behind, kV_public_behind, dc_public_behind, pm_public_behind, an_public_behind, cd_public_behind, ct_public_behind, l_public_behind, c_public_behind⟩ := c.def_ 18 (d := fd_public_behind)
  obtain ⟨oc_holds, od_holds, sl_holds, kV_holds, dc_holds, pm_holds, an_holds, cd_holds, ct_holds, l_holds, c_holds⟩ := c.def_ 19 (d := fd_holds)
  obtain ⟨oc_greatest_paper, od_greatest_paper, sl_greatest_paper, kV_greatest_paper, dc_greatest_paper, pm_greatest_paper, an_greatest_paper, cd_greatest_paper, ct_greatest_paper, l_greatest_paper, c_greatest_paper⟩ := c.def_ 20 (d := fd_greatest_paper)
  obtain ⟨oc__law_is_member, od__law_is_member, sl__law_is_member, kV__law_is_member, dc__law_is_member, pm__law_is_member, an__law_is_member, cd__law_is_member, ct__law_is_member, l__law_is_member, c__law_is_member⟩ := c.def_ 21 (d := fd__law_is_member)
  obtain ⟨oc__law_holds, od__law_holds, sl__law_holds, kV__law_holds, dc__law_holds, pm__law_holds, an__law_holds, cd__law_holds, ct__law_holds, l__law_holds, c__law_holds⟩ := c.def_ 22 (d := fd__law_holds)
  obtain ⟨oc_law, od_law, sl_law, kV_law, dc_law, pm_law, an_law, cd_law, ct_law, l_law, c_law⟩ := c.def_ 23 (d := fd_law)
  obtain ⟨u_REGISTERS, a_REGISTERS, t_REGISTERS⟩ := oV_ok (show oV K "REGISTERS" = some [some (.int 16)] from c.val 0 (t := xo_REGISTERS))
  obtain ⟨es_CODE_FORMS, n_CODE_FORMS, l_CODE_FORMS, t_wCODE_FORMS, t_kCODE_FORMS, v_CODE_FORMS⟩ := dicW_look (c.tab 0 (t := ts_CODE_FORMS))
  obtain ⟨oad_CODE_FORMS_0, iad_CODE_FORMS_0, nad_CODE_FORMS_0, sad_CODE_FORMS_0, l_ad_CODE_FORMS_0, t_ad_CODE_FORMS_0⟩ := oT_ok (show oT K (dcAt K (He.ga K "CODE_FORMS") 0) = some [some (.str "write"), some (.str "word")] from c.val 1 (t := xo_ad_CODE_FORMS_0))
  obtain ⟨oad_CODE_FORMS_1, iad_CODE_FORMS_1, nad_CODE_FORMS_1, sad_CODE_FORMS_1, l_ad_CODE_FORMS_1, t_ad_CODE_FORMS_1⟩ := oT_ok (show oT K (dcAt K (He.ga K "CODE_FORMS") 1) = some [some (.str "sign"), some (.str "write"), some (.str "read"), some (.str "read")] from c.val 2 (t := xo_ad_CODE_FORMS_1))
  obtain ⟨oad_CODE_FORMS_2, iad_CODE_FORMS_2, nad_CODE_FORMS_2, sad_CODE_FORMS_2, l_ad_CODE_FORMS_2, t_ad_CODE_FORMS_2⟩ := oT_ok (show oT K (dcAt K (He.ga K "CODE_FORMS") 2) = some [some (.str "write"), some (.str "read"), some (.str "read"), some (.str "read")] from c.val 3 (t := xo_ad_CODE_FORMS_2))
  obtain ⟨oad_CODE_FORMS_3, iad_CODE_FORMS_3, nad_CODE_FORMS_3, sad_CODE_FORMS_3, l_ad_CODE_FORMS_3, t_ad_CODE_FORMS_3⟩ := oT_ok (show oT K (dcAt K (He.ga K "CODE_FORMS") 3) = some [some (.str "write"), some (.str "read"), some (.str "base"), some (.str "mask")] from c.val 4 (t := xo_ad_CODE_FORMS_3))
  obtain ⟨oad_CODE_FORMS_4, iad_CODE_FORMS_4, nad_CODE_FORMS_4, sad_CODE_FORMS_4, l_ad_CODE_FORMS_4, t_ad_CODE_FORMS_4⟩ := oT_ok (show oT K (dcAt K (He.ga K "CODE_FORMS") 4) = some [some (.str "read"), some (.str "base"), some (.str "mask"), some (.str "read")] from c.val 5 (t := xo_ad_CODE_FORMS_4))
  obtain ⟨oad_CODE_FORMS_5, iad_CODE_FORMS_5, nad_CODE_FORMS_5, sad_CODE_FORMS_5, l_ad_CODE_FORMS_5, t_ad_CODE_FORMS_5⟩ := oT_ok (show oT K (dcAt K (He.ga K "CODE_FORMS") 5) = some [some (.str "read")] from c.val 6 (t := xo_ad_CODE_FORMS_5))
  obtain ⟨oad_CODE_FORMS_6, iad_CODE_FORMS_6, nad_CODE_FORMS_6, sad_CODE_FORMS_6, l_ad_CODE_FORMS_6, t_ad_CODE_FORMS_6⟩ := oT_ok (show oT K (dcAt K (He.ga K "CODE_FORMS") 6) = some [some (.str "target")] from c.val 7 (t := xo_ad_CODE_FORMS_6))
  obtain ⟨oad_CODE_FORMS_7, iad_CODE_FORMS_7, nad_CODE_FORMS_7, sad_CODE_FORMS_7, l_ad_CODE_FORMS_7, t_ad_CODE_FORMS_7⟩ := oT_ok (show oT K (dcAt K (He.ga K "CODE_FORMS") 7) = some [some (.str "read"), some (.str "target")] from c.val 8 (t := xo_ad_CODE_FORMS_7))
  obtain ⟨oad_CODE_FORMS_8, iad_CODE_FORMS_8, nad_CODE_FORMS_8, sad_CODE_FORMS_8, l_ad_CODE_FORMS_8, t_ad_CODE_FORMS_8⟩ := oT_ok (show oT K (dcAt K (He.ga K "CODE_FORMS") 8) = some [some (.str "read")] from c.val 9 (t := xo_ad_CODE_FORMS_8))
  exact all_mk (l := l) (w := w) X G hfa (He.eqO_ok (c.fact (.glo "_law_next") 0)) (l__law_next) (c__law_next) (He.keep_ok (c.fact (.keep "_law_next") 1)) (He.eqO_ok (c.fact (.glo "_law_regions") 2)) (l__law_regions) (c__law_regions) (He.keep_ok (c.fact (.keep "_law_regions") 3)) (He.eqO_ok (c.fact (.glo "_law_span") 4)) (l__law_span) (c__law_span) (He.keep_ok (c.fact (.keep "_law_span") 5)) (He.eqO_ok (c.fact (.glo "_law_row") 6)) (l__law_row) (c__law_row) (He.keep_ok (c.fact (.keep "_law_row") 7)) (He.eqO_ok (c.fact (.glo "_law_code") 8)) (l__law_code) (c__law_code) (He.keep_ok (c.fact (.keep "_law_code") 9)) (He.eqO_ok (c.fact (.glo "_law_region") 10)) (l__law_region) (c__law_region) (He.keep_ok (c.fact (.keep "_law_region") 11)) (He.eqO_ok (c.fact (.glo "_law_behind") 12)) (l__law_behind) (c__law_behind) (He.keep_ok (c.fact (.keep "_law_behind") 13)) (He.eqO_ok (c.fact (.glo "_law_ways") 14)) (l__law_ways) (c__law_ways) (He.keep_ok (c.fact (.keep "_law_ways") 15)) (He.eqO_ok (c.fact (.glo "_law_greatest") 16)) (l__law_greatest) (c__law_greatest) (He.keep_ok (c.fact (.keep "_law_greatest") 17)) (He.eqO_ok (c.fact (.glo "_law_draws") 18)) (l__law_draws) (c__law_draws) (He.keep_ok (c.fact (.keep "_law_draws") 19)) (He.eqO_ok (c.fact (.glo "_law_paper") 20)) (l__law_paper) (c__law_paper) (He.keep_ok (c.fact (.keep "_law_paper") 21)) (He.eqO_ok (c.fact (.glo "is_number") 22)) (l_is_number) (c_is_number) (He.keep_ok (c.fact (.keep "is_number") 23)) (He.eqO_ok (c.fact (.glo "is_paper") 24)) (l_is_paper) (c_is_paper) (He.keep_ok (c.fact (.keep "is_paper") 25)) (He.eqO_ok (c.fact (.glo "ways") 26)) (l_ways) (c_ways) (He.keep_ok (c.fact (.keep "ways") 27)) (He.eqO_ok (c.fact (.glo "writes") 28)) (l_writes) (c_writes) (He.keep_ok (c.fact (.keep "writes") 29)) (He.eqO_ok (c.fact (.glo "reads") 30)) (l_reads) (c_reads) (He.keep_ok (c.fact (.keep "reads") 31)) (He.eqO_ok (c.fact (.glo "region_of") 32)) (l_region_of) (c_region_of) (He.keep_ok (c.fact (.keep "region_of") 33)) (He.eqO_ok (c.fact (.glo "_makes_public") 34)) (l__makes_public) (c__makes_public) (He.keep_ok (c.fact (.keep "_makes_public") 35)) (He.eqO_ok (c.fact (.glo "public_behind") 36)) (l_public_behind) (c_public_behind) (He.keep_ok (c.fact (.keep "public_behind") 37)) (He.eqO_ok (c.fact (.glo "holds") 38)) (l_holds) (c_holds) (He.keep_ok (c.fact (.keep "holds") 39)) (He.eqO_ok (c.fact (.glo "greatest_paper") 40)) (l_greatest_paper) (c_greatest_paper) (He.keep_ok (c.fact (.keep "greatest_paper") 41)) (He.eqO_ok (c.fact (.glo "_law_is_member") 42)) (l__law_is_member) (c__law_is_member) (He.keep_ok (c.fact (.keep "_law_is_member") 43)) (He.eqO_ok (c.fact (.glo "_law_holds") 44)) (l__law_holds) (c__law_holds) (He.keep_ok (c.fact (.keep "_law_holds") 45)) (He.eqO_ok (c.fact (.glo "law") 46)) (l_law) (c_law) (He.keep_ok (c.fact (.keep "law") 47)) (a_REGISTERS) (t_REGISTERS) (He.eqO_ok (c.fact (.glo "CODE_FORMS") 48)) (l_CODE_FORMS) (t_wCODE_FORMS) (t_kCODE_FORMS) (v_CODE_FORMS.symm.trans (of_decide_eq_true (show (eqVs (dcVs K (He.ga K "CODE_FORMS")) [.ref (dcAt K (He.ga K "CODE_FORMS") 0), .ref (dcAt K (He.ga K "CODE_FORMS") 1), .ref (dcAt K (He.ga K "CODE_FORMS") 2), .ref (dcAt K (He.ga K "CODE_FORMS") 3), .ref (dcAt K (He.ga K "CODE_FORMS") 4), .ref (dcAt K (He.ga K "CODE_FORMS") 5), .ref (dcAt K (He.ga K "CODE_FORMS") 6), .ref (dcAt K (He.ga K "CODE_FORMS") 7), .ref (dcAt K (He.ga K "CODE_FORMS") 8)]) = true from c.chk 0 (f := xb_vCODE_FORMS)))) (l_ad_CODE_FORMS_0) (t_ad_CODE_FORMS_0) (l_ad_CODE_FORMS_1) (t_ad_CODE_FORMS_1) (l_ad_CODE_FORMS_2) (t_ad_CODE_FORMS_2) (l_ad_CODE_FORMS_3) (t_ad_CODE_FORMS_3) (l_ad_CODE_FORMS_4) (t_ad_CODE_FORMS_4) (l_ad_CODE_FORMS_5) (t_ad_CODE_FORMS_5) (l_ad_CODE_FORMS_6) (t_ad_CODE_FORMS_6) (l_ad_CODE_FORMS_7) (t_ad_CODE_FORMS_7) (l_ad_CODE_FORMS_8) (t_ad_CODE_FORMS_8) (He.eqO_ok (c.fact (.free "len") 49)) (He.eqO_ok (c.fact (.free "int") 50)) (He.eqO_ok (c.fact (.free "range") 51)) (He.eqO_ok (c.fact (.free "tuple") 52)) (He.eqO_ok (c.fact (.free "list") 53)) (He.eqO_ok (c.fact (.free "sorted") 54)) (He.eqO_ok (c.fact (.free "repr") 55)) (He.eqO_ok (c.fact (.free "abs") 56)) (He.eqO_ok (c.fact (.free "isinstance") 57)) (He.eqO_ok (c.fact (.free "bool") 58)) (He.eqO_ok (c.fact (.free "zip") 59)) (He.eqO_ok (c.fact (.free "enumerate") 60)) (He.eqO_ok (c.fact (.free "reversed") 61))
end GK64
open PySem PySem.W
open PyProof.Rows hiding St
set_option maxHeartbeats 0 in
theorem PySem.Challenge.cw_sameclock_k64_papers_that_hold_holds : PySem.Challenge.rw_sameclock_k64_papers_that_hold.Holds := by
  w_on; o_law
  refine HandSHeadRun.head_any (r := GK64.kR) (q := GK64.kQ) (H := Ly.hookL GK64.kL) (ob := fun s => (Ly.obA GK64.kL s, Ly.obB GK64.kL s)) (M := 20000) (loose := GK64.kNames) (d := HandSHeadRun.topDef GK64.kR.prog 30) (kwd := []) Ly.obL_eq (by kernel_rfl) (fun s => by kernel_rfl) GK64.k_run (by kernel_rfl) (by kernel_rfl) (by kernel_rfl) (by rfl) (by first | assumption | decide +kernel) (by decide +kernel) ⟨rfl, rfl, rfl, rfl, rfl, by decide +kernel⟩ ?hw ?hc
  case hw => w_witness2
  case hc =>
    refine Ly.walk_ofR (l := PySem.Challenge.rw_sameclock_k64_papers_that_hold) (n := 63) (k := 5) (x := "script") (CX := fun w => L2.CX (PySem.Challenge.rw_sameclock_k64_papers_that_hold).prog w) rfl (by decide) (by kernel_rfl) ⟨rfl, by decide, by decide⟩ ?F (fun w H s e s' => Ly.law_noexc)
    intro w mg fa h Y G hmg0
    obtain ⟨K, KX, c⟩ := Y
    have hmg : mg ("law" : PySem.Str) = some (.ref fa) := by
      have e : (HandSHeadRun.topDef GK64.kR.prog 30).name = ("law" : PySem.Str) := by kernel_rfl
      rw [← e]
      exact hmg0
    obtain ⟨fd, hb, hF⟩ := GK64.k_facts (l := PySem.Challenge.rw_sameclock_k64_papers_that_hold) (w := w) KX G hmg c rfl
    exact ⟨K, fd, _, KX, hb, fun H a ns hl hb hO hS => Ly.law_end GK64.law_true hl hb hO hS, hF⟩
