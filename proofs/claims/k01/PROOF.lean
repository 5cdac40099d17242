import PyProof.Rows.All
import Wide.All
import OpenK.AllK
import Wide.FinOn
import HandS.ForMost
import HandS.ForExc
import HandS.TupAny
import HandS.Wide
import HandS.Codes
import HandS.StrMore
import HandS.RaiseMore
import HandS.FStr
import HandS.More
import HandS.IsInst
import HandS.Style
import HandS.Deep
import HandS.Text
import HandS.TupLen
import HandS.Flow
import HandS.Iter
import HandS.Comp
import HandS.Exc
import HandS.CallSlots
import HandS.Words
import HandS.WordsExc
import HandS.Zip
import KE.GoesMore
import KE.GoesEnum
import KE.GoesZip
import HandS.Rev
import HandS.EndBits
import HandS.HeadHook3
import HandS.DictComp
import HandS.SetKeys
import HandS.Conv
import HandS.SortInts
import HandS.CallLocal
import PyProof.StrLawsIn
import HandS.WideBits
import HandS.TupMul
import KE.KDictZip
import KE.KDictPairs
import KE.KDictKeyed
import HandS.SetFor
import HandS.Strs
import HandS.SortKw
import KE.DataMinMax
import HandS.List
import HandS.RevRange
import HandS.ExcOwn
import HandS.ExcInit
import HandS.ExcIs
import HandS.ExcField
import HandS.TryMany
import HandS.TryOnly
import HandS.Small
import KE.KExcSuper
import KE.KSuper
import HandS.ExcSuper
import HandS.ClsMeth
import KE.KExcIs
import HandS.Head0
import HandS.Head1
import HandS.Head2
import HandS.HeadHook1
import Wide.Once
import PySem.Challenge.RW_sameclock_k01_programs_with_a_bad_place
set_option Elab.async false
set_option linter.all false
set_option maxRecDepth 100000
namespace Ly
open PySem PySem.Spec L2
open PyProof.Rows hiding St
inductive D where
  | non | bl (b : Bool) | int (i : Int) | str (x : Str) | tup (xs : List D) | wt (xs : List D) | wl (xs : List D) | ref (i : Nat) | cst (a : Addr)
inductive O where
  | lst (xs : List D) | rol (xs : List D) | dic (kvs : List (Key × D)) | dit (kvs : List (List Key × D)) | ins (C : Addr) (fs : List (Str × D))
abbrev Hs := List O
abbrev Ls := List (Option D)
def Wt (K : PySem.W.Frag) (a : Addr) (xs : List V) : Prop :=
  ∃ (o : Obj) (its : Array Value) (n : Nat), K.lookup a = some o ∧ o.cls = .type "tuple" ∧ o.data = .seq its n ∧ its.size ≤ sizeLine ∧ Vals xs its.toList
def Wl (K : PySem.W.Frag) (a : Addr) (xs : List V) : Prop :=
  ∃ (o : Obj) (its : Array Value) (n : Nat), K.lookup a = some o ∧ o.cls = .type "list" ∧ o.dict = none ∧ o.data = .seq its n ∧ its.size ≤ sizeLine ∧ Vals xs its.toList
theorem Wl.sq {K : PySem.W.Frag} {H : Hp} {a : Addr} {xs : List V} (h : Wl K a xs) : SqL K H a xs := .inr h
theorem Wt.sq {K : PySem.W.Frag} {H : Hp} {a : Addr} {xs : List V} (h : Wt K a xs) : SqT K H a xs := .inr h
section
variable (K : PySem.W.Frag) (pi : Nat → Addr) (n : Nat) (H : Hp)
mutual
inductive Rep : D → V → Prop
  | non : Rep .non .non
  | bl (b : Bool) : Rep (.bl b) (.bl b)
  | int (i : Int) : Rep (.int i) (.int i)
  | str (x : Str) : Rep (.str x) (.str x)
  | tup {a : Addr} {ds : List D} {xs : List V} : H a = some (.tup xs) → Reps ds xs → Rep (.tup ds) (.ref a)
  | wt {a : Addr} {ds : List D} {xs : List V} : Wt K a xs → Reps ds xs → Rep (.wt ds) (.ref a)
  | wl {a : Addr} {ds : List D} {xs : List V} : Wl K a xs → Reps ds xs → Rep (.wl ds) (.ref a)
  | ref {i : Nat} : i < n → Rep (.ref i) (.ref (pi i))
  | cst (a : Addr) : Rep (.cst a) (.ref a)
inductive Reps : List D → List V → Prop
  | nil : Reps [] []
  | cons {d : D} {ds : List D} {v : V} {vs : List V} : Rep d v → Reps ds vs → Reps (d :: ds) (v :: vs)
end
inductive Sl : Ls → St → Prop
  | nil : Sl [] []
  | no {l : Ls} {s : St} (o : Option V) : Sl l s → Sl (none :: l) (o :: s)
  | yes {l : Ls} {s : St} {d : D} {v : V} : Rep K pi n H d v → Sl l s → Sl (some d :: l) (some v :: s)
def RO (a : Addr) : O → Prop
  | .lst ds => ∃ xs, H a = some (.lst xs) ∧ Reps K pi n H ds xs
  | .rol ds => ∃ o xs, H a = some (.frz o (.lst xs)) ∧ Reps K pi n H ds xs
  | .dic kvs => ∃ ks, H a = some (.dK ks) ∧ ks.map (·.1) = kvs.map (·.1) ∧ Reps K pi n H (kvs.map (·.2)) (ks.map (·.2))
  | .dit kvs => ∃ ks, H a = some (.dT ks) ∧ ks.map (·.1) = kvs.map (·.1) ∧ Reps K pi n H (kvs.map (·.2)) (ks.map (·.2))
  | .ins C fs => ∃ dx ks, H a = some (.ins C dx ks) ∧ ks.map (·.1) = fs.map (·.1) ∧ Reps K pi n H (fs.map (·.2)) (ks.map (·.2))
end
structure Real (K : PySem.W.Frag) (pi : Nat → Addr) (S : Hs) (H : Hp) : Prop where
  ob : ∀ i o, S[i]? = some o → RO K pi S.length H (pi i) o
  inj : ∀ i j, i < S.length → j < S.length → pi i = pi j → i = j
structure Ext (n m : Nat) (pi pi' : Nat → Addr) (H H' : Hp) : Prop where
  le : n ≤ m
  ag : ∀ i, i < n → pi' i = pi i
  tp : ∀ a xs, H a = some (.tup xs) → H' a = some (.tup xs)
theorem Ext.refl {n : Nat} {pi : Nat → Addr} {H : Hp} : Ext n n pi pi H H := ⟨Nat.le_refl _, fun _ _ => rfl, fun _ _ h => h⟩
theorem Ext.trans {n m k : Nat} {p q r : Nat → Addr} {H H1 H2 : Hp} (a : Ext n m p q H H1) (b : Ext m k q r H1 H2) : Ext n k p r H H2 :=
  ⟨Nat.le_trans a.le b.le, fun i h => (b.ag i (Nat.lt_of_lt_of_le h a.le)).trans (a.ag i h), fun x xs h => b.tp x xs (a.tp x xs h)⟩
section
variable {K : PySem.W.Frag} {pi pi' : Nat → Addr} {n m : Nat} {H H' : Hp}
mutual
theorem Rep.ext (x : Ext n m pi pi' H H') : ∀ (d : D) (v : V), Rep K pi n H d v → Rep K pi' m H' d v
  | .non, _, .non => .non
  | .bl _, _, .bl _ => .bl _
  | .int _, _, .int _ => .int _
  | .str _, _, .str _ => .str _
  | .tup ds, _, .tup t r => .tup (x.tp _ _ t) (Reps.ext x ds _ r)
  | .wt ds, _, .wt t r => .wt t (Reps.ext x ds _ r)
  | .wl ds, _, .wl t r => .wl t (Reps.ext x ds _ r)
  | .ref i, _, .ref h => by rw [← x.ag i h]; exact .ref (Nat.lt_of_lt_of_le h x.le)
  | .cst _, _, .cst _ => .cst _
theorem Reps.ext (x : Ext n m pi pi' H H') : ∀ (d : List D) (v : List V), Reps K pi n H d v → Reps K pi' m H' d v
  | [], _, .nil => .nil
  | d :: ds, _, .cons r s => .cons (Rep.ext x d _ r) (Reps.ext x ds _ s)
end
theorem Sl.ext (x : Ext n m pi pi' H H') {l : Ls} {s : St} (h : Sl K pi n H l s) : Sl K pi' m H' l s := by
  induction h with
  | nil => exact .nil
  | no o _ ih => exact .no o ih
  | yes r _ ih => exact .yes (r.ext x _ _) ih
theorem RO.ext (x : Ext n m pi pi' H H') {a : Addr} {o : O} (h : RO K pi n H a o) (e : H' a = H a) : RO K pi' m H' a o := by
  cases o with
  | lst ds => obtain ⟨xs, h1, h2⟩ := h; exact ⟨xs, e.trans h1, h2.ext x _ _⟩
  | rol ds => obtain ⟨o, xs, h1, h2⟩ := h; exact ⟨o, xs, e.trans h1, h2.ext x _ _⟩
  | dic kvs => obtain ⟨ks, h1, h2, h3⟩ := h; exact ⟨ks, e.trans h1, h2, h3.ext x _ _⟩
  | dit kvs => obtain ⟨ks, h1, h2, h3⟩ := h; exact ⟨ks, e.trans h1, h2, h3.ext x _ _⟩
  | ins C fs => obtain ⟨dx, ks, h1, h2, h3⟩ := h; exact ⟨dx, ks, e.trans h1, h2, h3.ext x _ _⟩
theorem RO.some {a : Addr} {o : O} (h : RO K pi n H a o) : ∃ u, H a = some u ∧ ∀ xs, u ≠ .tup xs := by
  cases o with
  | lst ds => obtain ⟨xs, h1, h2⟩ := h; exact ⟨_, h1, fun _ => nofun⟩
  | rol ds => obtain ⟨o, xs, h1, h2⟩ := h; exact ⟨_, h1, fun _ => nofun⟩
  | dic kvs => obtain ⟨ks, h1, h2, h3⟩ := h; exact ⟨_, h1, fun _ => nofun⟩
  | dit kvs => obtain ⟨ks, h1, h2, h3⟩ := h; exact ⟨_, h1, fun _ => nofun⟩
  | ins C fs => obtain ⟨dx, ks, h1, h2, h3⟩ := h; exact ⟨_, h1, fun _ => nofun⟩
theorem Reps.len {ds : List D} {vs : List V} (h : Reps K pi n H ds vs) : ds.length = vs.length := by
  induction ds generalizing vs with
  | nil => cases h; rfl
  | cons d ds ih => cases h with | cons r s => rw [List.length_cons, List.length_cons, ih s]
theorem Reps.append {ds es : List D} {vs us : List V} (h : Reps K pi n H ds vs) (g : Reps K pi n H es us) : Reps K pi n H (ds ++ es) (vs ++ us) := by
  induction ds generalizing vs with
  | nil => cases h; exact g
  | cons d ds ih => cases h with | cons r s => exact .cons r (ih s)
theorem Reps.get {ds : List D} {vs : List V} (h : Reps K pi n H ds vs) {i : Nat} {d : D} (e : ds[i]? = some d) : ∃ v, vs[i]? = some v ∧ Rep K pi n H d v := by
  induction ds generalizing vs i with
  | nil => simp at e
  | cons d ds ih =>
    cases h with
    | cons r s =>
      cases i with
      | zero => simp at e; subst e; exact ⟨_, rfl, r⟩
      | succ i => simpa using ih s (by simpa using e)
theorem Reps.take {ds : List D} {vs : List V} (h : Reps K pi n H ds vs) (i : Nat) : Reps K pi n H (ds.take i) (vs.take i) := by
  induction ds generalizing vs i with
  | nil => cases h; simp; exact .nil
  | cons d ds ih => cases h with | cons r s => cases i with | zero => exact .nil | succ i => exact .cons r (ih s i)
theorem Reps.drop {ds : List D} {vs : List V} (h : Reps K pi n H ds vs) (i : Nat) : Reps K pi n H (ds.drop i) (vs.drop i) := by
  induction ds generalizing vs i with
  | nil => cases h; simp; exact .nil
  | cons d ds ih => cases h with | cons r s => cases i with | zero => exact .cons r s | succ i => exact ih s i
theorem Reps.set {ds : List D} {vs : List V} (h : Reps K pi n H ds vs) (i : Nat) {d : D} {v : V} (r : Rep K pi n H d v) : Reps K pi n H (ds.set i d) (vs.set i v) := by
  induction ds generalizing vs i with
  | nil => cases h; exact .nil
  | cons d ds ih => cases h with | cons r s => cases i with | zero => exact .cons (by assumption) s | succ i => exact .cons r (ih s i)
theorem Sl.len {l : Ls} {s : St} (h : Sl K pi n H l s) : l.length = s.length := by
  induction h with
  | nil => rfl
  | no _ _ ih => simp [ih]
  | yes _ _ ih => simp [ih]
theorem Sl.get {l : Ls} {s : St} (h : Sl K pi n H l s) {i : Nat} {d : D} (e : l[i]? = some (some d)) : ∃ v, s[i]? = some (some v) ∧ Rep K pi n H d v := by
  induction h generalizing i with
  | nil => simp at e
  | no o _ ih =>
    cases i with
    | zero => simp at e
    | succ i => simpa using ih (by simpa using e)
  | yes r _ ih =>
    cases i with
    | zero => simp at e; subst e; exact ⟨_, rfl, r⟩
    | succ i => simpa using ih (by simpa using e)
theorem Sl.set {l : Ls} {s : St} (h : Sl K pi n H l s) (i : Nat) {d : D} {v : V} (r : Rep K pi n H d v) : Sl K pi n H (l.set i (some d)) (s.set i (some v)) := by
  induction h generalizing i with
  | nil => exact .nil
  | no o t ih => cases i with | zero => exact .yes r t | succ i => exact .no o (ih i)
  | yes q t ih => cases i with | zero => exact .yes r t | succ i => exact .yes q (ih i)
theorem Sl.skip {l : Ls} {s : St} (h : Sl K pi n H l s) (i : Nat) (o : Option V) : Sl K pi n H (l.set i none) (s.set i o) := by
  induction h generalizing i with
  | nil => exact .nil
  | no o t ih => cases i with | zero => exact .no _ t | succ i => exact .no _ (ih i)
  | yes q t ih => cases i with | zero => exact .no _ t | succ i => exact .yes q (ih i)
def piN (pi : Nat → Addr) (n : Nat) (p : Addr) : Nat → Addr := fun i => if i = n then p else pi i
theorem piN_same {p : Addr} : piN pi n p n = p := if_pos rfl
theorem piN_ne {p : Addr} {i : Nat} (h : i ≠ n) : piN pi n p i = pi i := if_neg h
theorem Real.at {S : Hs} (R : Real K pi S H) {i : Nat} (h : i < S.length) : ∃ u, H (pi i) = some u ∧ ∀ xs, u ≠ .tup xs := (R.ob i _ (List.getElem?_eq_getElem h)).some
theorem ext_new {S : Hs} {p : Addr} {u : HO} (hp : H p = none) : Ext S.length (S.length + 1) pi (piN pi S.length p) H (upd H p u) :=
  ⟨Nat.le_succ _, fun i h => piN_ne (Nat.ne_of_lt h), fun a xs h => by rw [upd_ne (ne_of_none h hp)]; exact h⟩
theorem Real.new {S : Hs} {p : Addr} {u : HO} {o : O} (R : Real K pi S H) (hp : H p = none) (h : RO K (piN pi S.length p) (S.length + 1) (upd H p u) p o) : Real K (piN pi S.length p) (S ++ [o]) (upd H p u) := by
  have hn : ∀ i, i < S.length → pi i ≠ p := fun i hi => by obtain ⟨u, e, _⟩ := R.at hi; exact ne_of_none e hp
  refine ⟨fun i o' e => ?_, fun i j hi hj e => ?_⟩
  · rw [List.length_append, List.length_singleton]
    by_cases hi : i < S.length
    · rw [List.getElem?_append_left hi] at e
      rw [piN_ne (Nat.ne_of_lt hi)]
      exact (R.ob i o' e).ext (ext_new hp) (upd_ne (hn i hi))
    · rw [List.getElem?_append_right (Nat.le_of_not_lt hi)] at e
      have : i = S.length := by
        have := (List.getElem?_eq_some_iff.mp e).1
        simp at this; omega
      subst this
      simp at e; subst e
      rw [piN_same]; exact h
  · simp at hi hj
    by_cases h1 : i = S.length <;> by_cases h2 : j = S.length
    · omega
    · subst h1; rw [piN_same, piN_ne h2] at e; exact absurd e.symm (hn j (by omega))
    · subst h2; rw [piN_same, piN_ne h1] at e; exact absurd e (hn i (by omega))
    · rw [piN_ne h1, piN_ne h2] at e; exact R.inj i j (by omega) (by omega) e
theorem ext_upd {a : Addr} {u : HO} (h : ∀ xs, H a ≠ some (.tup xs)) : Ext n n pi pi H (upd H a u) :=
  ⟨Nat.le_refl _, fun _ _ => rfl, fun b xs e => by
    by_cases hb : b = a
    · subst hb; exact absurd e (h xs)
    · rw [upd_ne hb]; exact e⟩
theorem Real.notup {S : Hs} (R : Real K pi S H) {i : Nat} (h : i < S.length) : ∀ xs, H (pi i) ≠ some (.tup xs) := fun xs e => by
  obtain ⟨u, e1, e2⟩ := R.at h
  rw [e] at e1; exact e2 xs (Option.some.inj e1).symm
theorem Real.put {S : Hs} {i : Nat} {u : HO} {o : O} (R : Real K pi S H) (hi : i < S.length) (h : RO K pi S.length (upd H (pi i) u) (pi i) o) : Real K pi (S.set i o) (upd H (pi i) u) := by
  refine ⟨fun j o' e => ?_, fun j k hj hk e => R.inj j k (by simpa using hj) (by simpa using hk) e⟩
  rw [List.length_set]
  by_cases hj : j = i
  · subst hj
    rw [List.getElem?_set_self hi] at e
    cases e; exact h
  · rw [List.getElem?_set_ne (Ne.symm hj)] at e
    have hl := (List.getElem?_eq_some_iff.mp e).1
    exact (R.ob j o' e).ext (ext_upd (R.notup hi)) (upd_ne fun z => hj (R.inj j i hl hi z))
end
inductive R (α : Type) where
  | ok (a : α) (S : Hs)
  | exc (c : V) (fs : Option (List (Str × D))) (l : Ls) (S : Hs)
  | bad
def R.bind {α β : Type} (r : R α) (k : α → Hs → R β) : R β :=
  match r with
  | .ok a S => k a S
  | .exc c fs l S => .exc c fs l S
  | .bad => .bad
@[simp] theorem R.bind_ok {α β : Type} (a : α) (S : Hs) (k : α → Hs → R β) : (R.ok a S).bind k = k a S := (show (R.ok a S).bind k = k a S from rfl).trans (Eq.refl _)
@[simp] theorem R.bind_exc {α β : Type} (c fs l S) (k : α → Hs → R β) : (R.exc c fs l S : R α).bind k = .exc c fs l S := (show (R.exc c fs l S : R α).bind k = .exc c fs l S from rfl).trans (Eq.refl _)
@[simp] theorem R.bind_bad {α β : Type} (k : α → Hs → R β) : (R.bad : R α).bind k = .bad := (show (R.bad : R α).bind k = .bad from rfl).trans (Eq.refl _)
def XFs (K : PySem.W.Frag) (pi : Nat → Addr) (n : Nat) (H : Hp) : Option Addr → Option (List (Str × D)) → Prop
  | none, none => True
  | some d, some fs => ∃ ks, H d = some (.xd ks) ∧ ks.map (·.1) = fs.map (·.1) ∧ Reps K pi n H (fs.map (·.2)) (ks.map (·.2))
  | _, _ => False
def Post {α : Type} (K : PySem.W.Frag) (E : St → XK) (n : Nat) (pi : Nat → Addr) (H : Hp) (r : R α) (Q : α → Hs → (Nat → Addr) → Hp → Prop) : Prop :=
  match r with
  | .ok a S => ∀ pi' H', Ext n S.length pi pi' H H' → Real K pi' S H' → Q a S pi' H'
  | .exc c fs l S => ∀ pi' H' u d s, Ext n S.length pi pi' H H' → Real K pi' S H' → RelV c u → XFs K pi' S.length H' d fs → Sl K pi' S.length H' l s → E s u d H'
  | .bad => False
section
variable {α β : Type} {K : PySem.W.Frag} {E : St → XK} {n m : Nat} {pi pi' : Nat → Addr} {H H' : Hp}
theorem Post.ext {r : R α} {Q : α → Hs → (Nat → Addr) → Hp → Prop} (h : Post K E n pi H r Q) (x : Ext n m pi pi' H H') : Post K E m pi' H' r Q := by
  cases r with
  | ok a S => exact fun p2 H2 y R => h p2 H2 (x.trans y) R
  | exc c fs l S => exact fun p2 H2 u d s y R r f => h p2 H2 u d s (x.trans y) R r f
  | bad => exact h
theorem Post.mono {r : R α} {Q Q' : α → Hs → (Nat → Addr) → Hp → Prop} (h : Post K E n pi H r Q)
    (w : ∀ a S p2 H2, r = .ok a S → Ext n S.length pi p2 H H2 → Real K p2 S H2 → Q a S p2 H2 → Q' a S p2 H2) : Post K E n pi H r Q' := by
  cases r with
  | ok a S => exact fun p2 H2 y R => w a S p2 H2 rfl y R (h p2 H2 y R)
  | exc c fs l S => exact h
  | bad => exact h
theorem Post.bind {r : R α} {k : α → Hs → R β} {Q : β → Hs → (Nat → Addr) → Hp → Prop} (h : Post K E n pi H (r.bind k) Q) :
    Post K E n pi H r (fun a S1 p1 H1 => Post K E S1.length p1 H1 (k a S1) Q) := by
  cases r with
  | ok a S => exact fun p2 H2 y R => Post.ext (show Post K E n pi H (k a S) Q from h) y
  | exc c fs l S => exact h
  | bad => exact h
theorem Post.ok {a : α} {S : Hs} {Q : α → Hs → (Nat → Addr) → Hp → Prop} (h : Post K E n pi H (.ok a S) Q) (x : Ext n S.length pi pi' H H') (R : Real K pi' S H') : Q a S pi' H' := h pi' H' x R
end
abbrev M := Ls → Hs → R D
abbrev MB := Ls → Hs → R Bool
abbrev ML := Ls → Hs → R (List D)
inductive F where
  | nx (l : Ls) | rt (d : D) | bk (l : Ls) | ct (l : Ls)
abbrev MS := Ls → Hs → R F
abbrev QD (K : PySem.W.Frag) (Q : VK) : D → Hs → (Nat → Addr) → Hp → Prop := fun d S p H => ∀ v, Rep K p S.length H d v → Q v H
abbrev QL (K : PySem.W.Frag) (Q : List V → Hp → Prop) : List D → Hs → (Nat → Addr) → Hp → Prop := fun d S p H => ∀ v, Reps K p S.length H d v → Q v H
abbrev QB (Q : Bool → Hp → Prop) : Bool → Hs → (Nat → Addr) → Hp → Prop := fun d _ _ H => Q d H
def QF (K : PySem.W.Frag) (D0 : Ends) : F → Hs → (Nat → Addr) → Hp → Prop := fun f S p H =>
  match f with
  | .nx l => ∀ s, Sl K p S.length H l s → D0.nx s H
  | .rt d => ∀ v, Rep K p S.length H d v → D0.rt v H
  | .bk l => ∀ s, Sl K p S.length H l s → D0.bk s H
  | .ct l => ∀ s, Sl K p S.length H l s → D0.ct s H
def T (K : PySem.W.Frag) (E : St → XK) (f : M) : TE := fun s H Q => ∃ p l S, Real K p S H ∧ Sl K p S.length H l s ∧ Post K E S.length p H (f l S) (QD K Q)
def TB (K : PySem.W.Frag) (E : St → XK) (f : MB) : TT := fun s H Q => ∃ p l S, Real K p S H ∧ Sl K p S.length H l s ∧ Post K E S.length p H (f l S) (QB Q)
def TL (K : PySem.W.Frag) (E : St → XK) (f : ML) : TA := fun s H Q => ∃ p l S, Real K p S H ∧ Sl K p S.length H l s ∧ Post K E S.length p H (f l S) (QL K Q)
def TSt (K : PySem.W.Frag) (E : St → XK) (f : MS) : TS := fun D0 s H => ∃ p l S, Real K p S H ∧ Sl K p S.length H l s ∧ Post K E S.length p H (f l S) (QF K D0)
structure EM (X : Cx) (E : St → XK) (e : Expr) (f : M) : Prop where pe : PE X e (T X.K E f)
structure BM (X : Cx) (E : St → XK) (e : Expr) (f : MB) : Prop where pt : PT X e (TB X.K E f)
structure BW (X : Cx) (E : St → XK) (e : Expr) (f : MB) : Prop where pw : PW X e (TB X.K E f)
structure LM (X : Cx) (E : St → XK) (es : List Expr) (f : ML) : Prop where pa : PA X es (TL X.K E f)
structure SM (X : Cx) (E : St → XK) (st : Stmt) (f : MS) : Prop where ps : PS X st (TSt X.K E f)
structure SMs (X : Cx) (E : St → XK) (st : List Stmt) (f : MS) : Prop where ps : PSs X st (TSt X.K E f)
section
variable {X : Cx} {t t' : TE}
theorem _root_.L2.PE.weak {e : Expr} (h : PE X e t) (w : ∀ s H Q, t' s H Q → t s H Q) : PE X e t' := ⟨fun pins s σ H Q I q => h.run pins s σ H Q I (w σ H Q q)⟩
theorem _root_.L2.PT.weak {e : Expr} {t t' : TT} (h : PT X e t) (w : ∀ s H Q, t' s H Q → t s H Q) : PT X e t' := ⟨fun pins s σ H Q I q => h.run pins s σ H Q I (w σ H Q q)⟩
theorem _root_.L2.PW.weak {e : Expr} {t t' : TT} (h : PW X e t) (w : ∀ s H Q, t' s H Q → t s H Q) : PW X e t' := ⟨fun wh pins s σ H Q I q => h.run wh pins s σ H Q I (w σ H Q q)⟩
theorem _root_.L2.PA.weak {e : List Expr} {t t' : TA} (h : PA X e t) (w : ∀ s H Q, t' s H Q → t s H Q) : PA X e t' := ⟨fun pos pins s σ H Q I q => h.run pos pins s σ H Q I (w σ H Q q)⟩
theorem _root_.L2.PS.weak {e : Stmt} {t t' : TS} (h : PS X e t) (w : ∀ s H Q, t' Q s H → t Q s H) : PS X e t' := ⟨fun pins s σ H Q I q => h.run pins s σ H Q I (w σ H Q q)⟩
theorem _root_.L2.PSs.weak {e : List Stmt} {t t' : TS} (h : PSs X e t) (w : ∀ s H Q, t' Q s H → t Q s H) : PSs X e t' := ⟨fun pins s σ H Q I q => h.run pins s σ H Q I (w σ H Q q)⟩
end
section
variable {K : PySem.W.Frag} {E : St → XK} {s : St} {H : Hp} {β : Type} {QQ : β → Hs → (Nat → Addr) → Hp → Prop}
theorem T.of {f : M} {k : D → Hs → R β} {p : Nat → Addr} {l : Ls} {S : Hs} {Q' : VK} (R : Real K p S H) (L : Sl K p S.length H l s) (h : Post K E S.length p H ((f l S).bind k) QQ)
    (st : ∀ p1 S1 H1 d v, Real K p1 S1 H1 → Ext S.length S1.length p p1 H H1 → Sl K p1 S1.length H1 l s → Rep K p1 S1.length H1 d v → Post K E S1.length p1 H1 (k d S1) QQ → Q' v H1) : T K E f s H Q' :=
  ⟨p, l, S, R, L, h.bind.mono fun a S1 p1 H1 _ x R1 q v r => st p1 S1 H1 a v R1 x (L.ext x) r q⟩
theorem TB.of {f : MB} {k : Bool → Hs → R β} {p : Nat → Addr} {l : Ls} {S : Hs} {Q' : Bool → Hp → Prop} (R : Real K p S H) (L : Sl K p S.length H l s) (h : Post K E S.length p H ((f l S).bind k) QQ)
    (st : ∀ p1 S1 H1 b, Real K p1 S1 H1 → Ext S.length S1.length p p1 H H1 → Sl K p1 S1.length H1 l s → Post K E S1.length p1 H1 (k b S1) QQ → Q' b H1) : TB K E f s H Q' :=
  ⟨p, l, S, R, L, h.bind.mono fun a S1 p1 H1 _ x R1 q => st p1 S1 H1 a R1 x (L.ext x) q⟩
theorem TL.of {f : ML} {k : List D → Hs → R β} {p : Nat → Addr} {l : Ls} {S : Hs} {Q' : List V → Hp → Prop} (R : Real K p S H) (L : Sl K p S.length H l s) (h : Post K E S.length p H ((f l S).bind k) QQ)
    (st : ∀ p1 S1 H1 d v, Real K p1 S1 H1 → Ext S.length S1.length p p1 H H1 → Sl K p1 S1.length H1 l s → Reps K p1 S1.length H1 d v → Post K E S1.length p1 H1 (k d S1) QQ → Q' v H1) : TL K E f s H Q' :=
  ⟨p, l, S, R, L, h.bind.mono fun a S1 p1 H1 _ x R1 q v r => st p1 S1 H1 a v R1 x (L.ext x) r q⟩
theorem T.last {f : M} {p : Nat → Addr} {l : Ls} {S : Hs} {Q : VK} (R : Real K p S H) (L : Sl K p S.length H l s) (h : Post K E S.length p H (f l S) (QD K Q)) : T K E f s H Q := ⟨p, l, S, R, L, h⟩
end
end Ly
set_option Elab.async false
set_option linter.all false
set_option maxRecDepth 100000
namespace Ly
open PySem PySem.Spec L2
open PyProof.Rows hiding St
section
variable {K : PySem.W.Frag} {E : St → XK} {p : Nat → Addr} {S : Hs} {H : Hp} {Q : VK}
theorem ext_junk {n : Nat} {q : Addr} {u : HO} (hq : H q = none) : Ext n n p p H (upd H q u) :=
  ⟨Nat.le_refl _, fun _ _ => rfl, fun a xs h => by rw [upd_ne (ne_of_none h hq)]; exact h⟩
theorem Real.junk {q : Addr} {u : HO} (R : Real K p S H) (hq : H q = none) : Real K p S (upd H q u) :=
  ⟨fun i o e => (R.ob i o e).ext (ext_junk hq) (by
    obtain ⟨z, e1, _⟩ := (R.ob i o e).some
    exact upd_ne (ne_of_none e1 hq)), R.inj⟩
theorem Post.val {d : D} (h : Post K E S.length p H (.ok d S) (QD K Q)) (R : Real K p S H) {v : V} (r : Rep K p S.length H d v) : Q v H := Post.ok h Ext.refl R v r
theorem Post.valT {ds : List D} {xs : List V} (h : Post K E S.length p H (.ok (.tup ds) S) (QD K Q)) (R : Real K p S H) (r : Reps K p S.length H ds xs) {q : Addr} (hq : H q = none) : Q (.ref q) (upd H q (.tup xs)) :=
  Post.ok h (ext_junk hq) (R.junk hq) _ (.tup upd_same (r.ext (ext_junk hq) _ _))
theorem Post.new {o : O} {u : HO} (h : Post K E S.length p H (.ok (.ref S.length) (S ++ [o])) (QD K Q)) (R : Real K p S H) {q : Addr} (hq : H q = none)
    (ro : RO K (piN p S.length q) (S.length + 1) (upd H q u) q o) : Q (.ref q) (upd H q u) := by
  have e : (S ++ [o]).length = S.length + 1 := by simp
  have := Post.ok h (by rw [e]; exact ext_new hq) (R.new hq ro) (.ref (piN p S.length q S.length)) (.ref (by rw [e]; exact Nat.lt_succ_self _))
  rwa [piN_same] at this
theorem Post.newL {ds : List D} {xs : List V} (h : Post K E S.length p H (.ok (.ref S.length) (S ++ [.lst ds])) (QD K Q)) (R : Real K p S H) (r : Reps K p S.length H ds xs) {q : Addr} (hq : H q = none) : Q (.ref q) (upd H q (.lst xs)) :=
  h.new R hq ⟨xs, upd_same, r.ext (ext_new hq) _ _⟩
theorem Post.put {d : D} {i : Nat} {o : O} {u : HO} (h : Post K E S.length p H (.ok d (S.set i o)) (QD K Q)) (R : Real K p S H) (hi : i < S.length) (ro : RO K p S.length (upd H (p i) u) (p i) o) {v : V} (r : Rep K p S.length (upd H (p i) u) d v) : Q v (upd H (p i) u) := by
  have e : (S.set i o).length = S.length := by simp
  exact Post.ok h (by rw [e]; exact ext_upd (R.notup hi)) (R.put hi ro) v (by rw [e]; exact r)
theorem Real.lst {i : Nat} {ds : List D} (R : Real K p S H) (e : S[i]? = some (.lst ds)) : ∃ xs, H (p i) = some (.lst xs) ∧ Reps K p S.length H ds xs := R.ob i _ e
theorem Real.lt {i : Nat} {o : O} (e : S[i]? = some o) : i < S.length := (List.getElem?_eq_some_iff.mp e).1
end
def OpOk (K : PySem.W.Frag) (E : St → XK) (r : R2) (op : D → D → Hs → R D) : Prop :=
  ∀ p S H x y v u Q, Real K p S H → Rep K p S.length H x v → Rep K p S.length H y u → Post K E S.length p H (op x y S) (QD K Q) → r v u H Q
def mBin (op : D → D → Hs → R D) (f g : M) : M := fun l S => (f l S).bind fun x S1 => (g l S1).bind fun y S2 => op x y S2
instance (i j : Int) : Decidable (IntMulOk i j) := inferInstanceAs (Decidable (¬ _))
def oAdd : D → D → Hs → R D
  | .int i, .int j, S => .ok (.int (i + j)) S
  | .str x, .str y, S => if x.length + y.length ≤ sizeLine then .ok (.str (x ++ y)) S else .bad
  | .tup xs, .tup ys, S => if xs.length + ys.length ≤ sizeLine then .ok (.tup (xs ++ ys)) S else .bad
  | .ref i, .ref j, S => match S[i]?, S[j]? with
    | some (.lst xs), some (.lst ys) => if xs.length + ys.length ≤ sizeLine then .ok (.ref S.length) (S ++ [.lst (xs ++ ys)]) else .bad
    | _, _ => .bad
  | _, _, _ => .bad
def oSub : D → D → Hs → R D
  | .int i, .int j, S => .ok (.int (i - j)) S
  | _, _, _ => .bad
def oMul : D → D → Hs → R D
  | .int i, .int j, S => if IntMulOk i j then .ok (.int (i * j)) S else .bad
  | .ref i, .int k, S => match S[i]? with
    | some (.lst xs) => if -(2 ^ 63) ≤ k ∧ k < 2 ^ 63 ∧ xs.length * k.toNat ≤ sizeLine then .ok (.ref S.length) (S ++ [.lst (List.replicate k.toNat xs).flatten]) else .bad
    | _ => .bad
  | _, _, _ => .bad
def oFdiv : D → D → Hs → R D
  | .int i, .int j, S => if 0 < j ∧ j.natAbs.log2 < 9000 then .ok (.int (i / j)) S else .bad
  | _, _, _ => .bad
def oMod : D → D → Hs → R D
  | .int i, .int j, S => if 0 < j then .ok (.int (i % j)) S else .bad
  | _, _, _ => .bad
def oPow : D → D → Hs → R D
  | .int i, .int j, S => if 0 ≤ j ∧ j ≤ 1000000 ∧ i.natAbs < 2 ^ 64 then .ok (.int (i ^ j.toNat)) S else .bad
  | _, _, _ => .bad
abbrev orR (r r' : R2) : R2 := fun x y H Q => r x y H Q ∨ r' x y H Q
section
variable {X : Cx} {E : St → XK} {a b : Expr} {f g : M} {pos : Pos}
theorem e_bin {o : Operator} {r : R2} {op : D → D → Hs → R D} (ho : OpR X (binaryOp o) r) (hk : OpOk X.K E r op) (ha : EM X E a f) (hb : EM X E b g) : EM X E (.BinOp a o b pos) (mBin op f g) :=
  ⟨(pe_op ho ha.pe hb.pe).weak fun s H Q ⟨p, l, S, R, L, h⟩ => T.of R L h fun p1 S1 H1 d v R1 x1 L1 r1 h1 => T.of R1 L1 h1 fun p2 S2 H2 d2 v2 R2 x2 L2 r2 h2 => hk p2 S2 H2 _ _ _ _ Q R2 (r1.ext x2 _ _) r2 h2⟩
abbrev rAddAll (K : PySem.W.Frag) : R2 := orR (rI0 fun i j => .int (i + j)) (orR (fun x y H Q => ∃ i j, x = V.str i ∧ y = V.str j ∧ i.length + j.length ≤ sizeLine ∧ Q (V.str (i ++ j)) H) (orR (rCatA K) rCat))
theorem or_add : OpR X (binaryOp .Add) (rAddAll X.K) := .or op_add (.or op_add_str (.or op_catA op_cat))
theorem ok_add {K : PySem.W.Frag} {E : St → XK} : OpOk K E (rAddAll K) oAdd := by
  intro p S H x y v u Q R rx ry h
  unfold oAdd at h
  split at h
  · cases rx; cases ry; exact .inl ⟨_, _, rfl, rfl, h.val R (.int _)⟩
  · split at h
    · rename_i hl; cases rx; cases ry; exact .inr (.inl ⟨_, _, rfl, rfl, hl, h.val R (.str _)⟩)
    · exact h.elim
  · split at h
    · rename_i xs ys _ hl
      cases rx with
      | @tup a ds vs t r =>
      cases ry with
      | @tup b es us t' r' =>
      refine .inr (.inr (.inl ⟨a, b, vs, us, rfl, rfl, SqT.of t, SqT.of t', by rw [← r.len, ← r'.len]; exact hl, fun e => ?_, fun e e' => ?_, fun e e' q hq => ?_⟩))
      · subst e; cases r; exact h.val R (.tup t' r')
      · subst e'; cases r'; rw [List.append_nil] at h; exact h.val R (.tup t r)
      · exact h.valT R (r.append r') hq
    · exact h.elim
  · split at h
    · rename_i i j _ _ _ xs ys e1 e2
      split at h
      · rename_i hl
        obtain ⟨vs, h1, r1⟩ := R.lst e1
        obtain ⟨us, h2, r2⟩ := R.lst e2
        cases rx; cases ry
        exact .inr (.inr (.inr ⟨_, _, vs, us, rfl, rfl, h1, h2, by rw [← r1.len, ← r2.len]; exact hl, fun q hq => h.newL R (r1.append r2) hq⟩))
      · exact h.elim
    · exact h.elim
  · exact h.elim
theorem e_add (ha : EM X E a f) (hb : EM X E b g) : EM X E (.BinOp a .Add b pos) (mBin oAdd f g) := e_bin or_add ok_add ha hb
theorem ok_I {K : PySem.W.Frag} {E : St → XK} {op : D → D → Hs → R D} {C : Int → Int → Prop} [∀ i j, Decidable (C i j)] {gg : Int → Int → Int}
    (h1 : ∀ i j S, op (.int i) (.int j) S = if C i j then .ok (.int (gg i j)) S else .bad) (h2 : ∀ x y S, (∀ i j, x = .int i → y = .int j → False) → op x y S = .bad) : OpOk K E (rI C fun i j => .int (gg i j)) op := by
  intro p S H x y v u Q R rx ry h
  by_cases e : ∃ i j, x = .int i ∧ y = .int j
  · obtain ⟨i, j, rfl, rfl⟩ := e
    rw [h1] at h
    cases rx; cases ry
    split at h
    · rename_i c; exact ⟨i, j, rfl, rfl, c, h.val R (.int _)⟩
    · exact h.elim
  · rw [h2 x y S fun i j a b => e ⟨i, j, a, b⟩] at h; exact h.elim
theorem ok_I0 {K : PySem.W.Frag} {E : St → XK} {op : D → D → Hs → R D} {gg : Int → Int → Int}
    (h1 : ∀ i j S, op (.int i) (.int j) S = .ok (.int (gg i j)) S) (h2 : ∀ x y S, (∀ i j, x = .int i → y = .int j → False) → op x y S = .bad) : OpOk K E (rI0 fun i j => .int (gg i j)) op := by
  intro p S H x y v u Q R rx ry h
  by_cases e : ∃ i j, x = .int i ∧ y = .int j
  · obtain ⟨i, j, rfl, rfl⟩ := e
    rw [h1] at h
    cases rx; cases ry
    exact ⟨i, j, rfl, rfl, h.val R (.int _)⟩
  · rw [h2 x y S fun i j a b => e ⟨i, j, a, b⟩] at h; exact h.elim
theorem e_sub (ha : EM X E a f) (hb : EM X E b g) : EM X E (.BinOp a .Sub b pos) (mBin oSub f g) :=
  e_bin op_sub (ok_I0 (fun _ _ _ => rfl) fun x y S h => by unfold oSub; split <;> first | rfl | exact (h _ _ rfl rfl).elim) ha hb
theorem op_mulA : OpR X (binaryOp .Mult) (rI IntMulOk fun i j => .int (i * j)) := opI fun _ _ _ _ _ _ _ hc q => mul_int q hc
theorem ok_mul {K : PySem.W.Frag} {E : St → XK} : OpOk K E (orR (rI IntMulOk fun i j => .int (i * j)) rRep) oMul := by
  intro p S H x y v u Q R rx ry h
  unfold oMul at h
  split at h
  · split at h
    · rename_i c; cases rx; cases ry; exact .inl ⟨_, _, rfl, rfl, c, h.val R (.int _)⟩
    · exact h.elim
  · split at h
    · rename_i e1
      split at h
      · rename_i hl
        obtain ⟨vs, h1, r1⟩ := R.lst e1
        cases rx; cases ry
        refine .inr ⟨_, _, vs, rfl, rfl, h1, hl.1, hl.2.1, by rw [← r1.len]; exact hl.2.2, fun q hq => h.newL R ?_ hq⟩
        generalize Int.toNat _ = n
        clear h hl
        induction n with
        | zero => exact .nil
        | succ n ih => rw [List.replicate_succ, List.replicate_succ, List.flatten_cons, List.flatten_cons]; exact r1.append ih
      · exact h.elim
    · exact h.elim
  · exact h.elim
theorem e_mul (ha : EM X E a f) (hb : EM X E b g) : EM X E (.BinOp a .Mult b pos) (mBin oMul f g) := e_bin (OpR.or op_mulA op_rep) ok_mul ha hb
theorem e_fdiv (ha : EM X E a f) (hb : EM X E b g) : EM X E (.BinOp a .FloorDiv b pos) (mBin oFdiv f g) :=
  e_bin op_fdivW (ok_I (C := fun _ j => 0 < j ∧ j.natAbs.log2 < 9000) (fun _ _ _ => rfl) fun x y S h => by unfold oFdiv; split <;> first | rfl | exact (h _ _ rfl rfl).elim) ha hb
theorem e_mod (ha : EM X E a f) (hb : EM X E b g) : EM X E (.BinOp a .Mod b pos) (mBin oMod f g) :=
  e_bin op_mod (ok_I (fun _ _ _ => rfl) fun x y S h => by unfold oMod; split <;> first | rfl | exact (h _ _ rfl rfl).elim) ha hb
theorem e_pow (ha : EM X E a f) (hb : EM X E b g) : EM X E (.BinOp a .Pow b pos) (mBin oPow f g) :=
  e_bin op_pow (ok_I (C := fun i j => 0 ≤ j ∧ j ≤ 1000000 ∧ i.natAbs < 2 ^ 64) (fun _ _ _ => rfl) fun x y S h => by unfold oPow; split <;> first | rfl | exact (h _ _ rfl rfl).elim) ha hb
def mVar (i : Nat) : M := fun l S => match l[i]? with
  | some (some d) => .ok d S
  | _ => .bad
def mC (d : D) : M := fun _ S => .ok d S
theorem e_of_var {e : Expr} {i : Nat} (h : PE X e (tVar i)) : EM X E e (mVar i) := ⟨h.weak fun s H Q ⟨p, l, S, R, L, h⟩ => by
  unfold mVar at h
  split at h
  · rename_i d e
    obtain ⟨v, h1, r⟩ := L.get e
    exact ⟨v, h1, h.val R r⟩
  · exact h.elim⟩
theorem e_of_c {e : Expr} {d : D} {v : V} (h : PE X e (tC v)) (hr : ∀ p n H, Rep X.K p n H d v) : EM X E e (mC d) := ⟨h.weak fun s H Q ⟨p, l, S, R, L, h⟩ => h.val R (hr _ _ _)⟩
theorem e_v (i : Nat) {x : Str} {pos : Pos} (hN : X.N[i]? = some x := by rfl) (hv : Vis X.env.scope x := by first | exact Or.inl rfl | exact Or.inr (Or.inl rfl) | exact Or.inr (Or.inr rfl)) (hd : (x == ("__debug__" : Str)) = false := by decide)
    (hcd : (x == ("__classdict__" : Str)) = false := by decide) : EM X E (.Name x pos) (mVar i) := e_of_var (pe_var hN hv hd hcd)
theorem e_int {i j pos} : EM X E (.Constant (.int i) j pos) (mC (.int i)) := e_of_c pe_int fun _ _ _ => .int _
theorem e_str {i j pos} : EM X E (.Constant (.str i) j pos) (mC (.str i)) := e_of_c pe_str fun _ _ _ => .str _
theorem e_bl {i j pos} : EM X E (.Constant (.bool i) j pos) (mC (.bl i)) := e_of_c pe_bl fun _ _ _ => .bl _
def mUn (op : D → Hs → R D) (f : M) : M := fun l S => (f l S).bind op
end
end Ly
set_option Elab.async false
set_option linter.all false
set_option maxRecDepth 100000
namespace Ly
open PySem PySem.Spec L2
open PyProof.Rows hiding St
mutual
def D.pd (S : Hs) : Nat → D → Option PyData
  | 0, _ => none
  | _ + 1, .non => some .none
  | _ + 1, .bl b => some (.bool b)
  | _ + 1, .int i => some (.int i)
  | _ + 1, .str x => some (.str x)
  | k + 1, .tup ds => (D.pds S k ds).map .tuple
  | k + 1, .wt ds => (D.pds S k ds).map .tuple
  | k + 1, .ref i => match S[i]? with
    | some (.lst ds) => (D.pds S k ds).map .list
    | some (.rol ds) => (D.pds S k ds).map .list
    | _ => none
  | _ + 1, .cst _ => none
  | _ + 1, .wl _ => none
def D.pds (S : Hs) : Nat → List D → Option (List PyData)
  | _, [] => some []
  | 0, _ :: _ => none
  | k + 1, d :: ds => match D.pd S k d, D.pds S (k + 1) ds with
    | some a, some b => some (a :: b)
    | _, _ => none
end
section
variable {K : PySem.W.Frag} {p : Nat → Addr} {S : Hs} {H : Hp}
mutual
theorem D.pd_dp (R : Real K p S H) : ∀ (k : Nat) (d : D) (v : V) (x : PyData), Rep K p S.length H d v → D.pd S k d = some x → Dp K H v x
  | 0, d, _, _, _, e => by simp [D.pd] at e
  | k + 1, .non, _, _, .non, e => by simp [D.pd] at e; subst e; exact .non
  | k + 1, .bl b, _, _, .bl _, e => by simp [D.pd] at e; subst e; exact .bl _
  | k + 1, .int b, _, _, .int _, e => by simp [D.pd] at e; subst e; exact .int _
  | k + 1, .str b, _, _, .str _, e => by simp [D.pd] at e; subst e; exact .str _
  | k + 1, .tup ds, _, _, .tup t r, e => by
    simp only [D.pd, Option.map_eq_some_iff] at e
    obtain ⟨xs, e, rfl⟩ := e
    exact .tup (SqT.of t) (D.pds_dp R k ds _ _ r e)
  | k + 1, .wt ds, _, _, .wt t r, e => by
    simp only [D.pd, Option.map_eq_some_iff] at e
    obtain ⟨xs, e, rfl⟩ := e
    exact .tup t.sq (D.pds_dp R k ds _ _ r e)
  | k + 1, .ref i, _, _, .ref h, e => by
    simp only [D.pd] at e
    split at e
    · rename_i ds q
      simp only [Option.map_eq_some_iff] at e
      obtain ⟨xs, e, rfl⟩ := e
      obtain ⟨vs, h1, r⟩ := R.lst q
      exact .lst (SqL.of h1) (D.pds_dp R k ds _ _ r e)
    · rename_i ds q
      simp only [Option.map_eq_some_iff] at e
      obtain ⟨xs, e, rfl⟩ := e
      obtain ⟨o, vs, h1, r⟩ := R.ob i _ q
      exact .lst (.inl (.inr ⟨o, h1⟩)) (D.pds_dp R k ds _ _ r e)
    · cases e
  | k + 1, .cst a, _, _, _, e => by simp [D.pd] at e
  | k + 1, .wl a, _, _, _, e => by simp [D.pd] at e
theorem D.pds_dp (R : Real K p S H) : ∀ (k : Nat) (d : List D) (v : List V) (x : List PyData), Reps K p S.length H d v → D.pds S k d = some x → DpAll K H v x
  | k, [], _, _, .nil, e => by cases k <;> (simp [D.pds] at e; subst e; exact .nil)
  | 0, d :: ds, _, _, _, e => by simp [D.pds] at e
  | k + 1, d :: ds, _, _, .cons r s, e => by
    simp only [D.pds] at e
    split at e
    · rename_i a b e1 e2
      cases e
      exact .cons (D.pd_dp R k d _ _ r e1) (D.pds_dp R (k + 1) ds _ _ s e2)
    · cases e
end
end
def cEqS : D → D → Option Bool
  | .int i, .int j => some (decide (i = j))
  | .str i, .str j => some (decide (i = j))
  | .bl i, .bl j => some (decide (i = j))
  | .non, .non => some true
  | .non, .int _ => some false
  | .int _, .non => some false
  | .non, .bl _ => some false
  | .bl _, .non => some false
  | .non, .str _ => some false
  | .str _, .non => some false
  | .int _, .str _ => some false
  | .str _, .int _ => some false
  | .bl _, .str _ => some false
  | .str _, .bl _ => some false
  | _, _ => none
def cEqD (x y : D) (S : Hs) : Option Bool :=
  match cEqS x y with
  | some b => some b
  | none => match D.pd S 70 x, D.pd S 70 y with
    | some a, some b => if SeqAt.shaped a = true ∧ SeqAt.shaped b = true then some (PyData.eqv a b) else none
    | _, _ => none
def oEq (x y : D) (S : Hs) : R D := match cEqD x y S with
  | some b => .ok (.bl b) S
  | none => .bad
def oNe (x y : D) (S : Hs) : R D := match cEqD x y S with
  | some b => .ok (.bl (!b)) S
  | none => .bad
def oLt : D → D → Hs → R D
  | .int i, .int j, S => .ok (.bl (decide (i < j))) S
  | _, _, _ => .bad
def oLe : D → D → Hs → R D
  | .int i, .int j, S => .ok (.bl (decide (i ≤ j))) S
  | _, _, _ => .bad
def oGt : D → D → Hs → R D
  | .int i, .int j, S => .ok (.bl (decide (j < i))) S
  | _, _, _ => .bad
def oGe : D → D → Hs → R D
  | .int i, .int j, S => .ok (.bl (decide (j ≤ i))) S
  | _, _, _ => .bad
def eqF : D → D → Bool
  | .non, .non => true
  | .bl a, .bl b => a == b
  | .bl a, .int b => (if a then 1 else 0) == b
  | .int a, .bl b => a == (if b then 1 else 0)
  | .int a, .int b => a == b
  | .str a, .str b => a == b
  | _, _ => false
def flatD : D → Bool
  | .non => true
  | .bl _ => true
  | .int _ => true
  | .str _ => true
  | _ => false
def inS (i j : Str) : Bool := match i with
  | ⟨⟨[c]⟩⟩ => decide (c ∈ j.cps.toList)
  | _ => !(Builtin.Str.occurrences j i 0 j.length 1).isEmpty
def D.key : D → Option Key
  | .int i => some (.inl i)
  | .str x => some (.inr x)
  | _ => none
def D.keys : List D → Option (List Key)
  | [] => some []
  | d :: ds => match d.key, D.keys ds with
    | some k, some l => some (k :: l)
    | _, _ => none
def D.tkey : D → Option (List Key)
  | .tup ds => D.keys ds
  | _ => none
def getK {κ : Type} [DecidableEq κ] (kvs : List (κ × D)) (k : κ) : Option D := (kvs.find? fun kv => decide (kv.1 = k)).map (·.2)
def setK {κ : Type} [DecidableEq κ] (kvs : List (κ × D)) (k : κ) (v : D) : List (κ × D) :=
  if (kvs.any fun kv => decide (kv.1 = k)) = true then kvs.map fun kv => if kv.1 = k then (kv.1, v) else kv else kvs ++ [(k, v)]
def dGet (x y : D) (S : Hs) : Option (Option D) := match x with
  | .ref i => match S[i]? with
    | some (.dic kvs) => match y.key with
      | some k => some (getK kvs k)
      | none => none
    | some (.dit kvs) => match y.tkey with
      | some k => some (getK kvs k)
      | none => none
    | _ => none
  | _ => none
def cIn (x y : D) (S : Hs) : Option Bool := match x, y with
  | .str i, .str j => some (inS i j)
  | x, .tup ds => if flatD x && ds.all flatD then some (ds.any fun z => eqF z x) else
    match D.pd S 70 x, D.pd S 70 (.tup ds) with
    | some a, some (.tuple b) => if SeqAt.shaped a = true ∧ SeqAt.shaped (.tuple b) = true then some (b.any fun z => z.eqv a) else none
    | _, _ => none
  | x, .wt ds => if flatD x && ds.all flatD then some (ds.any fun z => eqF z x) else
    match D.pd S 70 x, D.pd S 70 (.wt ds) with
    | some a, some (.tuple b) => if SeqAt.shaped a = true ∧ SeqAt.shaped (.tuple b) = true then some (b.any fun z => z.eqv a) else none
    | _, _ => none
  | x, .ref i => match S[i]? with
    | some (.lst ds) => if flatD x && ds.all flatD then some (ds.any fun z => eqF z x) else
      match D.pd S 70 x, D.pd S 70 (.ref i) with
      | some a, some (.list b) => if SeqAt.shaped a = true ∧ SeqAt.shaped (.list b) = true then some (b.any fun z => z.eqv a) else none
      | _, _ => none
    | some (.dic kvs) => (dGet (.ref i) x S).map (·.isSome)
    | some (.dit kvs) => (dGet (.ref i) x S).map (·.isSome)
    | _ => none
  | _, _ => none
def oIn (x y : D) (S : Hs) : R D := match cIn x y S with
  | some b => .ok (.bl b) S
  | none => .bad
def oNotIn (x y : D) (S : Hs) : R D := match cIn x y S with
  | some b => .ok (.bl (!b)) S
  | none => .bad
section
variable {K : PySem.W.Frag} {E : St → XK} {p : Nat → Addr} {S : Hs} {H : Hp} {n : Nat} {pi : Nat → Addr}
theorem cEqS_V {x y : D} {v u : V} {b : Bool} (rx : Rep K pi n H x v) (ry : Rep K pi n H y u) (h : cEqS x y = some b) : scal v u = true ∧ decide (v = u) = b := by
  unfold cEqS at h
  split at h <;> first | (cases h; done) | (cases rx; cases ry; cases h; exact ⟨rfl, by simp⟩)
theorem ok_eq : OpOk K E (orR rEq (rEqD K)) oEq := by
  intro p S H x y v u Q R rx ry h
  unfold oEq at h
  split at h
  · rename_i b e
    unfold cEqD at e
    split at e
    · rename_i c e1
      cases e
      obtain ⟨h1, h2⟩ := cEqS_V rx ry e1
      exact .inl ⟨h1, by rw [h2]; exact h.val R (.bl _)⟩
    · split at e
      · rename_i a c e1 e2
        split at e
        · rename_i hs
          cases e
          exact .inr ⟨a, c, D.pd_dp R _ _ _ _ rx e1, D.pd_dp R _ _ _ _ ry e2, hs.1, hs.2, h.val R (.bl _)⟩
        · cases e
      · cases e
  · exact h.elim
theorem ok_ne : OpOk K E (orR rNe (rNeD K)) oNe := by
  intro p S H x y v u Q R rx ry h
  unfold oNe at h
  split at h
  · rename_i b e
    unfold cEqD at e
    split at e
    · rename_i c e1
      cases e
      obtain ⟨h1, h2⟩ := cEqS_V rx ry e1
      exact .inl ⟨h1, by rw [h2]; exact h.val R (.bl _)⟩
    · split at e
      · rename_i a c e1 e2
        split at e
        · rename_i hs
          cases e
          exact .inr ⟨a, c, D.pd_dp R _ _ _ _ rx e1, D.pd_dp R _ _ _ _ ry e2, hs.1, hs.2, h.val R (.bl _)⟩
        · cases e
      · cases e
  · exact h.elim
theorem ok_B0 {op : D → D → Hs → R D} {gg : Int → Int → Bool} (h1 : ∀ i j S, op (.int i) (.int j) S = .ok (.bl (gg i j)) S) (h2 : ∀ x y S, (∀ i j, x = .int i → y = .int j → False) → op x y S = .bad) : OpOk K E (rI0 fun i j => .bl (gg i j)) op := by
  intro p S H x y v u Q R rx ry h
  by_cases e : ∃ i j, x = .int i ∧ y = .int j
  · obtain ⟨i, j, rfl, rfl⟩ := e
    rw [h1] at h
    cases rx; cases ry
    exact ⟨i, j, rfl, rfl, h.val R (.bl _)⟩
  · rw [h2 x y S fun i j a b => e ⟨i, j, a, b⟩] at h; exact h.elim
theorem ok_lt : OpOk K E (rI0 fun i j => .bl (decide (i < j))) oLt := ok_B0 (fun _ _ _ => rfl) fun x y S h => by unfold oLt; split <;> first | rfl | exact (h _ _ rfl rfl).elim
theorem ok_le : OpOk K E (rI0 fun i j => .bl (decide (i ≤ j))) oLe := ok_B0 (fun _ _ _ => rfl) fun x y S h => by unfold oLe; split <;> first | rfl | exact (h _ _ rfl rfl).elim
theorem ok_gt : OpOk K E (rI0 fun i j => .bl (decide (j < i))) oGt := ok_B0 (fun _ _ _ => rfl) fun x y S h => by unfold oGt; split <;> first | rfl | exact (h _ _ rfl rfl).elim
theorem ok_ge : OpOk K E (rI0 fun i j => .bl (decide (j ≤ i))) oGe := ok_B0 (fun _ _ _ => rfl) fun x y S h => by unfold oGe; split <;> first | rfl | exact (h _ _ rfl rfl).elim
theorem flat_V {x : D} {v : V} (rx : Rep K pi n H x v) (h : flatD x = true) : flatV v = true := by cases rx <;> first | rfl | cases h
theorem eqF_V {x y : D} {v u : V} (rx : Rep K pi n H x v) (ry : Rep K pi n H y u) (h : flatD y = true) : eqF x y = eqV v u := by cases rx <;> cases ry <;> first | rfl | cases h
theorem flats_V {ds : List D} {vs : List V} (r : Reps K pi n H ds vs) (h : ds.all flatD = true) : vs.all flatV = true := by
  induction ds generalizing vs with
  | nil => cases r; rfl
  | cons d ds ih =>
    cases r with
    | cons r s =>
      rw [List.all_cons, Bool.and_eq_true] at h ⊢
      exact ⟨flat_V r h.1, ih s h.2⟩
theorem any_V {ds : List D} {vs : List V} {x : D} {v : V} (r : Reps K pi n H ds vs) (rx : Rep K pi n H x v) (h : flatD x = true) : (ds.any fun z => eqF z x) = inV v vs := by
  unfold inV
  induction ds generalizing vs with
  | nil => cases r; rfl
  | cons d ds ih =>
    cases r with
    | cons r s => rw [List.any_cons, List.any_cons, eqF_V r rx h, ih s]
theorem key_V {y : D} {u : V} {k : Key} (ry : Rep K pi n H y u) (h : y.key = some k) : u = kV k := by
  unfold D.key at h
  split at h <;> first | (cases ry; cases h; rfl) | cases h
theorem keys_V {ds : List D} {vs : List V} {k : List Key} (r : Reps K pi n H ds vs) (h : D.keys ds = some k) : vs = k.map kV := by
  induction ds generalizing vs k with
  | nil => cases r; cases h; rfl
  | cons d ds ih =>
    cases r with
    | cons r s =>
      simp only [D.keys] at h
      split at h
      · rename_i a b e1 e2
        cases h
        rw [key_V r e1, ih s e2]; rfl
      · cases h
def GetRel (K : PySem.W.Frag) (p : Nat → Addr) (n : Nat) (H : Hp) (o : Option D) (w : Option V) : Prop := match o with
  | some d => ∃ z, w = some z ∧ Rep K p n H d z
  | none => w = none
theorem getK_V {κ : Type} [DecidableEq κ] {kvs : List (κ × D)} {ks : List (κ × V)} (h : ks.map (·.1) = kvs.map (·.1)) (r : Reps K pi n H (kvs.map (·.2)) (ks.map (·.2))) (k : κ) : GetRel K pi n H (getK kvs k) (valV ks k) := by
  induction kvs generalizing ks with
  | nil => cases ks with | nil => exact rfl | cons a b => cases h
  | cons a kvs ih =>
    cases ks with
    | nil => cases h
    | cons b ks =>
      simp only [List.map_cons, List.cons.injEq] at h
      cases r with
      | cons r s =>
        have := ih h.2 s
        unfold getK valV at this ⊢
        by_cases e : a.1 = k
        · rw [List.find?_cons_of_pos (by simpa using e)]
          refine ⟨b.2, ?_, r⟩
          rw [List.find?_cons_of_pos (by simpa [h.1] using e)]; rfl
        · rw [List.find?_cons_of_neg (by simpa using e), List.find?_cons_of_neg (by simpa [h.1] using e)]
          exact this
theorem dGet_V {x y : D} {v u : V} {o : Option D} (R : Real K p S H) (rx : Rep K p S.length H x v) (ry : Rep K p S.length H y u) (h : dGet x y S = some o) :
    ∃ a w, v = .ref a ∧ DGet H a u w ∧ GetRel K p S.length H o w := by
  cases x with
  | ref i =>
    cases rx
    simp only [dGet] at h
    split at h
    · rename_i kvs q
      obtain ⟨ks, h1, h2, h3⟩ := R.ob i _ q
      split at h
      · rename_i k ek
        cases h
        exact ⟨_, _, rfl, .inl ⟨ks, k, .inl h1, key_V ry ek, rfl⟩, getK_V h2 h3 k⟩
      · cases h
    · rename_i kvs q
      obtain ⟨ks, h1, h2, h3⟩ := R.ob i _ q
      split at h
      · rename_i k ek
        cases h
        unfold D.tkey at ek
        split at ek
        · cases ry with
          | @tup b _ vs t r =>
          exact ⟨_, _, rfl, .inr ⟨ks, k, b, .inl h1, rfl, by rw [← keys_V r ek]; exact t, rfl⟩, getK_V h2 h3 k⟩
        · cases ek
      · cases h
    · cases h
  | _ => cases h
abbrev rDIn : R2 := fun x y H Q => ∃ a o, y = .ref a ∧ DGet H a x o ∧ Q (.bl o.isSome) H
abbrev rDNotIn : R2 := fun x y H Q => ∃ a o, y = .ref a ∧ DGet H a x o ∧ Q (.bl (!o.isSome)) H
abbrev rInStr : R2 := fun x y H Q => ∃ i j, x = V.str i ∧ y = V.str j ∧ Q (V.bl !(Builtin.Str.occurrences j i 0 j.length 1).isEmpty) H
abbrev rInSign : R2 := fun x y H Q => ∃ (c : Nat) (z : Str), x = .str ⟨#[c]⟩ ∧ y = .str z ∧ Q (.bl (decide (c ∈ z.cps.toList))) H
def rInDT (K : PySem.W.Frag) : R2 := fun x y H Q => ∃ d ds, Dp K H x d ∧ Dp K H y (.tuple ds) ∧ SeqAt.shaped d = true ∧ SeqAt.shaped (.tuple ds) = true ∧ Q (.bl (ds.any fun z => PyData.eqv z d)) H
def rNotInDT (K : PySem.W.Frag) : R2 := fun x y H Q => ∃ d ds, Dp K H x d ∧ Dp K H y (.tuple ds) ∧ SeqAt.shaped d = true ∧ SeqAt.shaped (.tuple ds) = true ∧ Q (.bl (!ds.any fun z => PyData.eqv z d)) H
theorem op_inDT {X : Cx} (hu : X.A.units + 65 < cLine) : OpR X (compareOp .In) (rInDT X.K) := by
  intro pins s σ H x y v u Q I rx ry h
  obtain ⟨d, ds, hd, he, sd, se, q⟩ := h
  obtain ⟨as, r1⟩ := Dp.reads I d x v hd rx
  obtain ⟨bs, r2⟩ := Dp.reads I (.tuple ds) y u he ry
  exact SeqAt.in_tuple_reads r2 r1 (SeqAt.canLay_of_shaped se) (SeqAt.canLay_of_shaped sd) (room_in_shaped sd hu) ⟨.bl _, H, I, rfl, q⟩
theorem op_notInDT {X : Cx} (hu : X.A.units + 65 < cLine) : OpR X (compareOp .NotIn) (rNotInDT X.K) := by
  intro pins s σ H x y v u Q I rx ry h
  obtain ⟨d, ds, hd, he, sd, se, q⟩ := h
  obtain ⟨as, r1⟩ := Dp.reads I d x v hd rx
  obtain ⟨bs, r2⟩ := Dp.reads I (.tuple ds) y u he ry
  exact SeqAt.notIn_tuple_reads r2 r1 (SeqAt.canLay_of_shaped se) (SeqAt.canLay_of_shaped sd) (room_in_shaped sd hu) ⟨.bl _, H, I, rfl, q⟩
abbrev rInAll (K : PySem.W.Frag) : R2 := orR rInSign (orR rInStr (orR (rIn K false) (orR (rInD K) (orR (rInDT K) rDIn))))
abbrev rNotInStr : R2 := fun x y H Q => ∃ i j, x = V.str i ∧ y = V.str j ∧ Q (V.bl !(!(Builtin.Str.occurrences j i 0 j.length 1).isEmpty)) H
abbrev rNotInSign : R2 := fun x y H Q => ∃ (c : Nat) (z : Str), x = .str ⟨#[c]⟩ ∧ y = .str z ∧ Q (.bl (!decide (c ∈ z.cps.toList))) H
abbrev rNotInAll (K : PySem.W.Frag) : R2 := orR rNotInSign (orR rNotInStr (orR (rIn K true) (orR (rNotInD K) (orR (rNotInDT K) rDNotIn))))
theorem or_din {X : Cx} (hu : X.A.units + 1 < cLine) : OpR X (compareOp .In) rDIn := by
  intro pins s σ H x y v u Q I rx ry h
  obtain ⟨a, o, rfl, g, q⟩ := h
  obtain rfl : u = Value.ref a := ry
  exact d_in hu I g rx fun s3 I3 => ⟨.bl o.isSome, H, I3, rfl, q⟩
theorem or_dnotin {X : Cx} (hu : X.A.units + 1 < cLine) : OpR X (compareOp .NotIn) rDNotIn := by
  intro pins s σ H x y v u Q I rx ry h
  obtain ⟨a, o, rfl, g, q⟩ := h
  obtain rfl : u = Value.ref a := ry
  exact d_notIn hu I g rx fun s3 I3 => ⟨.bl (!o.isSome), H, I3, rfl, q⟩
theorem cIn_V {x y : D} {v u : V} {b : Bool} (R : Real K p S H) (rx : Rep K p S.length H x v) (ry : Rep K p S.length H y u) (h : cIn x y S = some b) :
    (∃ (c : Nat) (z : Str), v = .str ⟨#[c]⟩ ∧ u = .str z ∧ b = decide (c ∈ z.cps.toList)) ∨ (∃ i j, v = V.str i ∧ u = V.str j ∧ b = !(Builtin.Str.occurrences j i 0 j.length 1).isEmpty) ∨
    (∃ q xs, u = .ref q ∧ (SqL K H q xs ∨ SqT K H q xs) ∧ flatV v = true ∧ xs.all flatV = true ∧ b = inV v xs) ∨
    (∃ d ds, Dp K H v d ∧ Dp K H u (.list ds) ∧ SeqAt.shaped d = true ∧ SeqAt.shaped (.list ds) = true ∧ b = ds.any fun z => z.eqv d) ∨
    (∃ d ds, Dp K H v d ∧ Dp K H u (.tuple ds) ∧ SeqAt.shaped d = true ∧ SeqAt.shaped (.tuple ds) = true ∧ b = ds.any fun z => z.eqv d) ∨
    (∃ a o, u = .ref a ∧ DGet H a v o ∧ b = o.isSome) := by
  have dic : ∀ i, y = .ref i → ((dGet (.ref i) x S).map (·.isSome)) = some b → ∃ a o, u = .ref a ∧ DGet H a v o ∧ b = o.isSome := fun i e hh => by
    subst e
    rw [Option.map_eq_some_iff] at hh
    obtain ⟨o, hh, rfl⟩ := hh
    obtain ⟨a, w, e1, g, m⟩ := dGet_V R ry rx hh
    refine ⟨a, w, e1, g, ?_⟩
    cases o with
    | none => rw [m]; rfl
    | some d => obtain ⟨z, e, _⟩ := m; rw [e]; rfl
  unfold cIn at h
  split at h
  · rename_i i j
    cases h; cases rx; cases ry
    unfold inS
    split
    · exact .inl ⟨_, _, rfl, rfl, rfl⟩
    · exact .inr (.inl ⟨_, _, rfl, rfl, rfl⟩)
  · split at h
    · rename_i hf
      rw [Bool.and_eq_true] at hf
      cases h
      cases ry with
      | tup t r => exact .inr (.inr (.inl ⟨_, _, rfl, .inr (SqT.of t), flat_V rx hf.1, flats_V r hf.2, any_V r rx hf.1⟩))
    · split at h
      · rename_i a c e1 e2
        split at h
        · rename_i hs
          cases h
          exact .inr (.inr (.inr (.inr (.inl ⟨a, c, D.pd_dp R _ _ _ _ rx e1, D.pd_dp R _ _ _ _ ry e2, hs.1, hs.2, rfl⟩))))
        · cases h
      · cases h
  · split at h
    · rename_i hf
      rw [Bool.and_eq_true] at hf
      cases h
      cases ry with
      | wt t r => exact .inr (.inr (.inl ⟨_, _, rfl, .inr t.sq, flat_V rx hf.1, flats_V r hf.2, any_V r rx hf.1⟩))
    · split at h
      · rename_i a c e1 e2
        split at h
        · rename_i hs
          cases h
          exact .inr (.inr (.inr (.inr (.inl ⟨a, c, D.pd_dp R _ _ _ _ rx e1, D.pd_dp R _ _ _ _ ry e2, hs.1, hs.2, rfl⟩))))
        · cases h
      · cases h
  · rename_i i
    split at h
    · rename_i ds q
      obtain ⟨vs, h1, r⟩ := R.lst q
      split at h
      · rename_i hf
        rw [Bool.and_eq_true] at hf
        cases h
        cases ry
        exact .inr (.inr (.inl ⟨_, _, rfl, .inl (SqL.of h1), flat_V rx hf.1, flats_V r hf.2, any_V r rx hf.1⟩))
      · split at h
        · rename_i a c e1 e2
          split at h
          · rename_i hs
            cases h
            exact .inr (.inr (.inr (.inl ⟨a, c, D.pd_dp R _ _ _ _ rx e1, D.pd_dp R _ _ _ _ ry e2, hs.1, hs.2, rfl⟩)))
          · cases h
        · cases h
    · exact .inr (.inr (.inr (.inr (.inr (dic i rfl h)))))
    · exact .inr (.inr (.inr (.inr (.inr (dic i rfl h)))))
    · cases h
  · cases h
theorem ok_in : OpOk K E (rInAll K) oIn := by
  intro p S H x y v u Q R rx ry h
  unfold oIn at h
  split at h
  · rename_i b e
    have hq : Q (.bl b) H := h.val R (.bl _)
    rcases cIn_V R rx ry e with ⟨c, z, h1, h2, rfl⟩ | ⟨i, j, h1, h2, rfl⟩ | ⟨q, xs, h1, h2, h3, h4, rfl⟩ | ⟨d, ds, h1, h2, h3, h4, rfl⟩ | ⟨d, ds, h1, h2, h3, h4, rfl⟩ | ⟨a, o, h1, h2, rfl⟩
    · exact .inl ⟨c, z, h1, h2, hq⟩
    · exact .inr (.inl ⟨i, j, h1, h2, hq⟩)
    · exact .inr (.inr (.inl ⟨q, xs, h1, h2, h3, h4, hq⟩))
    · exact .inr (.inr (.inr (.inl ⟨d, ds, h1, h2, h3, h4, hq⟩)))
    · exact .inr (.inr (.inr (.inr (.inl ⟨d, ds, h1, h2, h3, h4, hq⟩))))
    · exact .inr (.inr (.inr (.inr (.inr ⟨a, o, h1, h2, hq⟩))))
  · exact h.elim
theorem ok_notin : OpOk K E (rNotInAll K) oNotIn := by
  intro p S H x y v u Q R rx ry h
  unfold oNotIn at h
  split at h
  · rename_i b e
    have hq : Q (.bl (!b)) H := h.val R (.bl _)
    rcases cIn_V R rx ry e with ⟨c, z, h1, h2, rfl⟩ | ⟨i, j, h1, h2, rfl⟩ | ⟨q, xs, h1, h2, h3, h4, rfl⟩ | ⟨d, ds, h1, h2, h3, h4, rfl⟩ | ⟨d, ds, h1, h2, h3, h4, rfl⟩ | ⟨a, o, h1, h2, rfl⟩
    · exact .inl ⟨c, z, h1, h2, hq⟩
    · exact .inr (.inl ⟨i, j, h1, h2, hq⟩)
    · exact .inr (.inr (.inl ⟨q, xs, h1, h2, h3, h4, hq⟩))
    · exact .inr (.inr (.inr (.inl ⟨d, ds, h1, h2, h3, h4, hq⟩)))
    · exact .inr (.inr (.inr (.inr (.inl ⟨d, ds, h1, h2, h3, h4, hq⟩))))
    · exact .inr (.inr (.inr (.inr (.inr ⟨a, o, h1, h2, hq⟩))))
  · exact h.elim
end
def mCmp (op : D → D → Hs → R D) (f g : M) : MB := fun l S => (f l S).bind fun x S1 => (g l S1).bind fun y S2 => (op x y S2).bind fun d S3 => match d with
  | .bl b => .ok b S3
  | _ => .bad
section
variable {X : Cx} {E : St → XK} {a b : Expr} {f g : M} {pos : Pos} {r : R2} {op : D → D → Hs → R D} {o : CmpOp}
theorem e_cmp (ho : OpR X (compareOp o) r) (hk : OpOk X.K E r op) (ha : EM X E a f) (hb : EM X E b g) (h1 : behindInMarks o b = false) : EM X E (.Compare a [o] [b] pos) (mBin op f g) :=
  ⟨(pe_cmpR ho ha.pe hb.pe h1).weak fun s H Q ⟨p, l, S, R, L, h⟩ => T.of R L h fun p1 S1 H1 d v R1 x1 L1 r1 h1 => T.of R1 L1 h1 fun p2 S2 H2 d2 v2 R2 x2 L2 r2 h2 => hk p2 S2 H2 _ _ _ _ Q R2 (r1.ext x2 _ _) r2 h2⟩
theorem OpOk.test (hk : OpOk X.K E r op) {p : Nat → Addr} {S : Hs} {H : Hp} {x y : D} {v u : V} {Q : Bool → Hp → Prop} (R : Real X.K p S H) (rx : Rep X.K p S.length H x v) (ry : Rep X.K p S.length H y u)
    (h : Post X.K E S.length p H ((op x y S).bind fun d S3 => match d with | .bl b => Ly.R.ok b S3 | _ => Ly.R.bad) (QB Q)) : r v u H fun x H' => ∃ k, x = .bl k ∧ Q k H' := by
  refine hk p S H x y v u _ R rx ry (h.bind.mono fun d S3 p3 H3 _ x3 R3 q w rw' => ?_)
  cases rw' with
  | bl b => exact ⟨b, rfl, Post.ok (Q := QB Q) q Ext.refl R3⟩
  | _ => exact q.elim
theorem b_cmp (ho : OpR X (compareOp o) r) (hk : OpOk X.K E r op) (ha : EM X E a f) (hb : EM X E b g) (h1 : behindInMarks o b = false) : BM X E (.Compare a [o] [b] pos) (mCmp op f g) :=
  ⟨(pt_cmpR ho ha.pe hb.pe h1).weak fun s H Q ⟨p, l, S, R, L, h⟩ => T.of R L h fun p1 S1 H1 d v R1 x1 L1 r1 h1 => T.of R1 L1 h1 fun p2 S2 H2 d2 v2 R2 x2 L2 r2 h2 => hk.test R2 (r1.ext x2 _ _) r2 h2⟩
end
end Ly
set_option Elab.async false
set_option linter.all false
set_option maxRecDepth 100000
namespace Ly
open PySem PySem.Spec L2
open PyProof.Rows hiding St
def lNil : ML := fun _ S => .ok [] S
def lCons (f : M) (g : ML) : ML := fun l S => (f l S).bind fun x S1 => (g l S1).bind fun xs S2 => .ok (x :: xs) S2
section
variable {X : Cx} {E : St → XK} {e : Expr} {es : List Expr} {f : M} {g : ML} {pos : Pos}
theorem l_nil : LM X E [] lNil := ⟨pa_nil.weak fun s H Q ⟨p, l, S, R, L, h⟩ => Post.ok h Ext.refl R _ .nil⟩
theorem l_cons (ha : EM X E e f) (hb : LM X E es g) (hs : starEach (e :: es) X.env = (false, eval e X.env) :: starEach es X.env := by rfl) : LM X E (e :: es) (lCons f g) :=
  ⟨(pa_cons ha.pe hb.pa hs).weak fun s H Q ⟨p, l, S, R, L, h⟩ => T.of R L h fun p1 S1 H1 d v R1 x1 L1 r1 h1 => TL.of R1 L1 h1 fun p2 S2 H2 d2 v2 R2 x2 L2 r2 h2 => Post.ok h2 Ext.refl R2 _ (.cons (r1.ext x2 _ _) r2)⟩
def tru (x : D) (S : Hs) : Option Bool := match x with
  | .non => some false
  | .bl b => some b
  | .int i => some (i != 0)
  | .str x => if x.length ≤ sizeLine then some ((x.length : Int) != 0) else none
  | .tup xs => some (!xs.isEmpty)
  | .wt xs => some (!xs.isEmpty)
  | .ref i => match S[i]? with
    | some (.lst xs) => some (!xs.isEmpty)
    | some (.rol xs) => some (!xs.isEmpty)
    | some (.dic xs) => some (!xs.isEmpty)
    | _ => none
  | .wl xs => some (!xs.isEmpty)
  | .cst _ => none
def oTru (x : D) (S : Hs) : R Bool := match tru x S with
  | some b => .ok b S
  | none => .bad
theorem empty_len {α β : Type} {xs : List α} {ys : List β} (h : xs.length = ys.length) : xs.isEmpty = ys.isEmpty := by cases xs <;> cases ys <;> first | rfl | simp at h
theorem tru_V {K : PySem.W.Frag} {p : Nat → Addr} {S : Hs} {H : Hp} {x : D} {v : V} {b : Bool} (R : Real K p S H) (rx : Rep K p S.length H x v) (h : tru x S = some b) : TruV K v H b := by
  unfold tru at h
  cases rx with
  | non => cases h; rfl
  | bl b => cases h; rfl
  | int i => cases h; rfl
  | str x => simp only at h; split at h <;> cases h; exact ⟨by assumption, rfl⟩
  | tup t r => cases h; exact .inr (.inl ⟨_, SqT.of t, by rw [empty_len r.len]⟩)
  | wt t r => cases h; exact .inr (.inl ⟨_, t.sq, by rw [empty_len r.len]⟩)
  | wl t r => cases h; exact .inl ⟨_, t.sq, by rw [empty_len r.len]⟩
  | ref hi =>
    simp only at h
    split at h
    · rename_i q
      obtain ⟨vs, h1, r⟩ := R.lst q
      cases h; exact .inl ⟨_, SqL.of h1, by rw [empty_len r.len]⟩
    · rename_i q
      obtain ⟨o, vs, h1, r⟩ := R.ob _ _ q
      cases h; exact .inl ⟨_, .inl (.inr ⟨o, h1⟩), by rw [empty_len r.len]⟩
    · rename_i q
      obtain ⟨ks, h1, h2, h3⟩ := R.ob _ _ q
      cases h; exact .inr (.inr ⟨_, h1, by rw [empty_len (show ks.length = _ from by simpa using congrArg List.length h2)]⟩)
    · cases h
  | cst a => cases h
def mTru (f : M) : MB := fun l S => (f l S).bind oTru
theorem oTru_of {K : PySem.W.Frag} {p : Nat → Addr} {S : Hs} {H : Hp} {x : D} {v : V} {Q : Bool → Hp → Prop} (R : Real K p S H) (rx : Rep K p S.length H x v) (h : Post K E S.length p H (oTru x S) (QB Q)) : ∃ k, TruV K v H k ∧ Q k H := by
  unfold oTru at h
  split at h
  · rename_i b e; exact ⟨b, tru_V R rx e, Post.ok (Q := QB Q) h Ext.refl R⟩
  · exact h.elim
theorem b_tru {a : Expr} (ha : EM X E a f) (he : ∀ whole, isTrue a X.env whole = (do let v ← whole; standAt a.pos; holding [v] (truthy v)) := by intro _; rfl) : BM X E a (mTru f) :=
  ⟨(pt_truth ha.pe he).weak fun s H Q ⟨p, l, S, R, L, h⟩ => T.of R L h fun p1 S1 H1 d v R1 x1 L1 r1 h1 => oTru_of R1 r1 h1⟩
def mNotB (f : MB) : MB := fun l S => (f l S).bind fun b S1 => .ok (!b) S1
def mAndB (f g : MB) : MB := fun l S => (f l S).bind fun b S1 => if b = true then g l S1 else .ok false S1
def mOrB (f g : MB) : MB := fun l S => (f l S).bind fun b S1 => if b = true then .ok true S1 else g l S1
theorem TB.last {K : PySem.W.Frag} {s : St} {H : Hp} {f : MB} {p : Nat → Addr} {l : Ls} {S : Hs} {Q : Bool → Hp → Prop} (R : Real K p S H) (L : Sl K p S.length H l s) (h : Post K E S.length p H (f l S) (QB Q)) : TB K E f s H Q := ⟨p, l, S, R, L, h⟩
variable {a b : Expr} {rest : List Expr} {fb gb : MB}
theorem b_not (ha : BM X E a fb) : BM X E (.UnaryOp .Not a pos) (mNotB fb) :=
  ⟨(pt_not ha.pt).weak fun s H Q ⟨p, l, S, R, L, h⟩ => TB.of R L h fun p1 S1 H1 b R1 x1 L1 h1 => Post.ok (Q := QB Q) h1 Ext.refl R1⟩
theorem w_and1 (ha : BM X E a fb) : BW X E (.BoolOp .And [a] pos) fb := ⟨pw_and1 ha.pt⟩
theorem w_or1 (ha : BM X E a fb) : BW X E (.BoolOp .Or [a] pos) fb := ⟨pw_or1 ha.pt⟩
theorem w_and (ha : BM X E a fb) (hb : BW X E (.BoolOp .And (b :: rest) pos) gb) : BW X E (.BoolOp .And (a :: b :: rest) pos) (mAndB fb gb) :=
  ⟨(pw_and ha.pt hb.pw).weak fun s H Q ⟨p, l, S, R, L, h⟩ => TB.of R L h fun p1 S1 H1 b R1 x1 L1 h1 => by
    cases b with
    | true => exact TB.last R1 L1 h1
    | false => exact Post.ok (Q := QB Q) h1 Ext.refl R1⟩
theorem w_or (ha : BM X E a fb) (hb : BW X E (.BoolOp .Or (b :: rest) pos) gb) : BW X E (.BoolOp .Or (a :: b :: rest) pos) (mOrB fb gb) :=
  ⟨(pw_or ha.pt hb.pw).weak fun s H Q ⟨p, l, S, R, L, h⟩ => TB.of R L h fun p1 S1 H1 b R1 x1 L1 h1 => by
    cases b with
    | false => exact TB.last R1 L1 h1
    | true => exact Post.ok (Q := QB Q) h1 Ext.refl R1⟩
theorem b_of {e : Expr} (h : BW X E e fb) : BM X E e fb := ⟨h.pw.pt⟩
def mAnd (f g : M) : M := fun l S => (f l S).bind fun x S1 => (oTru x S1).bind fun b S2 => if b = true then g l S2 else .ok x S2
def mOr (f g : M) : M := fun l S => (f l S).bind fun x S1 => (oTru x S1).bind fun b S2 => if b = true then .ok x S2 else g l S2
def mIf (c : MB) (f g : M) : M := fun l S => (c l S).bind fun b S1 => if b = true then f l S1 else g l S1
variable {h' : M} {t : List Expr}
theorem e_if {c : Expr} {g : M} (hc : BM X E c fb) (ha : EM X E a f) (hb : EM X E b g) : EM X E (.IfExp c a b pos) (mIf fb f g) :=
  ⟨(pe_ifExp hc.pt ha.pe hb.pe).weak fun s H Q ⟨p, l, S, R, L, h⟩ => TB.of R L h fun p1 S1 H1 b R1 x1 L1 h1 => by
    cases b with
    | true => exact T.last R1 L1 h1
    | false => exact T.last R1 L1 h1⟩
end
def oIx (x y : D) (S : Hs) : R D := match x, y with
  | .str z, .int i => if z.length ≤ sizeLine then (match atI z.cps.toList i with
    | some c => .ok (.str ⟨#[c]⟩) S
    | none => .bad) else .bad
  | .tup xs, .int i => match atI xs i with
    | some d => .ok d S
    | none => .bad
  | .wt xs, .int i => match atI xs i with
    | some d => .ok d S
    | none => .bad
  | .wl xs, .int i => match atI xs i with
    | some d => .ok d S
    | none => .bad
  | .ref j, y => match S[j]? with
    | some (.lst xs) => (match y with
      | .int i => (match atI xs i with
        | some d => .ok d S
        | none => .bad)
      | _ => .bad)
    | some (.rol xs) => (match y with
      | .int i => (match atI xs i with
        | some d => .ok d S
        | none => .bad)
      | _ => .bad)
    | some (.dic _) => (match dGet x y S with
      | some (some d) => .ok d S
      | _ => .bad)
    | some (.dit _) => (match dGet x y S with
      | some (some d) => .ok d S
      | _ => .bad)
    | _ => .bad
  | _, _ => .bad
abbrev rIxDic : R2 := fun x y H Q => ∃ a v, x = .ref a ∧ DGet H a y (some v) ∧ Q v H
theorem ix_dic {X : Cx} (hu : X.A.units + 1 < cLine) : IxR X rIxDic := by
  intro value slice pins s σ H x y v u Q I rx ry h hs
  obtain ⟨a, w, rfl, g, q⟩ := h
  obtain rfl : v = Value.ref a := rx
  exact tail_any (dict_typeIs I g) PySem.F.slot_dict_getitem.lookup (d_getItem hu I g ry fun w' s3 I3 rw' => ⟨w, H, I3, rw', q⟩) hs
abbrev rIxAll (K : PySem.W.Frag) : R2 := orR rIxS (orR (rIxL K) (orR (rIxT K) rIxDic))
theorem ix_all {X : Cx} (hu : X.A.units + 1 < cLine) : IxR X (rIxAll X.K) := IxR.or ix_str (IxR.or ix_list (IxR.or ix_tup (ix_dic hu)))
section
variable {K : PySem.W.Frag} {E : St → XK} {p : Nat → Addr} {S : Hs} {H : Hp} {n : Nat} {pi : Nat → Addr}
theorem Reps.atI {ds : List D} {vs : List V} (h : Reps K pi n H ds vs) {i : Int} {d : D} (e : atI ds i = some d) : ∃ v, L2.atI vs i = some v ∧ Rep K pi n H d v := by
  unfold L2.atI at e ⊢
  rw [← h.len]
  cases q : ixN ds.length i with
  | none => rw [q] at e; cases e
  | some j =>
    rw [q] at e
    exact h.get e
theorem ok_ix : OpOk K E (rIxAll K) oIx := by
  intro p S H x y v u Q R rx ry h
  unfold oIx at h
  split at h
  · split at h
    · rename_i hl
      split at h
      · rename_i c e; cases rx; cases ry; exact .inl ⟨_, _, c, rfl, rfl, hl, e, h.val R (.str _)⟩
      · exact h.elim
    · exact h.elim
  · split at h
    · rename_i d e
      cases ry
      cases rx with
      | tup t r =>
      obtain ⟨w, e2, r2⟩ := r.atI e
      exact .inr (.inr (.inl ⟨_, _, _, w, rfl, rfl, SqT.of t, e2, h.val R r2⟩))
    · exact h.elim
  · split at h
    · rename_i d e
      cases ry
      cases rx with
      | wt t r =>
      obtain ⟨w, e2, r2⟩ := r.atI e
      exact .inr (.inr (.inl ⟨_, _, _, w, rfl, rfl, t.sq, e2, h.val R r2⟩))
    · exact h.elim
  · split at h
    · rename_i d e
      cases ry
      cases rx with
      | wl t r =>
      obtain ⟨w, e2, r2⟩ := r.atI e
      exact .inr (.inl ⟨_, _, _, w, rfl, rfl, t.sq, e2, h.val R r2⟩)
    · exact h.elim
  · split at h
    · rename_i q
      split at h
      · split at h
        · rename_i d e
          obtain ⟨vs, h1, r⟩ := R.lst q
          obtain ⟨w, e2, r2⟩ := r.atI e
          cases rx; cases ry
          exact .inr (.inl ⟨_, _, _, w, rfl, rfl, SqL.of h1, e2, h.val R r2⟩)
        · exact h.elim
      · exact h.elim
    · rename_i q
      split at h
      · split at h
        · rename_i d e
          obtain ⟨o, vs, h1, r⟩ := R.ob _ _ q
          obtain ⟨w, e2, r2⟩ := r.atI e
          cases rx; cases ry
          exact .inr (.inl ⟨_, _, _, w, rfl, rfl, .inl (.inr ⟨o, h1⟩), e2, h.val R r2⟩)
        · exact h.elim
      · exact h.elim
    · split at h
      · rename_i d e
        obtain ⟨a, w, e1, g, m⟩ := dGet_V R rx ry e
        obtain ⟨z, e3, r3⟩ := m
        subst e3
        exact .inr (.inr (.inr ⟨a, z, e1, g, h.val R r3⟩))
      · exact h.elim
    · split at h
      · rename_i d e
        obtain ⟨a, w, e1, g, m⟩ := dGet_V R rx ry e
        obtain ⟨z, e3, r3⟩ := m
        subst e3
        exact .inr (.inr (.inr ⟨a, z, e1, g, h.val R r3⟩))
      · exact h.elim
    · exact h.elim
  · exact h.elim
end
abbrev MO := Ls → Hs → R (Option Int)
def oNo : MO := fun _ S => .ok none S
def oSome (f : M) : MO := fun l S => (f l S).bind fun d S1 => match d with
  | .int i => .ok (some i) S1
  | _ => .bad
def cutD (xs : List D) (lo hi : Option Int) : List D := (xs.drop (HT.sIx xs.length 0 lo)).take (HT.sIx xs.length xs.length hi - HT.sIx xs.length 0 lo)
def oSl (x : D) (lo hi : Option Int) (S : Hs) : R D := match x with
  | .str z => if z.length ≤ sizeLine then .ok (.str (cutS z lo hi)) S else .bad
  | .tup xs => .ok (.tup (cutD xs lo hi)) S
  | .ref i => match S[i]? with
    | some (.lst xs) => .ok (.ref S.length) (S ++ [.lst (cutD xs lo hi)])
    | some (.rol xs) => .ok (.ref S.length) (S ++ [.lst (cutD xs lo hi)])
    | _ => .bad
  | _ => .bad
def mSl (f : M) (lo hi : MO) : M := fun l S => (f l S).bind fun x S1 => (lo l S1).bind fun a S2 => (hi l S2).bind fun b S3 => oSl x a b S3
def TO' (K : PySem.W.Frag) (E : St → XK) (f : MO) : TO := fun s H Q => ∃ p l S, Real K p S H ∧ Sl K p S.length H l s ∧ Post K E S.length p H (f l S) (fun d _ _ H => Q d H)
structure OM (X : Cx) (E : St → XK) (e : Option Expr) (f : MO) : Prop where po : PO X e (TO' X.K E f)
section
variable {X : Cx} {E : St → XK} {e a b : Expr} {f g : M} {pos p2 : Pos} {lo hi : Option Expr} {fl fh : MO}
theorem _root_.L2.PO.weak {X : Cx} {e : Option Expr} {t t' : TO} (h : PO X e t) (w : ∀ s H Q, t' s H Q → t s H Q) : PO X e t' := ⟨fun pins s σ H Q I q => h.run pins s σ H Q I (w σ H Q q)⟩
theorem o_some (ha : EM X E a f) : OM X E (some a) (oSome f) := ⟨(po_some ha.pe).weak fun s H Q ⟨p, l, S, R, L, h⟩ => T.of R L h fun p1 S1 H1 d v R1 x1 L1 r1 h1 => by
  split at h1
  · cases r1; exact ⟨_, rfl, Post.ok (Q := fun d _ _ H => Q d H) h1 Ext.refl R1⟩
  · exact h1.elim⟩
theorem OM.of {K : PySem.W.Frag} {s : St} {H : Hp} {β : Type} {QQ : β → Hs → (Nat → Addr) → Hp → Prop} {f : MO} {k : Option Int → Hs → R β} {p : Nat → Addr} {l : Ls} {S : Hs} {Q' : Option Int → Hp → Prop} (R : Real K p S H) (L : Sl K p S.length H l s) (h : Post K E S.length p H ((f l S).bind k) QQ)
    (st : ∀ p1 S1 H1 b, Real K p1 S1 H1 → Ext S.length S1.length p p1 H H1 → Sl K p1 S1.length H1 l s → Post K E S1.length p1 H1 (k b S1) QQ → Q' b H1) : TO' K E f s H Q' :=
  ⟨p, l, S, R, L, h.bind.mono fun a S1 p1 H1 _ x R1 q => st p1 S1 H1 a R1 x (L.ext x) q⟩
theorem Reps.cut {K : PySem.W.Frag} {pi : Nat → Addr} {n : Nat} {H : Hp} {ds : List D} {vs : List V} (h : Reps K pi n H ds vs) (a b : Option Int) : Reps K pi n H (cutD ds a b) (cutV vs a b) := by
  unfold cutD cutV
  rw [← h.len]
  exact (h.drop _).take _
theorem cut_whole {vs : List V} {a b : Option Int} (h : HT.sIx vs.length 0 a = 0 ∧ HT.sIx vs.length vs.length b = vs.length) : cutV vs a b = vs := by
  unfold cutV
  rw [h.1, h.2, List.drop_zero, Nat.sub_zero, List.take_length]
theorem e_slice (ha : EM X E a f) (hl : OM X E lo fl) (hu : OM X E hi fh) : EM X E (.Subscript a (.Slice lo hi none p2) pos) (mSl f fl fh) :=
  ⟨(pe_slice (SlR.or sl_str (SlR.or sl_list sl_tupA)) ha.pe hl.po hu.po).weak fun s H Q ⟨p, l, S, R, L, h⟩ => T.of R L h fun p1 S1 H1 d v R1 x1 L1 r1 h1 => OM.of R1 L1 h1 fun p2 S2 H2 ba R2 x2 L2 h2 => OM.of R2 L2 h2 fun p3 S3 H3 bb R3 x3 L3 h3 => by
    have r3 := r1.ext (x2.trans x3) _ _
    unfold oSl at h3
    split at h3
    · split at h3
      · rename_i hl; cases r3; exact .inl ⟨_, rfl, hl, h3.val R3 (.str _)⟩
      · exact h3.elim
    · cases r3 with
      | @tup q _ vs t r =>
      refine .inr (.inr ⟨q, vs, rfl, SqT.of t, fun w => ?_, fun _ z hz => h3.valT R3 (r.cut ba bb) hz⟩)
      have := r.cut ba bb
      rw [cut_whole w] at this
      exact h3.val R3 (.tup t this)
    · split at h3
      · rename_i q
        obtain ⟨vs, e1, r⟩ := R3.lst q
        cases r3
        exact .inr (.inl ⟨_, vs, rfl, SqL.of e1, fun z hz => h3.newL R3 (r.cut ba bb) hz⟩)
      · rename_i q
        obtain ⟨o, vs, e1, r⟩ := R3.ob _ _ q
        cases r3
        exact .inr (.inl ⟨_, vs, rfl, .inl (.inr ⟨o, e1⟩), fun z hz => h3.newL R3 (r.cut ba bb) hz⟩)
      · exact h3.elim
    · exact h3.elim⟩
theorem e_ix (hu : X.A.units + 1 < cLine) (ha : EM X E a f) (hb : EM X E b g) (hs : PlainIx b := by intro _ _; rfl) : EM X E (.Subscript a b pos) (mBin oIx f g) :=
  ⟨(pe_ix (ix_all hu) ha.pe hb.pe hs).weak fun s H Q ⟨p, l, S, R, L, h⟩ => T.of R L h fun p1 S1 H1 d v R1 x1 L1 r1 h1 => T.of R1 L1 h1 fun p2 S2 H2 d2 v2 R2 x2 L2 r2 h2 => ok_ix p2 S2 H2 _ _ _ _ Q R2 (r1.ext x2 _ _) r2 h2⟩
def mTup (f : ML) : M := fun l S => (f l S).bind fun ds S1 => if ds.length ≤ sizeLine then .ok (.tup ds) S1 else .bad
def mLst (f : ML) : M := fun l S => (f l S).bind fun ds S1 => if ds.length ≤ sizeLine then .ok (.ref S1.length) (S1 ++ [.lst ds]) else .bad
theorem e_tup {es : List Expr} {fl : ML} {x1 : Nat} (h : LM X E es fl) : EM X E (.Tuple es x1 pos) (mTup fl) :=
  ⟨(pe_tup h.pa).weak fun s H Q ⟨p, l, S, R, L, h⟩ => TL.of R L h fun p1 S1 H1 d v R1 x1 L1 r1 h1 => by
    split at h1
    · rename_i hl; exact ⟨by rw [← r1.len]; exact hl, fun q hq => h1.valT R1 r1 hq⟩
    · exact h1.elim⟩
theorem e_lst {es : List Expr} {fl : ML} (h : LM X E es fl) : EM X E (.List es pos) (mLst fl) :=
  ⟨(pe_lst h.pa).weak fun s H Q ⟨p, l, S, R, L, h⟩ => TL.of R L h fun p1 S1 H1 d v R1 x1 L1 r1 h1 => by
    split at h1
    · rename_i hl; exact ⟨by rw [← r1.len]; exact hl, fun q hq => h1.newL R1 r1 hq⟩
    · exact h1.elim⟩
end
end Ly
set_option Elab.async false
set_option linter.all false
set_option maxRecDepth 100000
namespace Ly
open PySem PySem.Spec L2
open PyProof.Rows hiding St
def mCall (op : List D → Hs → R D) (f : ML) : M := fun l S => (f l S).bind op
def CallOk (K : PySem.W.Frag) (E : St → XK) (r : List V → Hp → VK → Prop) (op : List D → Hs → R D) : Prop :=
  ∀ p S H ds vs Q, Real K p S H → Reps K p S.length H ds vs → Post K E S.length p H (op ds S) (QD K Q) → r vs H Q
abbrev orC (r r' : List V → Hp → VK → Prop) : List V → Hp → VK → Prop := fun xs H Q => r xs H Q ∨ r' xs H Q
section
variable {X : Cx} {E : St → XK} {e : Expr} {es : List Expr} {f : ML} {x : Str} {p pos : Pos} {id T : String} {r : List V → Hp → VK → Prop} {op : List D → Hs → R D}
theorem e_callB (hc : CallR X (.builtin id) r) (hk : CallOk X.K E r op) (hg : Gl X x) (hm : X.mg x = none) (hv : bootBuiltins x = some (.builtin id)) (ha : LM X E (e :: es) f) (hn : x ≠ "__name__" := by decide) (hdb : (x == ("__debug__" : Str)) = false := by decide)
    (he : starEach (e :: es) X.env = (false, eval e X.env) :: starEach es X.env := by rfl) (hpl : (backTo pos (starEach es X.env)).any (·.1) = false := by rfl) : EM X E (.Call (.Name x p) (e :: es) [] pos) (mCall op f) :=
  ⟨(pe_callB hc hg hm hv ha.pa hn hdb he hpl).weak fun s H Q ⟨p, l, S, R, L, h⟩ => TL.of R L h fun p1 S1 H1 d v R1 x1 L1 r1 h1 => hk p1 S1 H1 _ _ Q R1 r1 h1⟩
theorem e_callT (hc : CallR X (.type T) r) (hk : CallOk X.K E r op) (hg : Gl X x) (hm : X.mg x = none) (hv : bootBuiltins x = some (.type T)) (ha : LM X E (e :: es) f) (hn : x ≠ "__name__" := by decide) (hdb : (x == ("__debug__" : Str)) = false := by decide)
    (he : starEach (e :: es) X.env = (false, eval e X.env) :: starEach es X.env := by rfl) (hpl : (backTo pos (starEach es X.env)).any (·.1) = false := by rfl) : EM X E (.Call (.Name x p) (e :: es) [] pos) (mCall op f) :=
  ⟨(pe_callTy hc hg hm hv ha.pa hn hdb he hpl).weak fun s H Q ⟨p, l, S, R, L, h⟩ => TL.of R L h fun p1 S1 H1 d v R1 x1 L1 r1 h1 => hk p1 S1 H1 _ _ Q R1 r1 h1⟩
end
def lenD (x : D) (S : Hs) : Option Nat := match x with
  | .str y => if y.length ≤ sizeLine then some y.length else none
  | .tup xs => some xs.length
  | .wt xs => some xs.length
  | .wl xs => some xs.length
  | .ref i => match S[i]? with
    | some (.lst xs) => some xs.length
    | some (.rol xs) => some xs.length
    | some (.dic xs) => some xs.length
    | _ => none
  | _ => none
def bLen : List D → Hs → R D
  | [x], S => match lenD x S with
    | some n => .ok (.int (n : Int)) S
    | none => .bad
  | _, _ => .bad
def bInt : List D → Hs → R D
  | [.int i], S => .ok (.int i) S
  | [.bl b], S => .ok (.int (b2i b)) S
  | [.str x], S => match intText? x with
    | some n => if x.length ≤ 640 then .ok (.int n) S else .bad
    | none => .bad
  | _, _ => .bad
def intsD : List D → Option (List Int)
  | [] => some []
  | .int i :: r => (intsD r).map (i :: ·)
  | _ => none
def seqD (x : D) (S : Hs) : Option (List D) := match x with
  | .ref i => match S[i]? with
    | some (.lst xs) => some xs
    | some (.rol xs) => some xs
    | _ => none
  | .wl xs => some xs
  | _ => none
def leastI : Int → List Int → Int
  | m, [] => m
  | m, x :: r => leastI (if x < m then x else m) r
def bMin : List D → Hs → R D
  | [.int i, .int j], S => .ok (.int (if j < i then j else i)) S
  | [x], S => match (seqD x S).bind intsD with
    | some (n :: r) => .ok (.int (leastI n r)) S
    | _ => .bad
  | _, _ => .bad
section
variable {K : PySem.W.Frag} {E : St → XK} {X : Cx}
abbrev rLenAll (K : PySem.W.Frag) : List V → Hp → VK → Prop := orC (fun xs H Q => ∃ x n, xs = [x] ∧ LenV K x H n ∧ Q (V.int ((n : Nat) : Int)) H) (fun xs H Q => ∃ a kvs, xs = [V.ref a] ∧ H a = some (.dK kvs) ∧ Q (V.int ((kvs.length : Nat) : Int)) H)
theorem cr_lenA : CallR X (.builtin "len") (rLenAll X.K) := CallR.or call_len call_lenD
theorem ok_len : CallOk K E (rLenAll K) bLen := by
  intro p S H ds vs Q R r h
  unfold bLen at h
  split at h
  · cases r with
    | cons r0 rs =>
    cases rs
    split at h
    · rename_i n e
      have hq : Q (V.int ((n : Nat) : Int)) H := h.val R (.int _)
      unfold lenD at e
      split at e
      · split at e
        · cases e; cases r0; exact .inl ⟨_, _, rfl, ⟨by assumption, rfl⟩, hq⟩
        · cases e
      · cases e
        cases r0 with
        | tup t r => exact .inl ⟨_, _, rfl, .inr ⟨_, SqT.of t, r.len⟩, hq⟩
      · cases e
        cases r0 with
        | wt t r => exact .inl ⟨_, _, rfl, .inr ⟨_, t.sq, r.len⟩, hq⟩
      · cases e
        cases r0 with
        | wl t r => exact .inl ⟨_, _, rfl, .inl ⟨_, t.sq, r.len⟩, hq⟩
      · split at e
        · rename_i q
          obtain ⟨vs, h1, r⟩ := R.lst q
          cases e; cases r0; exact .inl ⟨_, _, rfl, .inl ⟨_, SqL.of h1, r.len⟩, hq⟩
        · rename_i q
          obtain ⟨o, vs, h1, r⟩ := R.ob _ _ q
          cases e; cases r0; exact .inl ⟨_, _, rfl, .inl ⟨_, .inl (.inr ⟨o, h1⟩), r.len⟩, hq⟩
        · rename_i zs q
          obtain ⟨ks, h1, h2, h3⟩ := R.ob _ _ q
          cases e; cases r0
          have hl : ks.length = zs.length := by simpa using congrArg List.length h2
          exact .inr ⟨_, _, rfl, h1, by rw [hl]; exact hq⟩
        · cases e
      · cases e
    · exact h.elim
  · exact h.elim
abbrev rIntAll : List V → Hp → VK → Prop := orC (fun xs H Q => (∃ i, xs = [.int i] ∧ Q (.int i) H) ∨ ∃ k, xs = [.bl k] ∧ Q (.int (b2i k)) H) (fun xs H Q => ∃ a n, xs = [V.str a] ∧ intText? a = some n ∧ a.length ≤ 640 ∧ Q (V.int n) H)
theorem cr_intA : CallR X (.type "int") rIntAll := CallR.or call_int1 call_int_str
theorem ok_int : CallOk K E rIntAll bInt := by
  intro p S H ds vs Q R r h
  unfold bInt at h
  split at h
  · cases r with
    | cons r0 rs => cases rs; cases r0; exact .inl (.inl ⟨_, rfl, h.val R (.int _)⟩)
  · cases r with
    | cons r0 rs => cases rs; cases r0; exact .inl (.inr ⟨_, rfl, h.val R (.int _)⟩)
  · cases r with
    | cons r0 rs =>
    cases rs; cases r0
    split at h
    · rename_i n e
      split at h
      · rename_i hl; exact .inr ⟨_, _, rfl, e, hl, h.val R (.int _)⟩
      · exact h.elim
    · exact h.elim
  · exact h.elim
theorem ints_V {pi : Nat → Addr} {n : Nat} {H : Hp} {ds : List D} {vs : List V} {ns : List Int} (r : Reps K pi n H ds vs) (h : intsD ds = some ns) : vs = ns.map V.int := by
  induction ds generalizing vs ns with
  | nil => cases r; simp [intsD] at h; subst h; rfl
  | cons d ds ih =>
    cases r with
    | cons r s =>
      cases r <;> simp [intsD] at h
      obtain ⟨ms, h1, rfl⟩ := h
      rw [ih s h1]; rfl
theorem seq_V {p : Nat → Addr} {S : Hs} {H : Hp} {x : D} {v : V} {ds : List D} (R : Real K p S H) (r : Rep K p S.length H x v) (h : seqD x S = some ds) : ∃ a vs, v = .ref a ∧ SqL K H a vs ∧ Reps K p S.length H ds vs := by
  unfold seqD at h
  split at h
  · split at h
    · rename_i q
      cases h; cases r
      obtain ⟨vs, h1, r⟩ := R.lst q
      exact ⟨_, vs, rfl, SqL.of h1, r⟩
    · rename_i q
      cases h; cases r
      obtain ⟨o, vs, h1, r⟩ := R.ob _ _ q
      exact ⟨_, vs, rfl, .inl (.inr ⟨o, h1⟩), r⟩
    · cases h
  · cases h
    cases r with
    | wl t r => exact ⟨_, _, rfl, t.sq, r⟩
  · cases h
theorem leastI_le (r : List Int) : ∀ m, leastI m r ≤ m ∧ (∀ y ∈ r, leastI m r ≤ y) ∧ (leastI m r = m ∨ leastI m r ∈ r) := by
  induction r with
  | nil => intro m; exact ⟨Int.le_refl _, by simp, .inl rfl⟩
  | cons x r ih =>
    intro m
    obtain ⟨h1, h2, h3⟩ := ih (if x < m then x else m)
    simp only [leastI]
    refine ⟨?_, fun y hy => ?_, ?_⟩
    · split at h1 <;> split <;> omega
    · rcases List.mem_cons.mp hy with rfl | hy
      · split at h1 <;> split <;> omega
      · exact h2 y hy
    · rcases h3 with h3 | h3
      · rw [h3]; split
        · exact .inr (List.mem_cons_self ..)
        · exact .inl rfl
      · exact .inr (List.mem_cons_of_mem _ h3)
abbrev rMin2 : List V → Hp → VK → Prop := fun xs H Q => ∃ i j, xs = [V.int i, V.int j] ∧ Q (V.int (if j < i then j else i)) H
theorem cr_minA (hc : X.calm = true) : CallR X (.builtin "min") (orC rMin2 (rMin X.K)) := CallR.or (call_min2 hc) (cr_min hc)
theorem ok_min : CallOk K E (orC rMin2 (rMin K)) bMin := by
  intro p S H ds vs Q R r h
  unfold bMin at h
  split at h
  · cases r with
    | cons r0 rs => cases rs with | cons r1 rs => cases rs; cases r0; cases r1; exact .inl ⟨_, _, rfl, h.val R (.int _)⟩
  · split at h
    · rename_i n t e
      rw [Option.bind_eq_some_iff] at e
      obtain ⟨ds, e1, e2⟩ := e
      cases r with
      | cons r0 rs =>
      cases rs
      obtain ⟨a, vs, rfl, hs, r⟩ := seq_V R r0 e1
      rw [ints_V r e2] at hs
      have hq : Q _ H := h.val R (.int _)
      refine .inr ⟨a, _, rfl, hs, by simp, fun m hm hle => ?_⟩
      obtain ⟨h1, h2, h3⟩ := leastI_le t n
      have : m = leastI n t := by
        have a1 : leastI n t ≤ m := by
          rcases List.mem_cons.mp hm with rfl | hm
          · exact h1
          · exact h2 m hm
        have a2 : m ≤ leastI n t := hle _ (h3.elim (fun e => by rw [e]; exact List.mem_cons_self ..) (List.mem_cons_of_mem _))
        omega
      rw [this]; exact hq
    · exact h.elim
  · exact h.elim
end
section
variable {X : Cx} {E : St → XK} {e : Expr} {f : ML} {p pos : Pos} {es : List Expr}
theorem c_len (hm : X.mg "len" = none) (ha : LM X E [e] f) (hg : Gl X "len" := by rfl) (he : starEach [e] X.env = (false, eval e X.env) :: starEach [] X.env := by rfl) : EM X E (.Call (.Name "len" p) [e] [] pos) (mCall bLen f) := e_callB cr_lenA ok_len hg hm (by decide +kernel) ha (by decide) (by decide) he (by rfl)
theorem c_int (hm : X.mg "int" = none) (ha : LM X E [e] f) (hg : Gl X "int" := by rfl) (he : starEach [e] X.env = (false, eval e X.env) :: starEach [] X.env := by rfl) : EM X E (.Call (.Name "int" p) [e] [] pos) (mCall bInt f) := e_callT cr_intA ok_int hg hm (by decide +kernel) ha (by decide) (by decide) he (by rfl)
theorem c_min (hc : X.calm = true) (hm : X.mg "min" = none) (ha : LM X E (e :: es) f) (hg : Gl X "min" := by rfl) (he : starEach (e :: es) X.env = (false, eval e X.env) :: starEach es X.env := by rfl) (hpl : (backTo pos (starEach es X.env)).any (·.1) = false := by rfl) : EM X E (.Call (.Name "min" p) (e :: es) [] pos) (mCall bMin f) := e_callB (cr_minA hc) ok_min hg hm (by decide +kernel) ha (by decide) (by decide) he hpl
end
end Ly
set_option Elab.async false
set_option linter.all false
set_option maxRecDepth 100000
namespace Ly
open PySem PySem.Spec L2
open PyProof.Rows hiding St
def hasTy (T : String) (x : D) (S : Hs) : Bool := match x with
  | .str _ => decide (T = "str")
  | .int _ => decide (T = "int")
  | .ref i => match S[i]? with
    | some (.lst _) => decide (T = "list")
    | some (.rol _) => decide (T = "list")
    | some (.dic _) => decide (T = "dict")
    | some (.dit _) => decide (T = "dict")
    | _ => false
  | _ => false
theorem hasTy_V {K : PySem.W.Frag} {T : String} {p : Nat → Addr} {S : Hs} {H : Hp} {x : D} {v : V} (R : Real K p S H) (r : Rep K p S.length H x v) (h : hasTy T x S = true) : tyV K T v H := by
  unfold hasTy at h
  cases r with
  | str x => exact of_decide_eq_true (p := T = "str") h
  | int x => exact of_decide_eq_true (p := T = "int") h
  | ref hi =>
    simp only at h
    split at h
    · rename_i q
      obtain ⟨vs, h1, r⟩ := R.lst q
      exact .inl ⟨of_decide_eq_true h, _, SqL.of h1⟩
    · rename_i q
      obtain ⟨o, vs, h1, r⟩ := R.ob _ _ q
      exact .inl ⟨of_decide_eq_true h, _, .inl (.inr ⟨o, h1⟩)⟩
    · rename_i q
      obtain ⟨ks, h1, _⟩ := R.ob _ _ q
      exact .inr (.inr (.inl ⟨of_decide_eq_true h, .inl ⟨_, h1⟩⟩))
    · rename_i q
      obtain ⟨ks, h1, _⟩ := R.ob _ _ q
      exact .inr (.inr (.inl ⟨of_decide_eq_true h, .inr ⟨_, h1⟩⟩))
    · cases h
  | _ => cases h
def mBM (Tn : String) (op : D → List D → Hs → R D) (f : M) (g : ML) : M := fun l S => (f l S).bind fun x S1 => if hasTy Tn x S1 = true then (g l S1).bind fun ds S2 => op x ds S2 else .bad
def MtOk (K : PySem.W.Frag) (E : St → XK) (r : V → List V → Hp → VK → Prop) (op : D → List D → Hs → R D) : Prop :=
  ∀ p S H x v ds vs Q, Real K p S H → Rep K p S.length H x v → Reps K p S.length H ds vs → Post K E S.length p H (op x ds S) (QD K Q) → r v vs H Q
section
variable {X : Cx} {E : St → XK} {o e : Expr} {es : List Expr} {f : M} {g : ML} {name : Str} {apos cpos : Pos} {Tn id : String} {r : V → List V → Hp → VK → Prop} {op : D → List D → Hs → R D}
theorem e_bm (pa : PlainAttrs Tn) (slot : Slot Tn name id) (hty : typeOf (.builtin id) = pure (.type "method_descriptor")) (hm : MtR X id r) (hk : MtOk X.K E r op) (ho : EM X E o f) (ha : LM X E (e :: es) g)
    (hbase : attributeBase o name X.env (eval o X.env) = eval o X.env := by rfl)
    (hfew : ((backTo cpos (starEach (e :: es) X.env)).all (fun x => !x.1) && (backToKw cpos (keywordEach [] X.env)).all (fun x => x.1.isSome)
      && decide ((e :: es).length + ([] : List Keyword).length + (if ([] : List Keyword).isEmpty then 0 else 1) < 30)) = true := by rfl)
    (hline : (apos.endLine == cpos.line) = true := by rfl) (hs : starEach (e :: es) X.env = (false, eval e X.env) :: starEach es X.env := by rfl) (hplain : (backTo cpos (starEach es X.env)).any (·.1) = false := by rfl) :
    EM X E (.Call (.Attribute o name apos) (e :: es) [] cpos) (mBM Tn op f g) :=
  ⟨(pe_bm pa slot hty hm ho.pe ha.pa hbase hfew hline hs hplain).weak fun s H Q ⟨p, l, S, R, L, h⟩ => T.of R L h fun p1 S1 H1 d v R1 x1 L1 r1 h1 => by
    split at h1
    · rename_i ht
      exact ⟨hasTy_V R1 r1 ht, TL.of R1 L1 h1 fun p2 S2 H2 d2 v2 R2 x2 L2 r2 h2 => hk p2 S2 H2 _ _ _ _ Q R2 (r1.ext x2 _ _) r2 h2⟩
    · exact h1.elim⟩
end
def oAppend (x : D) (ds : List D) (S : Hs) : R D := match x, ds with
  | .ref i, [y] => match S[i]? with
    | some (.lst xs) => if xs.length < sizeLine then .ok .non (S.set i (.lst (xs ++ [y]))) else .bad
    | _ => .bad
  | _, _ => .bad
def oFind (x : D) (ds : List D) (S : Hs) : R D := match x, ds with
  | .str a, [.str b] => .ok (.int (Txt.find a b)) S
  | .str a, [.str b, .int i] => .ok (.int (Txt.find3 a b i)) S
  | _, _ => .bad
def oRfind (x : D) (ds : List D) (S : Hs) : R D := match x, ds with
  | .str a, [.str b] => .ok (.int (Txt.rfind a b)) S
  | _, _ => .bad
def oCount (x : D) (ds : List D) (S : Hs) : R D := match x, ds with
  | .str a, [.str b] => .ok (.int (Txt.count a b)) S
  | _, _ => .bad
section
variable {K : PySem.W.Frag} {E : St → XK} {X : Cx}
theorem ok_append : MtOk K E rAppend oAppend := by
  intro p S H x v ds vs Q R rx r h
  unfold oAppend at h
  split at h
  · split at h
    · rename_i y _ xs q
      split at h
      · rename_i hl
        obtain ⟨us, h1, r1⟩ := R.lst q
        cases rx
        cases r with
        | cons r0 rs =>
        cases rs
        have hi := Real.lt q
        refine ⟨_, us, _, rfl, rfl, h1, by rw [← r1.len]; exact hl, h.put R hi ⟨_, upd_same, ?_⟩ .non⟩
        exact (r1.ext (ext_upd (R.notup hi)) _ _).append (.cons (r0.ext (ext_upd (R.notup hi)) _ _) .nil)
      · exact h.elim
    · exact h.elim
  · exact h.elim
abbrev orM (r r' : V → List V → Hp → VK → Prop) : V → List V → Hp → VK → Prop := fun x xs H Q => r x xs H Q ∨ r' x xs H Q
abbrev rFindA : V → List V → Hp → VK → Prop := orM (fun x xs H Q => ∃ a b, x = V.str a ∧ xs = [V.str b] ∧ Q (V.int (Txt.find a b)) H) (fun x xs H Q => ∃ a b i, x = V.str a ∧ xs = [V.str b, V.int i] ∧ Q (V.int (Txt.find3 a b i)) H)
theorem mt_findA : MtR X "str.find" rFindA := MtR.or mt_find mt_find3
theorem ok_find : MtOk K E rFindA oFind := by
  intro p S H x v ds vs Q R rx r h
  unfold oFind at h
  split at h
  · cases rx
    cases r with
    | cons r0 rs => cases rs; cases r0; exact .inl ⟨_, _, rfl, rfl, h.val R (.int _)⟩
  · cases rx
    cases r with
    | cons r0 rs => cases rs with | cons r1 rs => cases rs; cases r0; cases r1; exact .inr ⟨_, _, _, rfl, rfl, h.val R (.int _)⟩
  · exact h.elim
theorem ok_rfind : MtOk K E (fun x xs H Q => ∃ a b, x = V.str a ∧ xs = [V.str b] ∧ Q (V.int (Txt.rfind a b)) H) oRfind := by
  intro p S H x v ds vs Q R rx r h
  unfold oRfind at h
  split at h
  · cases rx
    cases r with
    | cons r0 rs => cases rs; cases r0; exact ⟨_, _, rfl, rfl, h.val R (.int _)⟩
  · exact h.elim
theorem ok_count : MtOk K E (fun x xs H Q => ∃ a b, x = V.str a ∧ xs = [V.str b] ∧ Q (V.int (Txt.count a b)) H) oCount := by
  intro p S H x v ds vs Q R rx r h
  unfold oCount at h
  split at h
  · cases rx
    cases r with
    | cons r0 rs => cases rs; cases r0; exact ⟨_, _, rfl, rfl, h.val R (.int _)⟩
  · exact h.elim
end
def mSet (i : Nat) (f : M) : MS := fun l S => (f l S).bind fun d S1 => .ok (.nx (l.set i (some d))) S1
def mExpr (f : M) : MS := fun l S => (f l S).bind fun _ S1 => .ok (.nx l) S1
def mRet (f : M) : MS := fun l S => (f l S).bind fun d S1 => .ok (.rt d) S1
def mRetN : MS := fun _ S => .ok (.rt .non) S
def mPass : MS := fun l S => .ok (.nx l) S
def mBrk : MS := fun l S => .ok (.bk l) S
def mCnt : MS := fun l S => .ok (.ct l) S
def mSeq (f g : MS) : MS := fun l S => (f l S).bind fun r S1 => match r with
  | .nx l1 => g l1 S1
  | r => .ok r S1
def mIfS (c : MB) (f g : MS) : MS := fun l S => (c l S).bind fun b S1 => if b = true then f l S1 else g l S1
section
variable {X : Cx} {E : St → XK} {st : Stmt} {sts : List Stmt} {f g : MS} {e : Expr} {m : M} {pos : Pos}
theorem Post.nx {K : PySem.W.Frag} {D0 : Ends} {p : Nat → Addr} {S : Hs} {H : Hp} {l : Ls} {s : St} (h : Post K E S.length p H (.ok (.nx l) S) (QF K D0)) (R : Real K p S H) (L : Sl K p S.length H l s) : D0.nx s H := Post.ok (Q := QF K D0) h Ext.refl R s L
theorem SMs.nil : SMs X E [] mPass := ⟨pss_nil.weak fun s H D0 ⟨p, l, S, R, L, h⟩ => Post.nx h R L⟩
theorem SMs.cons (h1 : SM X E st f) (h2 : SMs X E sts g) : SMs X E (st :: sts) (mSeq f g) := ⟨(pss_cons h1.ps h2.ps).weak fun s H D0 ⟨p, l, S, R, L, h⟩ => by
  refine ⟨p, l, S, R, L, (Post.bind (r := f l S) h).mono fun a S1 p1 H1 _ x R1 q => ?_⟩
  cases a with
  | nx l1 => exact fun s1 L1 => ⟨p1, l1, S1, R1, L1, q⟩
  | rt d => exact fun v r => Post.ok (Q := QF _ D0) q Ext.refl R1 v r
  | bk l1 => exact fun v r => Post.ok (Q := QF _ D0) q Ext.refl R1 v r
  | ct l1 => exact fun v r => Post.ok (Q := QF _ D0) q Ext.refl R1 v r⟩
theorem SMs.one (h1 : SM X E st f) : SMs X E [st] f := ⟨pss_one h1.ps⟩
theorem s_set {i : Nat} {x : Str} {pos' : Pos} (hN : X.N.Nodup) (he : EM X E e m) (hi : X.N[i]? = some x := by rfl) (hx : L2.Loc X.env.scope x := by first | exact Or.inl rfl | exact Or.inr rfl)
    (hs : swapsWith e (some (.Name x pos')) pos.line X.env = pure false := by rfl) (hf : X.fn x = true ∨ X.env.scope.names.lookup x = some .local := by first | exact .inl rfl | exact .inr rfl | assumption) :
    SM X E (.Assign [.Name x pos'] e pos) (mSet i m) :=
  ⟨(ps_set hN hi hx he.pe hs hf).weak fun s H D0 ⟨p, l, S, R, L, h⟩ => T.of R L h fun p1 S1 H1 d v R1 x1 L1 r1 h1 => Post.nx h1 R1 (L1.set i r1)⟩
theorem s_expr (he : EM X E e m) (hs : swapsWith e none pos.line X.env = pure false := by rfl) : SM X E (.Expr e pos) (mExpr m) :=
  ⟨(ps_expr he.pe hs).weak fun s H D0 ⟨p, l, S, R, L, h⟩ => T.of R L h fun p1 S1 H1 d v R1 x1 L1 r1 h1 => Post.nx h1 R1 L1⟩
theorem s_ret (he : EM X E e m) : SM X E (.Return (some e) pos) (mRet m) :=
  ⟨(ps_ret he.pe).weak fun s H D0 ⟨p, l, S, R, L, h⟩ => T.of R L h fun p1 S1 H1 d v R1 x1 L1 r1 h1 => Post.ok (Q := QF _ D0) h1 Ext.refl R1 v r1⟩
theorem TSt.last {K : PySem.W.Frag} {s : St} {H : Hp} {D0 : Ends} {p : Nat → Addr} {l : Ls} {S : Hs} (R : Real K p S H) (L : Sl K p S.length H l s) (h : Post K E S.length p H (f l S) (QF K D0)) : TSt K E f D0 s H := ⟨p, l, S, R, L, h⟩
theorem s_if {c : Expr} {a b : List Stmt} {cm : MB} (hc : BM X E c cm) (ha : SMs X E a f) (hb : SMs X E b g) : SM X E (.If c a b pos) (mIfS cm f g) :=
  ⟨(ps_if hc.pt ha.ps hb.ps).weak fun s H D0 ⟨p, l, S, R, L, h⟩ => TB.of R L h fun p1 S1 H1 b R1 x1 L1 h1 => by
    cases b with
    | true => exact TSt.last R1 L1 h1
    | false => exact TSt.last R1 L1 h1⟩
end
def iter {A β : Type} (step : A → Sum A (R β)) : Nat → A → R β
  | 0, _ => .bad
  | n + 1, a => Sum.elim (iter step n) id (step a)
theorem iter_succ {A β : Type} (step : A → Sum A (R β)) : ∀ n a, iter step n a ≠ .bad → iter step (n + 1) a = iter step n a
  | 0, a, h => absurd rfl h
  | n + 1, a, h => by
    simp only [iter] at h ⊢
    cases e : step a with
    | inl a' => rw [e] at h; exact iter_succ step n a' h
    | inr r => rfl
theorem iter_le {A β : Type} (step : A → Sum A (R β)) {n m : Nat} (hnm : n ≤ m) {a : A} (h : iter step n a ≠ .bad) : iter step m a = iter step n a := by
  induction hnm with
  | refl => rfl
  | step _ ih => rw [iter_succ step _ a (by rw [ih]; exact h), ih]
open Classical in
noncomputable def runI {A β : Type} (step : A → Sum A (R β)) (a : A) : R β := if h : ∃ n, iter step n a ≠ .bad then iter step h.choose a else .bad
theorem runI_of {A β : Type} {step : A → Sum A (R β)} {n : Nat} {a : A} (h : iter step n a ≠ .bad) : runI step a = iter step n a := by
  have hx : ∃ n, iter step n a ≠ .bad := ⟨n, h⟩
  unfold runI
  rw [dif_pos hx]
  rcases Nat.le_total n hx.choose with q | q
  · exact iter_le step q h
  · exact (iter_le step q hx.choose_spec).symm
theorem runI_ex {A β : Type} {step : A → Sum A (R β)} {a : A} (h : runI step a ≠ .bad) : ∃ n, iter step n a = runI step a ∧ iter step n a ≠ .bad := by
  apply Classical.byContradiction
  intro hx
  refine h ?_
  have : ¬ ∃ n, iter step n a ≠ .bad := fun ⟨n, hn⟩ => hx ⟨n, (runI_of hn).symm, hn⟩
  unfold runI; rw [dif_neg this]
theorem runI_eq {A β : Type} (step : A → Sum A (R β)) (a : A) : runI step a = match step a with
    | .inl a' => runI step a'
    | .inr r => r := by
  cases e : step a with
  | inr r =>
    show runI step a = r
    by_cases hr : r = .bad
    · subst hr
      apply Classical.byContradiction
      intro h
      obtain ⟨n, _, hn⟩ := runI_ex h
      cases n with
      | zero => exact hn rfl
      | succ n => simp only [iter, e] at hn; exact hn rfl
    · have : iter step 1 a = r := by simp only [iter, e]; rfl
      rw [runI_of (n := 1) (by rw [this]; exact hr), this]
  | inl a' =>
    show runI step a = runI step a'
    by_cases h : runI step a' = .bad
    · rw [h]
      apply Classical.byContradiction
      intro h2
      obtain ⟨n, _, hn⟩ := runI_ex h2
      cases n with
      | zero => exact hn rfl
      | succ n =>
        simp only [iter, e] at hn
        exact hn (by rw [Sum.elim_inl, ← runI_of hn]; exact h)
    · obtain ⟨n, e1, hn⟩ := runI_ex h
      have : iter step (n + 1) a = iter step n a' := by simp only [iter, e]; rfl
      rw [runI_of (n := n + 1) (by rw [this]; exact hn), this, e1]
def turnOf {A : Type} (r : R F) (next : Ls → Hs → A) : Sum A (R F) := match r with
  | .ok (.nx l) S => .inl (next l S)
  | .ok (.ct l) S => .inl (next l S)
  | .ok (.bk l) S => .inr (.ok (.nx l) S)
  | .ok (.rt d) S => .inr (.ok (.rt d) S)
  | .exc c fs l S => .inr (.exc c fs l S)
  | .bad => .inr .bad
def wStep (c : MB) (b : MS) (a : Ls × Hs) : Sum (Ls × Hs) (R F) := match c a.1 a.2 with
  | .ok t S1 => if t = true then turnOf (b a.1 S1) Prod.mk else .inr (.ok (.nx a.1) S1)
  | .exc c fs l S => .inr (.exc c fs l S)
  | .bad => .inr .bad
noncomputable def mWhile (c : MB) (b : MS) : MS := fun l S => runI (wStep c b) (l, S)
theorem mWhile_eq (c : MB) (b : MS) (l : Ls) (S : Hs) : mWhile c b l S = (c l S).bind fun t S1 => if t = true then (b l S1).bind fun r S2 => match r with
    | .nx l2 => mWhile c b l2 S2
    | .ct l2 => mWhile c b l2 S2
    | .bk l2 => .ok (.nx l2) S2
    | .rt d => .ok (.rt d) S2
    else .ok (.nx l) S1 := by
  unfold mWhile
  rw [runI_eq]
  unfold wStep turnOf
  simp only []
  cases c l S with
  | ok t S1 =>
    cases t with
    | false => rfl
    | true =>
      simp only [if_true, R.bind_ok]
      cases b l S1 with
      | ok r S2 => cases r <;> rfl
      | exc _ _ _ _ => rfl
      | bad => rfl
  | exc _ _ _ _ => rfl
  | bad => rfl
theorem Post.ne {α : Type} {K : PySem.W.Frag} {E : St → XK} {n : Nat} {p : Nat → Addr} {H : Hp} {r : R α} {Q : α → Hs → (Nat → Addr) → Hp → Prop} (h : Post K E n p H r Q) : r ≠ .bad := fun e => by subst e; exact h
section
variable {X : Cx} {E : St → XK} {g : MS} {pos : Pos}
theorem turn_post {K : PySem.W.Frag} {A : Type} {step : A → Sum A (R F)} {m : Nat} {p : Nat → Addr} {S : Hs} {H : Hp} {D0 : Ends} {r : R F} {next : Ls → Hs → A} {N : St → Hp → Prop}
    (h : Post K E S.length p H (Sum.elim (iter step m) id (turnOf r next)) (QF K D0))
    (hN : ∀ l S2 p2 H2 s, Ext S.length S2.length p p2 H H2 → Real K p2 S2 H2 → Sl K p2 S2.length H2 l s → Post K E S2.length p2 H2 (iter step m (next l S2)) (QF K D0) → N s H2) :
    Post K E S.length p H r (QF K { D0 with nx := N, ct := N, bk := D0.nx }) := by
  unfold turnOf at h
  cases r with
  | ok f S2 =>
    intro p2 H2 x R2
    cases f with
    | nx l => exact fun s L => hN l S2 p2 H2 s x R2 L (Post.ext h x)
    | ct l => exact fun s L => hN l S2 p2 H2 s x R2 L (Post.ext h x)
    | bk l => exact fun s L => Post.nx (Post.ext h x) R2 L
    | rt d => exact fun v r => Post.ok (Q := QF _ D0) (Post.ext h x) Ext.refl R2 v r
  | exc c fs l S2 => exact h
  | bad => exact h
theorem s_while {c : Expr} {body : List Stmt} {cm : MB} (hp : PassesOwn (model X.prog X.w) X.A X.env X.xe) (hc : BM X E c cm) (hb : SMs X E body g) : SM X E (.While c body [] pos) (mWhile cm g) :=
  ⟨(ps_while hp hc.pt hb.ps).weak fun s H D0 ⟨p, l, S, R, L, h⟩ => by
    obtain ⟨n, hn, _⟩ := runI_ex (Post.ne h)
    rw [show mWhile cm g l S = _ from hn.symm] at h
    refine ⟨fun m s H => ∃ p l S, Real X.K p S H ∧ Sl X.K p S.length H l s ∧ Post X.K E S.length p H (iter (wStep cm g) m (l, S)) (QF X.K D0), ⟨n, p, l, S, R, L, h⟩, ?_⟩
    rintro m s H ⟨p, l, S, R, L, h⟩
    cases m with
    | zero => exact h.elim
    | succ m =>
      simp only [iter, wStep] at h
      refine ⟨p, l, S, R, L, ?_⟩
      cases e : cm l S with
      | bad => rw [e] at h; exact h
      | exc c fs l2 S2 => rw [e] at h; exact h
      | ok t S1 =>
        rw [e] at h
        simp only [] at h
        intro p1 H1 x R1
        cases t with
        | false => exact Post.nx (Post.ext h x) R1 (L.ext x)
        | true =>
          simp only [if_true] at h ⊢
          exact ⟨fun s H => ∃ p l S, Real X.K p S H ∧ Sl X.K p S.length H l s ∧ Post X.K E S.length p H (iter (wStep cm g) m (l, S)) (QF X.K D0), fun s' H' w => ⟨m, Nat.lt_succ_self m, w⟩, p1, l, S1, R1, L.ext x,
            turn_post (Post.ext h x) fun l2 S2 p2 H2 s2 _ R2 L2 h2 => ⟨p2, l2, S2, R2, L2, h2⟩⟩⟩
end
end Ly
set_option Elab.async false
set_option linter.all false
set_option maxRecDepth 100000
namespace Ly
open PySem PySem.Spec L2
open PyProof.Rows hiding St
def R.at {α : Type} (r : R α) (l : Ls) : R α := match r with
  | .exc c fs _ S => .exc c fs l S
  | r => r
@[simp] theorem R.at_ok {α : Type} (a : α) (S : Hs) (l : Ls) : (R.ok a S).at l = .ok a S := (show (R.ok a S).at l = .ok a S from rfl).trans (Eq.refl _)
@[simp] theorem R.at_exc {α : Type} (c fs l2) (S : Hs) (l : Ls) : (R.exc c fs l2 S : R α).at l = .exc c fs l S := (show (R.exc c fs l2 S : R α).at l = .exc c fs l S from rfl).trans (Eq.refl _)
@[simp] theorem R.at_bad {α : Type} (l : Ls) : (R.bad : R α).at l = .bad := rfl
abbrev MD := List D → Hs → R D
def endOf (r : R F) : R D := match r with
  | .ok (.nx _) S => .ok .non S
  | .ok (.rt d) S => .ok d S
  | .ok _ _ => .bad
  | .exc c fs _ S => .exc c fs [] S
  | .bad => .bad
def mDef (np nl : Nat) (body : MS) : MD := fun ds S => if ds.length = np then endOf (body (ds.map some ++ List.replicate nl none) S) else .bad
def spM (K : PySem.W.Frag) (np : Nat) (m : MD) : Sp := fun vs H Q E => ∃ p S ds, Real K p S H ∧ Reps K p S.length H ds vs ∧ ds.length = np ∧ Post K (fun _ => E) S.length p H (m ds S) (QD K Q)
theorem spM_len {K : PySem.W.Frag} {np : Nat} {m : MD} {vs : List V} {H : Hp} {Q : VK} {E : XK} (h : spM K np m vs H Q E) : vs.length = np := by
  obtain ⟨p, S, ds, R, r, hl, _⟩ := h
  rw [← r.len]; exact hl
theorem Reps.sl {K : PySem.W.Frag} {p : Nat → Addr} {n : Nat} {H : Hp} {ds : List D} {vs : List V} (r : Reps K p n H ds vs) (m : Nat) : Sl K p n H (ds.map some ++ List.replicate m none) (vs.map some ++ List.replicate m none) := by
  induction ds generalizing vs with
  | nil =>
    cases r
    simp only [List.map_nil, List.nil_append]
    induction m with
    | zero => exact .nil
    | succ m ih => exact .no _ ih
  | cons d ds ih => cases r with | cons r s => exact .yes r (ih s)
section
variable {P : Program} {w : World} {K : PySem.W.Frag} {mg : Str → Option Value} {base : Heap}
theorem fn_def {x qual : Str} {st : Stmt} {f : Addr} {fd : FuncData} {N ps : List Str} {k : Nat} {np nl : Nat} {m : MS} (F : Fun K x qual st f fd) (S : FnScope N ps (defScope st)) (hp : ps.length = np) (hn : N.length = np + nl)
    (hb : ∀ (cdv : Value) (A : Around) (outer : List Env) (s : Shared) (H : Hp) (E : XK), Room k (A.deeper (PyProof.Rows.envOfC qual (defScope st) s.heap.objs.size f cdv)) →
      SMs (cxOf (L2.CX P w) P w K mg base N qual (defScope st) f cdv A outer s H E) (fun _ => E) (defBody st) m) : FnOk P w K mg base (L2.CX P w) (k + 1) f fd ps (spM K np (mDef np nl m)) := by
  refine F.okX S (fun vs H Q E h => (spM_len h).trans hp.symm) fun cdv A outer s H vs Q E hr h => ⟨_, (hb cdv A outer s H E hr).ps, ?_⟩
  obtain ⟨p, S0, ds, R, r, hl, h⟩ := h
  have e : L2.start N vs = vs.map some ++ List.replicate nl none := by
    unfold L2.start
    rw [hn, ← r.len, hl, Nat.add_sub_cancel_left]
  refine ⟨p, ds.map some ++ List.replicate nl none, S0, R, by rw [e]; exact r.sl nl, ?_⟩
  unfold mDef at h
  rw [if_pos hl] at h
  revert h
  generalize m _ S0 = res
  intro h
  cases res with
  | ok a S1 =>
    intro p1 H1 x1 R1
    cases a with
    | nx l1 => exact fun s1 L1 => Post.ok (Q := QD K Q) h x1 R1 _ .non
    | rt d => exact fun v r => Post.ok (Q := QD K Q) h x1 R1 v r
    | bk l1 => exact h.elim
    | ct l1 => exact h.elim
  | exc c fs l S1 => exact fun p1 H1 u d s1 x1 R1 rc rf L1 => h p1 H1 u d [] x1 R1 rc rf .nil
  | bad => exact h
theorem pass_def {N : List Str} {qual : Str} {scope : Scope} {f : Addr} {cdv : Value} {A : Around} {outer : List Env} {s : Shared} {H : Hp} {E : XK} :
    Passes (L2.CX P w) (cxOf (L2.CX P w) P w K mg base N qual scope f cdv A outer s H E) E :=
  passes_call (takes_of rfl rfl rfl rfl) fun _ _ _ _ h => h
end
section
variable {X : Cx} {E : St → XK} {CX : CXT} {k : Nat} {f C : Addr} {fd : FuncData} {ps : List Str} {np : Nat} {md : MD} {x m : Str} {p pos apos : Pos} {e o : Expr} {es : List Expr} {g : ML} {E0 : XK}
def mFn (md : MD) (g : ML) : M := fun l S => (g l S).bind fun ds S1 => (md ds S1).at l
theorem fn_post {α : Type} {K : PySem.W.Frag} {n : Nat} {q : Nat → Addr} {H : Hp} {r : R α} {l : Ls} {s : St} {Q : α → Hs → (Nat → Addr) → Hp → Prop} (L : Sl K q n H l s) (h : Post K E n q H (r.at l) Q) : Post K (fun _ => E s) n q H r Q := by
  cases r with
  | ok a S => exact h
  | exc c fs l2 S => exact fun p1 H1 u d s1 x1 R1 rc rf L1 => h p1 H1 u d s x1 R1 rc rf (L.ext x1)
  | bad => exact h
theorem e_fn (F : FnOk X.prog X.w X.K X.mg X.base CX k f fd ps (spM X.K np md)) (hp : ∀ ds S, ds.length ≠ np → md ds S = .bad) (hr : Room k X.A) (hg : Gl X x) (hm : X.mg x = some (.ref f)) (hk : PySem.W.keepIn X.K (.ref f) = true) (hb : Binds X.K fd ps [])
    (hx : ∀ σ, PassesAt CX X σ (E σ)) (ha : LM X E (e :: es) g) (hdb : (x == ("__debug__" : Str)) = false := by decide) (he : starEach (e :: es) X.env = (false, eval e X.env) :: starEach es X.env := by rfl)
    (hpl : (backTo pos (starEach es X.env)).any (·.1) = false := by rfl) : EM X E (.Call (.Name x p) (e :: es) [] pos) (mFn md g) :=
  ⟨(pe_callSD F hr hg hm hk hb .nil hx ha.pa hdb he hpl).weak fun s H Q ⟨q, l, S, R, L, h⟩ => TL.of R L h fun p1 S1 H1 d v R1 x1 L1 r1 h1 => by
    refine ⟨p1, S1, d, R1, by rw [List.append_nil]; exact r1, ?_, fn_post L1 h1⟩
    apply Classical.byContradiction
    intro hne
    rw [hp d S1 hne] at h1
    exact h1⟩
theorem Passes.at (h : Passes CX X E0) (σ : St) : PassesAt CX X σ E0 := fun pins H s e s' => h pins σ H s e s'
end
theorem mDef_len {np nl : Nat} {b : MS} (ds : List D) (S : Hs) (h : ds.length ≠ np) : mDef np nl b ds S = .bad := if_neg h
mutual
def D.low (n : Nat) : D → Prop
  | .ref i => i < n
  | .tup ds => D.lows n ds
  | .wt ds => D.lows n ds
  | .wl ds => D.lows n ds
  | _ => True
def D.lows (n : Nat) : List D → Prop
  | [] => True
  | d :: ds => D.low n d ∧ D.lows n ds
end
def O.low (n : Nat) : O → Prop
  | .lst ds => D.lows n ds
  | .rol ds => D.lows n ds
  | .dic kvs => D.lows n (kvs.map (·.2))
  | .dit kvs => D.lows n (kvs.map (·.2))
  | .ins _ fs => D.lows n (fs.map (·.2))
def Wf (S : Hs) : Prop := ∀ (i : Nat) (o : O), S[i]? = some o → o.low S.length
section
variable {K : PySem.W.Frag} {pi : Nat → Addr} {n m : Nat} {H : Hp}
mutual
theorem Rep.low : ∀ (d : D) (v : V), Rep K pi n H d v → d.low n
  | .non, _, _ => by simp [D.low]
  | .bl _, _, _ => by simp [D.low]
  | .int _, _, _ => by simp [D.low]
  | .str _, _, _ => by simp [D.low]
  | .tup ds, _, .tup t r => by simp only [D.low]; exact Reps.low ds _ r
  | .wt ds, _, .wt t r => by simp only [D.low]; exact Reps.low ds _ r
  | .wl ds, _, .wl t r => by simp only [D.low]; exact Reps.low ds _ r
  | .ref i, _, .ref h => by simpa [D.low] using h
  | .cst _, _, _ => by simp [D.low]
theorem Reps.low : ∀ (d : List D) (v : List V), Reps K pi n H d v → D.lows n d
  | [], _, _ => by simp [D.lows]
  | d :: ds, _, .cons r s => by simp only [D.lows]; exact ⟨Rep.low d _ r, Reps.low ds _ s⟩
end
mutual
theorem Rep.cut : ∀ (d : D) (v : V), Rep K pi n H d v → d.low m → Rep K pi m H d v
  | .non, _, .non, _ => .non
  | .bl _, _, .bl _, _ => .bl _
  | .int _, _, .int _, _ => .int _
  | .str _, _, .str _, _ => .str _
  | .tup ds, _, .tup t r, h => .tup t (Reps.cutN ds _ r (by simpa only [D.low] using h))
  | .wt ds, _, .wt t r, h => .wt t (Reps.cutN ds _ r (by simpa only [D.low] using h))
  | .wl ds, _, .wl t r, h => .wl t (Reps.cutN ds _ r (by simpa only [D.low] using h))
  | .ref i, _, .ref _, h => .ref (by simpa only [D.low] using h)
  | .cst _, _, .cst _, _ => .cst _
theorem Reps.cutN : ∀ (d : List D) (v : List V), Reps K pi n H d v → D.lows m d → Reps K pi m H d v
  | [], _, .nil, _ => .nil
  | d :: ds, _, .cons r s, h => by
    simp only [D.lows] at h
    exact .cons (Rep.cut d _ r h.1) (Reps.cutN ds _ s h.2)
end
theorem RO.low {a : Addr} {o : O} (h : RO K pi n H a o) : o.low n := by
  cases o with
  | lst ds => obtain ⟨xs, _, h2⟩ := h; exact h2.low
  | rol ds => obtain ⟨o, xs, _, h2⟩ := h; exact h2.low
  | dic kvs => obtain ⟨ks, _, _, h3⟩ := h; exact h3.low
  | dit kvs => obtain ⟨ks, _, _, h3⟩ := h; exact h3.low
  | ins C fs => obtain ⟨dx, ks, _, _, h3⟩ := h; exact h3.low
theorem RO.cut {a : Addr} {o : O} (h : RO K pi n H a o) (l : o.low m) : RO K pi m H a o := by
  cases o with
  | lst ds => obtain ⟨xs, h1, h2⟩ := h; exact ⟨xs, h1, h2.cutN _ _ l⟩
  | rol ds => obtain ⟨o, xs, h1, h2⟩ := h; exact ⟨o, xs, h1, h2.cutN _ _ l⟩
  | dic kvs => obtain ⟨ks, h1, h2, h3⟩ := h; exact ⟨ks, h1, h2, h3.cutN _ _ l⟩
  | dit kvs => obtain ⟨ks, h1, h2, h3⟩ := h; exact ⟨ks, h1, h2, h3.cutN _ _ l⟩
  | ins C fs => obtain ⟨dx, ks, h1, h2, h3⟩ := h; exact ⟨dx, ks, h1, h2, h3.cutN _ _ l⟩
theorem Real.wf {S : Hs} (R : Real K pi S H) : Wf S := fun i o e => (R.ob i o e).low
theorem Real.drop {S g : Hs} (R : Real K pi (S ++ g) H) (w : Wf S) : Real K pi S H := by
  refine ⟨fun i o e => ?_, fun i j hi hj => R.inj i j (by simp; omega) (by simp; omega)⟩
  have hi := (List.getElem?_eq_some_iff.mp e).1
  exact (R.ob i o (by rw [List.getElem?_append_left hi]; exact e)).cut (w i o e)
end
def Fine (np : Nat) (m' m : MD) : Prop := ∀ ds S, Wf S → D.lows S.length ds → ds.length = np → match m' ds S with
  | .ok v S' => S.length ≤ S'.length ∧ Wf S' ∧ v.low S'.length ∧ ∃ g, m ds S = .ok v (S' ++ g)
  | .exc c fs l S' => l = [] ∧ S.length ≤ S'.length ∧ Wf S' ∧ (∀ l, fs = some l → D.lows S'.length (l.map (·.2))) ∧ ∃ g, m ds S = .exc c fs [] (S' ++ g)
  | .bad => True
theorem spM_fine {K : PySem.W.Frag} {np : Nat} {m' m : MD} (hf : Fine np m' m) {vs : List V} {H : Hp} {Q : VK} {E : XK} (h : spM K np m' vs H Q E) : spM K np m vs H Q E := by
  obtain ⟨p, S, ds, R, r, hl, h⟩ := h
  refine ⟨p, S, ds, R, r, hl, ?_⟩
  have f := hf ds S R.wf r.low hl
  revert f h
  cases m' ds S with
  | ok v S' =>
    intro h f
    obtain ⟨h1, h2, h3, g, e⟩ := f
    rw [e]
    intro p1 H1 x1 R1 u r1
    exact Post.ok (Q := QD K Q) h ⟨h1, x1.ag, x1.tp⟩ (R1.drop h2) u (r1.cut _ _ h3)
  | exc c fs l S' =>
    intro h f
    obtain ⟨rfl, h1, h2, h3, g, e⟩ := f
    rw [e]
    intro p1 H1 u d s x1 R1 rc rf L
    refine h p1 H1 u d s ⟨h1, x1.ag, x1.tp⟩ (R1.drop h2) rc ?_ ?_
    · unfold XFs at rf ⊢
      cases d <;> cases fs <;> first | exact rf | skip
      obtain ⟨ks, k1, k2, k3⟩ := rf
      exact ⟨ks, k1, k2, k3.cutN _ _ (h3 _ rfl)⟩
    · cases L; exact .nil
  | bad => intro h f; exact h.elim
end Ly
set_option Elab.async false
set_option linter.all false
set_option maxRecDepth 100000
namespace Ly
open PySem PySem.Spec L2
open PyProof.Rows hiding St
abbrev MG := D → Ls → Hs → R Ls
def TG' (K : PySem.W.Frag) (E : St → XK) (f : MG) : TG := fun v s H Q => ∃ p l S d, Real K p S H ∧ Sl K p S.length H l s ∧ Rep K p S.length H d v ∧ Post K E S.length p H (f d l S) (fun l1 S1 p1 H1 => ∀ s1, Sl K p1 S1.length H1 l1 s1 → Q s1 H1)
structure GM (X : Cx) (E : St → XK) (t : Expr) (f : MG) : Prop where pg : PG X t (TG' X.K E f)
theorem _root_.L2.PG.weak {X : Cx} {e : Expr} {t t' : TG} (h : PG X e t) (w : ∀ v s H Q, t' v s H Q → t v s H Q) : PG X e t' := ⟨fun pins s σ H v u Q I r q => h.run pins s σ H v u Q I r (w v σ H Q q)⟩
def gN (i : Nat) : MG := fun d l S => .ok (l.set i (some d)) S
abbrev MGs := List D → Ls → Hs → R Ls
def gsN : MGs := fun ds l S => match ds with
  | [] => .ok l S
  | _ => .bad
def gsC (f : MG) (g : MGs) : MGs := fun ds l S => match ds with
  | d :: r => (f d l S).bind fun l1 S1 => g r l1 S1
  | [] => .bad
def gT (n : Nat) (f : MGs) : MG := fun d l S => match d with
  | .tup ds => if ds.length = n then f ds l S else .bad
  | .wt ds => if ds.length = n then f ds l S else .bad
  | _ => .bad
def TGs' (K : PySem.W.Frag) (E : St → XK) (f : MGs) : TGs := fun v s H Q => ∃ p l S d, Real K p S H ∧ Sl K p S.length H l s ∧ Reps K p S.length H d v ∧ Post K E S.length p H (f d l S) (fun l1 S1 p1 H1 => ∀ s1, Sl K p1 S1.length H1 l1 s1 → Q s1 H1)
structure GMs (X : Cx) (E : St → XK) (t : List Expr) (f : MGs) : Prop where pgs : PGs X t (TGs' X.K E f)
section
variable {X : Cx} {E : St → XK} {pos : Pos}
theorem g_n {i : Nat} {x : Str} (hN : X.N.Nodup) (hi : X.N[i]? = some x := by rfl) (hx : L2.Loc X.env.scope x := by first | exact Or.inl rfl | exact Or.inr rfl) (hf : X.fn x = true ∨ X.env.scope.names.lookup x = some .local := by first | exact .inl rfl | exact .inr rfl | assumption) : GM X E (.Name x pos) (gN i) :=
  ⟨(pg_name hN hi hx hf).weak fun v s H Q ⟨p, l, S, d, R, L, r, h⟩ => Post.ok h Ext.refl R _ (L.set i r)⟩
theorem gs_nil : GMs X E [] gsN := ⟨⟨fun pins s σ H vs us Q I rv ⟨p, l, S, d, R, L, r, h⟩ => by
  refine pgs_nil.run pins s σ H vs us Q I rv ?_
  unfold gsN at h
  split at h
  · cases r; exact ⟨rfl, Post.ok h Ext.refl R _ L⟩
  · exact h.elim⟩⟩
theorem gs_cons {e : Expr} {es : List Expr} {f : MG} {g : MGs} (h1 : GM X E e f) (h2 : GMs X E es g) (hs : (assignEach (e :: es) X.env).map (·.2) = assign e X.env :: (assignEach es X.env).map (·.2) := by rfl) : GMs X E (e :: es) (gsC f g) :=
  ⟨⟨fun pins s σ H vs us Q I rv ⟨p, l, S, d, R, L, r, h⟩ => by
    refine (pgs_cons h1.pg h2.pgs hs).run pins s σ H vs us Q I rv ?_
    unfold gsC at h
    split at h
    · cases r with
      | cons r0 rs =>
      exact ⟨_, _, rfl, p, l, S, _, R, L, r0, h.bind.mono fun l1 S1 p1 H1 _ x1 R1 q s1 L1 => ⟨p1, l1, S1, _, R1, L1, rs.ext x1 _ _, q⟩⟩
    · exact h.elim⟩⟩
theorem g_tup {es : List Expr} {k n : Nat} {f : MGs} (hc : X.calm = true) (h : GMs X E es f) (hn : (assignEach es X.env).length = n := by rfl) (hst : (assignEach es X.env).findIdx? (·.1) = none := by rfl) : GM X E (.Tuple es k pos) (gT n f) :=
  ⟨(pg_tup hc h.pgs hn hst).weak fun v s H Q ⟨p, l, S, d, R, L, r, h⟩ => by
    unfold gT at h
    split at h
    · split at h
      · rename_i hl
        cases r with
        | tup t r => exact ⟨_, _, rfl, SqT.of t, by rw [← r.len]; exact hl, p, l, S, _, R, L, r, h⟩
      · exact h.elim
    · split at h
      · rename_i hl
        cases r with
        | wt t r => exact ⟨_, _, rfl, t.sq, by rw [← r.len]; exact hl, p, l, S, _, R, L, r, h⟩
      · exact h.elim
    · exact h.elim⟩
def mAsg (f : M) (g : MG) : MS := fun l S => (f l S).bind fun d S1 => (g d l S1).bind fun l1 S2 => .ok (.nx l1) S2
theorem s_asg {tg e : Expr} {f : M} {g : MG} (he : EM X E e f) (hg : GM X E tg g) (hs : swapsWithSole [tg] e pos.line X.env = pure false := by rfl) (hw : swappedStores [tg] e X.env = pure none := by rfl)
    (h1 : (assignEach [tg] X.env).map (·.2) = [assign tg X.env] := by rfl) : SM X E (.Assign [tg] e pos) (mAsg f g) :=
  ⟨(ps_asg he.pe hg.pg hs hw h1).weak fun s H D0 ⟨p, l, S, R, L, h⟩ => T.of R L h fun p1 S1 H1 d v R1 x1 L1 r1 h1 => ⟨p1, l, S1, d, R1, L1, r1, h1.bind.mono fun l1 S2 p2 H2 _ x2 R2 q s2 L2 => Post.nx q R2 L2⟩⟩
def oSet (x y d : D) (S : Hs) : R Unit := match x with
  | .ref i => match S[i]? with
    | some (.lst xs) => (match y with
      | .int k => (match ixN xs.length k with
        | some j => .ok () (S.set i (.lst (xs.set j d)))
        | none => .bad)
      | _ => .bad)
    | some (.dic kvs) => (match y.key with
      | some k => if kvs.length < sizeLine then .ok () (S.set i (.dic (setK kvs k d))) else .bad
      | none => .bad)
    | some (.dit kvs) => (match y.tkey with
      | some k => if kvs.length < sizeLine then .ok () (S.set i (.dit (setK kvs k d))) else .bad
      | none => .bad)
    | _ => .bad
  | _ => .bad
abbrev rSetD : V → V → V → Hp → (Hp → Prop) → Prop := fun o i v H Q => ∃ a H', o = .ref a ∧ DPut H a i v H' ∧ Q H'
theorem set_dic (hu : X.A.units + 1 < cLine) : PSet X rSetD := by
  intro pins s σ H o i v ov iv u Q I ro ri rv h
  obtain ⟨a, H', rfl, g, q⟩ := h
  obtain rfl : ov = Value.ref a := ro
  exact d_setItem hu I g ri rv fun s4 I4 => ⟨H', I4, q⟩
abbrev rSetA : V → V → V → Hp → (Hp → Prop) → Prop := fun o i v H Q => rSetL o i v H Q ∨ rSetD o i v H Q
theorem set_all (hu : X.A.units + 1 < cLine) : PSet X rSetA := fun pins s σ H o i v ov iv u Q I ro ri rv h => h.elim (set_list pins s σ H o i v ov iv u Q I ro ri rv) (set_dic hu pins s σ H o i v ov iv u Q I ro ri rv)
theorem setK_V {κ : Type} [DecidableEq κ] {K : PySem.W.Frag} {pi : Nat → Addr} {n : Nat} {H : Hp} {kvs : List (κ × D)} {ks : List (κ × V)} (h : ks.map (·.1) = kvs.map (·.1)) (r : Reps K pi n H (kvs.map (·.2)) (ks.map (·.2))) (k : κ) {d : D} {v : V} (rv : Rep K pi n H d v) :
    (putK ks k v).map (·.1) = (setK kvs k d).map (·.1) ∧ Reps K pi n H ((setK kvs k d).map (·.2)) ((putK ks k v).map (·.2)) := by
  have hany : (ks.any fun kv => decide (kv.1 = k)) = kvs.any fun kv => decide (kv.1 = k) := by
    have e1 : (ks.any fun kv => decide (kv.1 = k)) = (ks.map (·.1)).any fun z => decide (z = k) := by rw [List.any_map]; rfl
    have e2 : (kvs.any fun kv => decide (kv.1 = k)) = (kvs.map (·.1)).any fun z => decide (z = k) := by rw [List.any_map]; rfl
    rw [e1, e2, h]
  unfold putK setK
  rw [hany]
  split
  · rename_i hx
    clear hx hany
    induction kvs generalizing ks with
    | nil => cases ks with | nil => exact ⟨rfl, .nil⟩ | cons a b => cases h
    | cons a kvs ih =>
      cases ks with
      | nil => cases h
      | cons b ks =>
        simp only [List.map_cons, List.cons.injEq] at h
        cases r with
        | cons r s =>
          obtain ⟨i1, i2⟩ := ih h.2 s
          simp only [List.map_cons, List.cons.injEq]
          rw [h.1]
          by_cases e : a.1 = k
          · simp only [e, if_true]; exact ⟨⟨trivial, i1⟩, .cons rv i2⟩
          · simp only [e, if_false]; exact ⟨⟨h.1, i1⟩, .cons r i2⟩
  · rw [List.map_append, List.map_append, List.map_append, List.map_append, h]
    exact ⟨rfl, r.append (.cons rv .nil)⟩
theorem Post.put1 {K : PySem.W.Frag} {p : Nat → Addr} {S : Hs} {H : Hp} {i : Nat} {o : O} {u : HO} {Q : Unit → Hs → (Nat → Addr) → Hp → Prop} (h : Post K E S.length p H (.ok () (S.set i o)) Q) (R : Real K p S H) (hi : i < S.length)
    (ro : RO K p S.length (upd H (p i) u) (p i) o) : Q () (S.set i o) p (upd H (p i) u) := by
  have e : (S.set i o).length = S.length := by simp
  exact Post.ok h (by rw [e]; exact ext_upd (R.notup hi)) (R.put hi ro)
theorem ok_set {K : PySem.W.Frag} {p : Nat → Addr} {S : Hs} {H : Hp} {x y d : D} {v u w : V} {Q : Hp → Prop} {QQ : Unit → Hs → (Nat → Addr) → Hp → Prop} (R : Real K p S H) (rx : Rep K p S.length H x v) (ry : Rep K p S.length H y u) (rd : Rep K p S.length H d w)
    (h : Post K E S.length p H (oSet x y d S) QQ) (hq : ∀ S1 H1, Ext S.length S1.length p p H H1 → Real K p S1 H1 → QQ () S1 p H1 → Q H1) : rSetA v u w H Q := by
  have fin : ∀ {i : Nat} {o : O} {z : HO}, i < S.length → Post K E S.length p H (.ok () (S.set i o)) QQ → RO K p S.length (upd H (p i) z) (p i) o → Q (upd H (p i) z) := fun {i o z} hi h ro =>
    hq _ _ (by rw [List.length_set]; exact ext_upd (R.notup hi)) (R.put hi ro) (h.put1 R hi ro)
  unfold oSet at h
  split at h
  · split at h
    · rename_i q
      split at h
      · split at h
        · rename_i j e
          obtain ⟨vs, h1, r⟩ := R.lst q
          cases rx; cases ry
          refine .inl ⟨_, vs, _, j, rfl, rfl, h1, by rw [← r.len]; exact e, fin (Real.lt q) h ⟨_, upd_same, ?_⟩⟩
          exact (r.ext (ext_upd (R.notup (Real.lt q))) _ _).set j (rd.ext (ext_upd (R.notup (Real.lt q))) _ _)
        · exact h.elim
      · exact h.elim
    · rename_i kvs q
      split at h
      · rename_i k ek
        split at h
        · rename_i hl
          obtain ⟨ks, h1, h2, h3⟩ := R.ob _ _ q
          have hlen : ks.length = kvs.length := by simpa using congrArg List.length h2
          cases rx
          have sv := setK_V (H := upd H (p _) (.dK (putK ks k w))) h2 (h3.ext (ext_upd (R.notup (Real.lt q))) _ _) k (rd.ext (ext_upd (R.notup (Real.lt q))) _ _)
          exact .inr ⟨_, _, rfl, .inl ⟨ks, k, h1, key_V ry ek, by rw [hlen]; exact hl, rfl⟩, fin (Real.lt q) h ⟨_, upd_same, sv.1, sv.2⟩⟩
        · exact h.elim
      · exact h.elim
    · rename_i kvs q
      split at h
      · rename_i k ek
        split at h
        · rename_i hl
          obtain ⟨ks, h1, h2, h3⟩ := R.ob _ _ q
          have hlen : ks.length = kvs.length := by simpa using congrArg List.length h2
          cases rx
          have sv := setK_V (H := upd H (p _) (.dT (putK ks k w))) h2 (h3.ext (ext_upd (R.notup (Real.lt q))) _ _) k (rd.ext (ext_upd (R.notup (Real.lt q))) _ _)
          unfold D.tkey at ek
          split at ek
          · cases ry with
            | @tup b _ us t r =>
            exact .inr ⟨_, _, rfl, .inr ⟨ks, k, b, h1, rfl, by rw [← keys_V r ek]; exact t, by rw [hlen]; exact hl, rfl⟩, fin (Real.lt q) h ⟨_, upd_same, sv.1, sv.2⟩⟩
          · cases ek
        · exact h.elim
      · exact h.elim
    · exact h.elim
  · exact h.elim
def gSb (f g : M) : MG := fun d l S => (f l S).bind fun x S1 => (g l S1).bind fun y S2 => (oSet x y d S2).bind fun _ S3 => .ok l S3
theorem g_sub {o i : Expr} {f g : M} (hu : X.A.units + 1 < cLine) (ho : EM X E o f) (hi : EM X E i g)
    (ha : ∀ v, assign (.Subscript o i pos) X.env v = (do
      let ov ← holding [v] (eval o X.env)
      let iv ← holding [v, ov] (eval i X.env)
      standAt pos
      holding [v, ov, iv] (setItem ov iv v)
      release [v, ov, iv] []) := by intro _; rfl) : GM X E (.Subscript o i pos) (gSb f g) :=
  ⟨(pg_sub ho.pe hi.pe (set_all hu) ha).weak fun v s H Q ⟨p, l, S, d, R, L, r, h⟩ => T.of R L h fun p1 S1 H1 x vx R1 x1 L1 r1 h1 => T.of R1 L1 h1 fun p2 S2 H2 y vy R2 x2 L2 r2 h2 =>
    ok_set R2 (r1.ext x2 _ _) r2 ((r.ext x1 _ _).ext x2 _ _) h2.bind fun S3 H3 x3 R3 q => Post.ok q Ext.refl R3 _ (L2.ext x3)⟩
theorem s_sub {o i e : Expr} {f g m : M} {pos' : Pos} (hu : X.A.units + 1 < cLine) (he : EM X E e m) (ho : EM X E o f) (hi : EM X E i g)
    (hs : swapsWithSole [Expr.Subscript o i pos'] e pos.line X.env = pure false := by rfl) (hw : swappedStores [Expr.Subscript o i pos'] e X.env = pure none := by rfl) (h1 : (assignEach [Expr.Subscript o i pos'] X.env).map (·.2) = [assign (Expr.Subscript o i pos') X.env] := by rfl)
    (ha : ∀ v, assign (.Subscript o i pos') X.env v = (do
      let ov ← holding [v] (eval o X.env)
      let iv ← holding [v, ov] (eval i X.env)
      standAt pos'
      holding [v, ov, iv] (setItem ov iv v)
      release [v, ov, iv] []) := by intro _; rfl) : SM X E (.Assign [.Subscript o i pos'] e pos) (mAsg m (gSb f g)) := s_asg he (g_sub hu ho hi ha) hs hw h1
def mAug (i : Nat) (op : D → D → Hs → R D) (f : M) : MS := fun l S => match l[i]? with
  | some (some x) => (f l S).bind fun y S1 => (op x y S1).bind fun d S2 => .ok (.nx (l.set i (some d))) S2
  | _ => .bad
theorem s_aug {i : Nat} {x : Str} {e : Expr} {op : Operator} {r : R2} {o : D → D → Hs → R D} {f : M} {pos' : Pos} (ho : OpR X (inplaceOp op) r) (hk : OpOk X.K E r o) (hN : X.N.Nodup) (he : EM X E e f) (hi : X.N[i]? = some x := by rfl) (hx : L2.Loc X.env.scope x := by first | exact Or.inl rfl | exact Or.inr rfl)
    (hf : X.fn x = true ∨ X.env.scope.names.lookup x = some .local := by first | exact .inl rfl | exact .inr rfl | assumption) : SM X E (.AugAssign (.Name x pos') op e pos) (mAug i o f) :=
  ⟨(ps_aug (ti := r) hN hi hx he.pe ho hf).weak fun s H D0 ⟨p, l, S, R, L, h⟩ => by
    unfold mAug at h
    split at h
    · rename_i d e
      obtain ⟨v, h1, r1⟩ := L.get e
      refine ⟨v, h1, T.of R L h fun p1 S1 H1 d1 v1 R1 x1 L1 r2 h2 => hk p1 S1 H1 _ _ _ _ _ R1 (r1.ext x1 _ _) r2 (h2.bind.mono fun d3 S3 p3 H3 _ x3 R3 q v3 r3 => Post.nx q R3 ((L1.ext x3).set i r3))⟩
    · exact h.elim⟩
def oIAdd : D → D → Hs → R D
  | .int i, .int j, S => .ok (.int (i + j)) S
  | .str x, .str y, S => if x.length + y.length ≤ sizeLine then .ok (.str (x ++ y)) S else .bad
  | _, _, _ => .bad
abbrev rIAdd2 : R2 := orR (rI0 fun i j => .int (i + j)) (fun x y H Q => ∃ i j, x = V.str i ∧ y = V.str j ∧ i.length + j.length ≤ sizeLine ∧ Q (V.str (i ++ j)) H)
theorem ok_iadd {K : PySem.W.Frag} : OpOk K E rIAdd2 oIAdd := by
  intro p S H x y v u Q R rx ry h
  unfold oIAdd at h
  split at h
  · cases rx; cases ry; exact .inl ⟨_, _, rfl, rfl, h.val R (.int _)⟩
  · split at h
    · rename_i hl; cases rx; cases ry; exact .inr ⟨_, _, rfl, rfl, hl, h.val R (.str _)⟩
    · exact h.elim
  · exact h.elim
theorem s_iadd {i : Nat} {x : Str} {e : Expr} {f : M} {pos' : Pos} (hN : X.N.Nodup) (he : EM X E e f) (hi : X.N[i]? = some x := by rfl) (hx : L2.Loc X.env.scope x := by first | exact Or.inl rfl | exact Or.inr rfl)
    (hf : X.fn x = true ∨ X.env.scope.names.lookup x = some .local := by first | exact .inl rfl | exact .inr rfl | assumption) : SM X E (.AugAssign (.Name x pos') .Add e pos) (mAug i oIAdd f) := s_aug (OpR.or iop_add iop_add_str) ok_iadd hN he hi hx hf
end
end Ly
set_option Elab.async false
set_option linter.all false
set_option maxRecDepth 100000
namespace LyI
open PySem PySem.Spec L2
open PyProof.Rows hiding St
def SqB (k : Bool) (K : PySem.W.Frag) (H : Hp) (a : Addr) (xs : List V) : Prop := match k with
  | true => SqL K H a xs
  | false => SqT K H a xs
def ItB (k : Bool) (h : Heap) (it a : Addr) (i : Nat) : Prop := match k with
  | true => h.IsListIter it a i
  | false => h.IsTupleIter it a i
theorem ItB.at {k : Bool} {h h' : Heap} {it a : Addr} {i : Nat} (x : ItB k h it a i) (e : ∀ o, h.get? it = some o → h'.get? it = some o) : ItB k h' it a i := by
  cases k
  · exact Heap.IsTupleIter.at x e
  · exact Heap.IsListIter.at x e
section
variable {X : Cx} {pins : List (Addr × Obj)} {σ : St} {H : Hp} {s : Shared} {a : Addr} {xs ys : List V} {k : Bool}
end
def IteB (k : Bool) (K : PySem.W.Frag) (a : Addr) : It :=
  ⟨fun i H => ∃ (xs : List V) (x : V), SqB k K H a xs ∧ xs[i]? = some x, fun i H v H' => ∃ T x, v = .ref T ∧ H T = none ∧ H' = upd H T (.tup [.int (i : Nat), x]) ∧ ∀ xs, SqB k K H a xs → xs[i]? = some x, fun i H => ∃ xs : List V, SqB k K H a xs ∧ xs.length = i⟩
def ItzB (k1 k2 : Bool) (K : PySem.W.Frag) (a b : Addr) : It :=
  ⟨fun i H => ∃ (xs ys : List V) (x y : V), SqB k1 K H a xs ∧ SqB k2 K H b ys ∧ xs[i]? = some x ∧ ys[i]? = some y,
    fun i H v H' => ∃ T x y, v = .ref T ∧ H T = none ∧ H' = upd H T (.tup [x, y]) ∧ (∀ xs, SqB k1 K H a xs → xs[i]? = some x) ∧ ∀ ys, SqB k2 K H b ys → ys[i]? = some y,
    fun i H => ∃ xs ys : List V, SqB k1 K H a xs ∧ SqB k2 K H b ys ∧ i ≤ xs.length ∧ i ≤ ys.length ∧ (xs.length = i ∨ ys.length = i)⟩
end LyI
set_option Elab.async false
set_option linter.all false
set_option maxRecDepth 100000
namespace LyI
open PySem PySem.Spec L2
open PyProof.Rows hiding St
section
variable {prog : Program} {w : World} {A : Around} {E : Value → Shared → Prop} {s : Shared} {z TI TO i1 i2 : Addr} {fp1 fp2 : List Addr} {n1 n2 i : Nat} {P1 P2 : Nat → Value → Prop} {St1 St2 : Nat → Heap → Prop}
end
def ItezB (k1 k2 : Bool) (K : PySem.W.Frag) (a b : Addr) : It :=
  ⟨fun i H => ∃ (xs ys : List V) (x y : V), SqB k1 K H a xs ∧ SqB k2 K H b ys ∧ xs[i]? = some x ∧ ys[i]? = some y,
    fun i H v H' => ∃ T T' x y, v = .ref T' ∧ H T = none ∧ T' ≠ T ∧ H T' = none ∧ H' = upd (upd H T (.tup [x, y])) T' (.tup [.int (i : Nat), .ref T]) ∧ (∀ xs, SqB k1 K H a xs → xs[i]? = some x) ∧ ∀ ys, SqB k2 K H b ys → ys[i]? = some y,
    fun i H => ∃ xs ys : List V, SqB k1 K H a xs ∧ SqB k2 K H b ys ∧ i ≤ xs.length ∧ i ≤ ys.length ∧ (xs.length = i ∨ ys.length = i)⟩
theorem FpOk.upd {X : Cx} {pins : List (Addr × Obj)} {H : Hp} {b T : Addr} {o : HO} (h : FpOk X pins H b) (hb : b ≠ T) : FpOk X pins (upd H T o) b := ⟨by rw [upd_ne hb]; exact h.1, h.2⟩
end LyI
set_option Elab.async false
set_option linter.all false
set_option maxRecDepth 100000
namespace Ly
open PySem PySem.Spec L2
open PyProof.Rows hiding St
inductive Sq where
  | l (i : Nat) | t (ds : List D)
inductive J where
  | tup (ds : List D) | lst (i : Nat) | rng (lo : Int) (n : Nat) | str (x : Str) | enum (s : Sq) | zip (s t : Sq) | cnt (lo c : Int) (n : Nat) | rev (s : Sq) (n : Nat) | ez (s t : Sq)
def seqAt (S : Hs) (i : Nat) : Option (List D) := seqD (.ref i) S
def Sq.at (S : Hs) : Sq → Option (List D)
  | .l i => seqAt S i
  | .t ds => some ds
def sqOf (x : D) (S : Hs) : Option Sq := match x with
  | .ref i => (seqAt S i).map fun _ => .l i
  | .tup ds => some (.t ds)
  | .wt ds => some (.t ds)
  | _ => none
def SqR (K : PySem.W.Frag) (p : Nat → Addr) (n : Nat) (H : Hp) : Sq → Bool → Addr → Prop
  | .l i, k, a => i < n ∧ k = true ∧ a = p i
  | .t ds, k, a => k = false ∧ ∃ vs, (H a = some (.tup vs) ∨ Wt K a vs) ∧ Reps K p n H ds vs
def itGo (j : J) (k : Nat) (S : Hs) : Option (Option D) := match j with
  | .tup ds => some ds[k]?
  | .lst i => (seqAt S i).map (·[k]?)
  | .rng lo n => some (if k < n then some (.int (lo + k)) else none)
  | .str x => some (x.cps[k]?.map fun c => .str ⟨#[c]⟩)
  | .cnt lo c n => some (if k < n then some (.int (lo + k * c)) else none)
  | .enum s => (s.at S).bind fun ds => if k ≤ ds.length then some (ds[k]?.map fun d => .tup [.int k, d]) else none
  | .zip a b => match a.at S, b.at S with
    | some xs, some ys => if k ≤ xs.length ∧ k ≤ ys.length then some (match xs[k]?, ys[k]? with
      | some x, some y => some (.tup [x, y])
      | _, _ => none) else none
    | _, _ => none
  | .rev s n => (s.at S).bind fun ds => if ds.length = n then some (if k < n then ds[n - 1 - k]? else none) else none
  | .ez a b => match a.at S, b.at S with
    | some xs, some ys => if k ≤ xs.length ∧ k ≤ ys.length then some (match xs[k]?, ys[k]? with
      | some x, some y => some (.tup [.int k, .tup [x, y]])
      | _, _ => none) else none
    | _, _ => none
def JRel (K : PySem.W.Frag) (p : Nat → Addr) (n : Nat) (H : Hp) : J → It → Prop
  | .tup ds, I => ∃ a vs, Rep K p n H (.tup ds) (.ref a) ∧ (H a = some (.tup vs) ∧ Reps K p n H ds vs) ∧ I = Itt K a ∨ Rep K p n H (.wt ds) (.ref a) ∧ (Wt K a vs ∧ Reps K p n H ds vs) ∧ I = Itt K a
  | .lst i, I => i < n ∧ I = Itl K (p i)
  | .rng lo m, I => I = Itr lo m
  | .str x, I => I = Its x
  | .cnt lo c m, I => I = Itc lo c m
  | .enum s, I => ∃ k a, SqR K p n H s k a ∧ I = LyI.IteB k K a
  | .zip s t, I => ∃ k1 a k2 b, SqR K p n H s k1 a ∧ SqR K p n H t k2 b ∧ I = LyI.ItzB k1 k2 K a b
  | .rev s m, I => ∃ b a, SqR K p n H s b a ∧ I = (if b = true then Itv K a m else RT.ItvT K a m)
  | .ez s t, I => ∃ k1 a k2 b, SqR K p n H s k1 a ∧ SqR K p n H t k2 b ∧ I = LyI.ItezB k1 k2 K a b
section
variable {K : PySem.W.Frag} {E : St → XK} {p q : Nat → Addr} {n m : Nat} {H H' : Hp} {S : Hs} {j : J} {I : It} {k : Nat}
theorem SqR.ext {s : Sq} {k : Bool} {a : Addr} (h : SqR K p n H s k a) (x : Ext n m p q H H') : SqR K q m H' s k a := by
  cases s with
  | l i => obtain ⟨h1, h2, h3⟩ := h; exact ⟨Nat.lt_of_lt_of_le h1 x.le, h2, by rw [x.ag i h1]; exact h3⟩
  | t ds =>
    obtain ⟨h1, vs, h2, h3⟩ := h
    refine ⟨h1, vs, ?_, h3.ext x _ _⟩
    rcases h2 with h2 | h2
    · exact .inl (x.tp _ _ h2)
    · exact .inr h2
theorem JRel.ext (h : JRel K p n H j I) (x : Ext n m p q H H') : JRel K q m H' j I := by
  cases j with
  | tup ds =>
    obtain ⟨a, vs, h⟩ := h
    rcases h with ⟨h1, ⟨h2, h3⟩, h4⟩ | ⟨h1, ⟨h2, h3⟩, h4⟩
    · exact ⟨a, vs, .inl ⟨h1.ext x _ _, ⟨x.tp _ _ h2, h3.ext x _ _⟩, h4⟩⟩
    · exact ⟨a, vs, .inr ⟨h1.ext x _ _, ⟨h2, h3.ext x _ _⟩, h4⟩⟩
  | lst i => obtain ⟨h1, h2⟩ := h; exact ⟨Nat.lt_of_lt_of_le h1 x.le, by rw [x.ag i h1]; exact h2⟩
  | rng lo m => exact h
  | str z => exact h
  | cnt lo c m => exact h
  | enum s => obtain ⟨k, a, h1, h2⟩ := h; exact ⟨k, a, h1.ext x, h2⟩
  | zip s t => obtain ⟨k1, a, k2, b, h1, h2, h3⟩ := h; exact ⟨k1, a, k2, b, h1.ext x, h2.ext x, h3⟩
  | rev s n => obtain ⟨b, a, h1, h2⟩ := h; exact ⟨b, a, h1.ext x, h2⟩
  | ez s t => obtain ⟨k1, a, k2, b, h1, h2, h3⟩ := h; exact ⟨k1, a, k2, b, h1.ext x, h2.ext x, h3⟩
theorem seqAt_V {i : Nat} {ds : List D} (R : Real K p S H) (h : seqAt S i = some ds) : ∃ vs, SqL K H (p i) vs ∧ Reps K p S.length H ds vs := by
  have hi : i < S.length := by
    unfold seqAt seqD at h
    simp only at h
    split at h
    · rename_i q; exact Real.lt q
    · rename_i q; exact Real.lt q
    · cases h
  obtain ⟨a, vs, e, h1, r⟩ := seq_V R (.ref hi) h
  cases e
  exact ⟨vs, h1, r⟩
theorem SqR.seq {s : Sq} {b : Bool} {a : Addr} {ds : List D} (R : Real K p S H) (h : SqR K p S.length H s b a) (e : s.at S = some ds) : ∃ vs, LyI.SqB b K H a vs ∧ Reps K p S.length H ds vs := by
  cases s with
  | l i =>
    obtain ⟨h1, rfl, rfl⟩ := h
    obtain ⟨vs, hs, r⟩ := seqAt_V R e
    exact ⟨vs, hs, r⟩
  | t es =>
    obtain ⟨rfl, vs, h2, h3⟩ := h
    cases e
    refine ⟨vs, ?_, h3⟩
    rcases h2 with h2 | h2
    · exact SqT.of h2
    · exact h2.sq
theorem Reps.none {ds : List D} {vs : List V} (r : Reps K p n H ds vs) (e : ds[k]? = none) : vs.length ≤ k := by
  rw [← r.len]; exact List.getElem?_eq_none_iff.mp e
theorem it_stop (R : Real K p S H) (h : JRel K p S.length H j I) (e : itGo j k S = some none) : I.stop k H := by
  cases j with
  | tup ds =>
    obtain ⟨a, vs, h⟩ := h
    simp only [itGo, Option.some.injEq] at e
    rcases h with ⟨h1, ⟨h2, h3⟩, rfl⟩ | ⟨h1, ⟨h2, h3⟩, rfl⟩
    · exact ⟨vs, SqT.of h2, h3.none e⟩
    · exact ⟨vs, h2.sq, h3.none e⟩
  | lst i =>
    obtain ⟨h1, rfl⟩ := h
    simp only [itGo, Option.map_eq_some_iff] at e
    obtain ⟨ds, e, e2⟩ := e
    obtain ⟨vs, hs, r⟩ := seqAt_V R e
    exact ⟨vs, hs, r.none e2⟩
  | rng lo m =>
    cases h
    simp only [itGo, Option.some.injEq] at e
    split at e
    · cases e
    · rename_i hk; exact Nat.le_of_not_lt hk
  | str x =>
    cases h
    simp only [itGo, Option.some.injEq, Option.map_eq_none_iff] at e
    exact Array.getElem?_eq_none_iff.mp e
  | cnt lo c m =>
    cases h
    simp only [itGo, Option.some.injEq] at e
    split at e
    · cases e
    · rename_i hk; exact Nat.le_of_not_lt hk
  | enum s =>
    obtain ⟨b, a, h1, rfl⟩ := h
    simp only [itGo, Option.bind_eq_some_iff] at e
    obtain ⟨ds, e, e2⟩ := e
    obtain ⟨vs, hs, r⟩ := h1.seq R e
    split at e2
    · rename_i hk
      simp only [Option.some.injEq, Option.map_eq_none_iff, List.getElem?_eq_none_iff] at e2
      exact ⟨vs, hs, by rw [← r.len]; omega⟩
    · cases e2
  | zip s t =>
    obtain ⟨b1, a, b2, b, h1, h2, rfl⟩ := h
    simp only [itGo] at e
    split at e
    · rename_i xs ys e1 e2
      obtain ⟨vs, hs, r⟩ := h1.seq R e1
      obtain ⟨us, hs', r'⟩ := h2.seq R e2
      split at e
      · rename_i hk
        simp only [Option.some.injEq] at e
        have l1 := r.len
        have l2 := r'.len
        refine ⟨vs, us, hs, hs', by omega, by omega, ?_⟩
        split at e
        · cases e
        · rename_i hno
          cases q1 : xs[k]? with
          | none => have := List.getElem?_eq_none_iff.mp q1; exact .inl (by omega)
          | some x =>
            cases q2 : ys[k]? with
            | none => have := List.getElem?_eq_none_iff.mp q2; exact .inr (by omega)
            | some y => exact (hno x y q1 q2).elim
      · cases e
    · cases e
  | rev s n =>
    obtain ⟨b, a, h1, rfl⟩ := h
    simp only [itGo, Option.bind_eq_some_iff] at e
    obtain ⟨ds, e, e2⟩ := e
    have hn : n ≤ k := by
      split at e2
      · rename_i hl
        simp only [Option.some.injEq] at e2
        split at e2
        · rename_i hk
          have := List.getElem?_eq_none_iff.mp e2
          omega
        · omega
      · cases e2
    cases b
    · exact hn
    · exact hn
  | ez s t =>
    obtain ⟨b1, a, b2, b, h1, h2, rfl⟩ := h
    simp only [itGo] at e
    split at e
    · rename_i xs ys e1 e2
      obtain ⟨vs, hs, r⟩ := h1.seq R e1
      obtain ⟨us, hs', r'⟩ := h2.seq R e2
      split at e
      · rename_i hk
        simp only [Option.some.injEq] at e
        have l1 := r.len
        have l2 := r'.len
        refine ⟨vs, us, hs, hs', by omega, by omega, ?_⟩
        split at e
        · cases e
        · rename_i hno
          cases q1 : xs[k]? with
          | none => have := List.getElem?_eq_none_iff.mp q1; exact .inl (by omega)
          | some x =>
            cases q2 : ys[k]? with
            | none => have := List.getElem?_eq_none_iff.mp q2; exact .inr (by omega)
            | some y => exact (hno x y q1 q2).elim
      · cases e
    · cases e
theorem it_go (R : Real K p S H) (h : JRel K p S.length H j I) {d : D} (e : itGo j k S = some (some d)) :
    I.go k H ∧ ∀ x H', I.yld k H x H' → Ext S.length S.length p p H H' ∧ Real K p S H' ∧ Rep K p S.length H' d x := by
  cases j with
  | tup ds =>
    obtain ⟨a, vs, h⟩ := h
    simp only [itGo, Option.some.injEq] at e
    rcases h with ⟨h1, ⟨h2, h3⟩, rfl⟩ | ⟨h1, ⟨h2, h3⟩, rfl⟩
    · obtain ⟨v, e2, r⟩ := h3.get e
      refine ⟨⟨vs, v, SqT.of h2, e2⟩, fun x H' y => ?_⟩
      obtain ⟨rfl, y⟩ := y
      have := (y vs (SqT.of h2)).symm.trans e2
      cases this
      exact ⟨Ext.refl, R, r⟩
    · obtain ⟨v, e2, r⟩ := h3.get e
      refine ⟨⟨vs, v, h2.sq, e2⟩, fun x H' y => ?_⟩
      obtain ⟨rfl, y⟩ := y
      have := (y vs h2.sq).symm.trans e2
      cases this
      exact ⟨Ext.refl, R, r⟩
  | lst i =>
    obtain ⟨h1, rfl⟩ := h
    simp only [itGo, Option.map_eq_some_iff] at e
    obtain ⟨ds, e, e2⟩ := e
    obtain ⟨vs, hs, r⟩ := seqAt_V R e
    obtain ⟨v, e3, r3⟩ := r.get e2
    refine ⟨⟨vs, v, hs, e3⟩, fun x H' y => ?_⟩
    obtain ⟨rfl, y⟩ := y
    have := (y vs hs).symm.trans e3
    cases this
    exact ⟨Ext.refl, R, r3⟩
  | rng lo m =>
    cases h
    simp only [itGo, Option.some.injEq] at e
    split at e
    · rename_i hk
      cases e
      refine ⟨hk, fun x H' y => ?_⟩
      obtain ⟨rfl, rfl⟩ := y
      exact ⟨Ext.refl, R, .int _⟩
    · cases e
  | str z =>
    cases h
    simp only [itGo, Option.some.injEq, Option.map_eq_some_iff] at e
    obtain ⟨c, e, rfl⟩ := e
    refine ⟨(Array.getElem?_eq_some_iff.mp e).1, fun x H' y => ?_⟩
    obtain ⟨rfl, c', e', rfl⟩ := y
    rw [e] at e'; cases e'
    exact ⟨Ext.refl, R, .str _⟩
  | cnt lo c m =>
    cases h
    simp only [itGo, Option.some.injEq] at e
    split at e
    · rename_i hk
      cases e
      refine ⟨hk, fun x H' y => ?_⟩
      obtain ⟨rfl, rfl⟩ := y
      exact ⟨Ext.refl, R, .int _⟩
    · cases e
  | enum s =>
    obtain ⟨b, a, h1, rfl⟩ := h
    simp only [itGo, Option.bind_eq_some_iff] at e
    obtain ⟨ds, e, e2⟩ := e
    obtain ⟨vs, hs, r⟩ := h1.seq R e
    split at e2
    · rename_i hk
      simp only [Option.some.injEq, Option.map_eq_some_iff] at e2
      obtain ⟨c, e2, rfl⟩ := e2
      obtain ⟨v, e3, r3⟩ := r.get e2
      refine ⟨⟨vs, v, hs, e3⟩, fun x H' y => ?_⟩
      obtain ⟨T, z, rfl, hT, rfl, y⟩ := y
      have := (y vs hs).symm.trans e3
      cases this
      exact ⟨ext_junk hT, R.junk hT, .tup upd_same (.cons (.int _) (.cons (r3.ext (ext_junk hT) _ _) .nil))⟩
    · cases e2
  | zip s t =>
    obtain ⟨b1, a, b2, b, h1, h2, rfl⟩ := h
    simp only [itGo] at e
    split at e
    · rename_i xs ys e1 e2
      obtain ⟨vs, hs, r⟩ := h1.seq R e1
      obtain ⟨us, hs', r'⟩ := h2.seq R e2
      split at e
      · simp only [Option.some.injEq] at e
        split at e
        · rename_i x y q1 q2
          cases e
          obtain ⟨v, e3, r3⟩ := r.get q1
          obtain ⟨u, e4, r4⟩ := r'.get q2
          refine ⟨⟨vs, us, v, u, hs, hs', e3, e4⟩, fun z H' w => ?_⟩
          obtain ⟨T, z1, z2, rfl, hT, rfl, y1, y2⟩ := w
          have := (y1 vs hs).symm.trans e3
          cases this
          have := (y2 us hs').symm.trans e4
          cases this
          exact ⟨ext_junk hT, R.junk hT, .tup upd_same (.cons (r3.ext (ext_junk hT) _ _) (.cons (r4.ext (ext_junk hT) _ _) .nil))⟩
        · cases e
      · cases e
    · cases e
  | rev s n =>
    obtain ⟨b, a, h1, rfl⟩ := h
    simp only [itGo, Option.bind_eq_some_iff] at e
    obtain ⟨ds, e, e2⟩ := e
    obtain ⟨vs, hs, r⟩ := h1.seq R e
    split at e2
    · simp only [Option.some.injEq] at e2
      split at e2
      · rename_i hk
        obtain ⟨v, e3, r3⟩ := r.get e2
        cases b with
        | true =>
          refine ⟨⟨hk, vs, v, hs, e3⟩, fun x H' y => ?_⟩
          obtain ⟨rfl, y⟩ := y
          have := (y vs hs).symm.trans e3
          cases this
          exact ⟨Ext.refl, R, r3⟩
        | false =>
          refine ⟨⟨hk, vs, v, hs, e3⟩, fun x H' y => ?_⟩
          obtain ⟨rfl, y⟩ := y
          have := (y vs hs).symm.trans e3
          cases this
          exact ⟨Ext.refl, R, r3⟩
      · cases e2
    · cases e2
  | ez s t =>
    obtain ⟨b1, a, b2, b, h1, h2, rfl⟩ := h
    simp only [itGo] at e
    split at e
    · rename_i xs ys e1 e2
      obtain ⟨vs, hs, r⟩ := h1.seq R e1
      obtain ⟨us, hs', r'⟩ := h2.seq R e2
      split at e
      · simp only [Option.some.injEq] at e
        split at e
        · rename_i x y q1 q2
          cases e
          obtain ⟨v, e3, r3⟩ := r.get q1
          obtain ⟨u, e4, r4⟩ := r'.get q2
          refine ⟨⟨vs, us, v, u, hs, hs', e3, e4⟩, fun z H' w => ?_⟩
          obtain ⟨T, T', z1, z2, rfl, hT, hne, hT', rfl, y1, y2⟩ := w
          have := (y1 vs hs).symm.trans e3
          cases this
          have := (y2 us hs').symm.trans e4
          cases this
          have hn : upd H T (.tup [v, u]) T' = none := (upd_ne hne).trans hT'
          have x1 : Ext S.length S.length p p H (upd H T (.tup [v, u])) := ext_junk hT
          have x2 : Ext S.length S.length p p (upd H T (.tup [v, u])) (upd (upd H T (.tup [v, u])) T' (.tup [.int (k : Nat), .ref T])) := ext_junk hn
          have rp : Rep K p S.length (upd H T (.tup [v, u])) (.tup [x, y]) (.ref T) := .tup upd_same (.cons (r3.ext x1 _ _) (.cons (r4.ext x1 _ _) .nil))
          exact ⟨x1.trans x2, (R.junk hT).junk hn, .tup upd_same (.cons (.int _) (.cons (rp.ext x2 _ _) .nil))⟩
        · cases e
      · cases e
    · cases e
end
abbrev MI := Ls → Hs → R J
def TI' (K : PySem.W.Frag) (E : St → XK) (f : MI) : TI := fun s H Q => ∃ p l S, Real K p S H ∧ Sl K p S.length H l s ∧ Post K E S.length p H (f l S) (fun j S1 p1 H1 => ∀ I, JRel K p1 S1.length H1 j I → Q I H1)
structure IM (X : Cx) (E : St → XK) (tg e : Expr) (f : MI) : Prop where pi : PI X tg e (TI' X.K E f)
theorem _root_.L2.PI.weak {X : Cx} {tg e : Expr} {t t' : TI} (h : PI X tg e t) (w : ∀ s H Q, t' s H Q → t s H Q) : PI X tg e t' := ⟨fun pins s σ H Q I q => h.run pins s σ H Q I (w σ H Q q)⟩
theorem _root_.L2.PI.or {X : Cx} {tg e : Expr} {t t' : TI} (h : PI X tg e t) (h' : PI X tg e t') : PI X tg e (fun s H Q => t s H Q ∨ t' s H Q) := ⟨fun pins s σ H Q I q => q.elim (h.run pins s σ H Q I) (h'.run pins s σ H Q I)⟩
def oIt (x : D) (S : Hs) : R J := match x with
  | .tup ds => .ok (.tup ds) S
  | .wt ds => .ok (.tup ds) S
  | .str x => .ok (.str x) S
  | .ref i => match seqAt S i with
    | some _ => .ok (.lst i) S
    | none => .bad
  | _ => .bad
def mIt (f : M) : MI := fun l S => (f l S).bind oIt
def oRng1 (ds : List D) (S : Hs) : R J := match ds with
  | [.int n] => if -(2 ^ 62) ≤ n ∧ n < 2 ^ 62 then .ok (.rng 0 n.toNat) S else .bad
  | _ => .bad
def oRng2 (ds : List D) (S : Hs) : R J := match ds with
  | [.int a, .int b] => if -(2 ^ 62) ≤ a ∧ a < 2 ^ 62 ∧ -(2 ^ 62) ≤ b ∧ b < 2 ^ 62 then .ok (.rng a (b - a).toNat) S else .bad
  | _ => .bad
def mRng1 (f : ML) : MI := fun l S => (f l S).bind oRng1
def mRng2 (f : ML) : MI := fun l S => (f l S).bind oRng2
def oEnum (ds : List D) (S : Hs) : R J := match ds with
  | [x] => match sqOf x S with
    | some s => .ok (.enum s) S
    | none => .bad
  | _ => .bad
def mEnum (f : ML) : MI := fun l S => (f l S).bind oEnum
def oZip (ds : List D) (S : Hs) : R J := match ds with
  | [x, y] => match sqOf x S, sqOf y S with
    | some s, some t => .ok (.zip s t) S
    | _, _ => .bad
  | _ => .bad
def mZip (f : ML) : MI := fun l S => (f l S).bind oZip
section
variable {X : Cx} {E : St → XK} {tg e e2 : Expr} {f : M} {g : ML} {p0 pos : Pos}
abbrev QJ (K : PySem.W.Frag) (Q : It → Hp → Prop) : J → Hs → (Nat → Addr) → Hp → Prop := fun j S1 p1 H1 => ∀ I, JRel K p1 S1.length H1 j I → Q I H1
theorem seqAt_lt {S : Hs} {i : Nat} {ds : List D} (h : seqAt S i = some ds) : i < S.length := by
  unfold seqAt seqD at h
  simp only at h
  split at h
  · rename_i q; exact Real.lt q
  · rename_i q; exact Real.lt q
  · cases h
theorem i_it (he : EM X E e f) : IM X E tg e (mIt f) :=
  ⟨(PI.or (pi_list he.pe) (PI.or (pi_tup he.pe) (pi_str he.pe))).weak fun s H Q ⟨p, l, S, R, L, h⟩ => by
    unfold mIt at h
    have hc : ∃ d S1, f l S = .ok d S1 ∨ ∃ c fs l1, f l S = .exc c fs l1 S1 := by
      cases q : f l S with
      | ok d S1 => exact ⟨d, S1, .inl rfl⟩
      | exc c fs l1 S1 => exact ⟨.non, S1, .inr ⟨c, fs, l1, rfl⟩⟩
      | bad => rw [q] at h; exact h.elim
    obtain ⟨d, S1, hc | ⟨c, fs, l1, hc⟩⟩ := hc
    · rw [hc] at h
      simp only [Ly.R.bind_ok] at h
      unfold oIt at h
      split at h
      · refine .inr (.inl ⟨p, l, S, R, L, ?_⟩)
        rw [hc]
        intro p1 H1 x1 R1 v r
        cases r with
        | tup t r => exact ⟨_, rfl, ⟨_, SqT.of t⟩, Post.ok (Q := QJ _ Q) h x1 R1 _ ⟨_, _, .inl ⟨.tup t r, ⟨t, r⟩, rfl⟩⟩⟩
      · refine .inr (.inl ⟨p, l, S, R, L, ?_⟩)
        rw [hc]
        intro p1 H1 x1 R1 v r
        cases r with
        | wt t r => exact ⟨_, rfl, ⟨_, t.sq⟩, Post.ok (Q := QJ _ Q) h x1 R1 _ ⟨_, _, .inr ⟨.wt t r, ⟨t, r⟩, rfl⟩⟩⟩
      · refine .inr (.inr ⟨p, l, S, R, L, ?_⟩)
        rw [hc]
        intro p1 H1 x1 R1 v r
        cases r
        exact ⟨_, rfl, Post.ok (Q := QJ _ Q) h x1 R1 _ rfl⟩
      · refine .inl ⟨p, l, S, R, L, ?_⟩
        rw [hc]
        split at h
        · rename_i ds q
          intro p1 H1 x1 R1 v r
          obtain ⟨vs, hs, _⟩ := seqAt_V R1 q
          cases r
          exact ⟨_, rfl, ⟨_, hs⟩, Post.ok (Q := QJ _ Q) h x1 R1 _ ⟨seqAt_lt q, rfl⟩⟩
        · exact h.elim
      · exact h.elim
    · rw [hc] at h
      refine .inl ⟨p, l, S, R, L, ?_⟩
      rw [hc]
      exact h⟩
theorem i_rng1 {a : Expr} (hm : X.mg "range" = none) (ha : LM X E [a] g) (hg : Gl X "range" := by rfl) (hs : starEach [a] X.env = [(false, eval a X.env)] := by rfl) : IM X E tg (.Call (.Name "range" p0) [a] [] pos) (mRng1 g) :=
  ⟨(pi_range1 hg hm ha.pa hs).weak fun s H Q ⟨p, l, S, R, L, h⟩ => TL.of R L h fun p1 S1 H1 d v R1 x1 L1 r1 h1 => by
    unfold oRng1 at h1
    split at h1
    · split at h1
      · rename_i hb
        cases r1 with
        | cons r0 rs => cases rs; cases r0; exact ⟨_, rfl, hb.1, hb.2, Post.ok (Q := QJ _ Q) h1 Ext.refl R1 _ rfl⟩
      · exact h1.elim
    · exact h1.elim⟩
end
def fStep (j : J) (g : MG) (b : MS) (a : Nat × Ls × Hs) : Sum (Nat × Ls × Hs) (R F) := match itGo j a.1 a.2.2 with
  | none => .inr .bad
  | some none => .inr (.ok (.nx a.2.1) a.2.2)
  | some (some d) => match g d a.2.1 a.2.2 with
    | .ok l1 S1 => turnOf (b l1 S1) fun l2 S2 => (a.1 + 1, l2, S2)
    | .exc c fs l1 S1 => .inr (.exc c fs l1 S1)
    | .bad => .inr .bad
noncomputable def fLoop (j : J) (g : MG) (b : MS) (k : Nat) : MS := fun l S => runI (fStep j g b) (k, l, S)
noncomputable def mFor (it : MI) (g : MG) (b : MS) : MS := fun l S => (it l S).bind fun j S1 => fLoop j g b 0 l S1
theorem fLoop_eq (j : J) (g : MG) (b : MS) (k : Nat) (l : Ls) (S : Hs) : fLoop j g b k l S = match itGo j k S with
    | none => .bad
    | some none => .ok (.nx l) S
    | some (some d) => (g d l S).bind fun l1 S1 => (b l1 S1).bind fun r S2 => match r with
      | .nx l2 => fLoop j g b (k + 1) l2 S2
      | .ct l2 => fLoop j g b (k + 1) l2 S2
      | .bk l2 => .ok (.nx l2) S2
      | .rt d => .ok (.rt d) S2 := by
  unfold fLoop
  rw [runI_eq]
  unfold fStep turnOf
  simp only []
  cases itGo j k S with
  | none => rfl
  | some o =>
    cases o with
    | none => rfl
    | some d =>
      simp only []
      cases g d l S with
      | ok l1 S1 =>
        simp only [R.bind_ok]
        cases b l1 S1 with
        | ok r S2 => cases r <;> rfl
        | exc _ _ _ _ => rfl
        | bad => rfl
      | exc _ _ _ _ => rfl
      | bad => rfl
section
variable {X : Cx} {E : St → XK} {tg e : Expr} {it : MI} {g : MG} {b : MS} {pos : Pos} {body : List Stmt}
theorem s_for (hp : PassesOwn (model X.prog X.w) X.A X.env X.xe) (hc : X.calm = true) (hi : IM X E tg e it) (hg : GM X E tg g) (hb : SMs X E body b) (hs : ∀ x, foldedSetIterable e X.env x = pure x := by intro _; rfl) : SM X E (.For tg e body [] pos) (mFor it g b) :=
  ⟨(ps_for hp hc hi.pi hg.pg hb.ps hs).weak fun s H D0 ⟨p, l, S, R, L, h⟩ => by
    refine ⟨p, l, S, R, L, (Post.bind (r := it l S) h).mono fun j S1 p1 H1 _ x1 R1 q I hI => ?_⟩
    obtain ⟨n, hn, _⟩ := runI_ex (Post.ne q)
    rw [show fLoop j g b 0 l S1 = _ from hn.symm] at q
    refine ⟨fun k m s H => ∃ p l S, Real X.K p S H ∧ Sl X.K p S.length H l s ∧ JRel X.K p S.length H j I ∧ Post X.K E S.length p H (iter (fStep j g b) m (k, l, S)) (QF X.K D0), ⟨n, p1, l, S1, R1, L.ext x1, hI, q⟩, ?_⟩
    rintro k m s H ⟨p, l, S, R, L, hI, h⟩
    cases m with
    | zero => exact h.elim
    | succ m =>
      simp only [iter, fStep] at h
      cases e1 : itGo j k S with
      | none => rw [e1] at h; exact h.elim
      | some o =>
        cases o with
        | none => rw [e1] at h; exact .inl ⟨it_stop R hI e1, Post.nx h R L⟩
        | some d =>
          obtain ⟨g1, g2⟩ := it_go R hI e1
          rw [e1] at h
          simp only [] at h
          refine .inr ⟨g1, fun s H => ∃ p l S, Real X.K p S H ∧ Sl X.K p S.length H l s ∧ JRel X.K p S.length H j I ∧ Post X.K E S.length p H (iter (fStep j g b) m (k + 1, l, S)) (QF X.K D0), fun s' H' w => ⟨m, Nat.lt_succ_self m, w⟩, fun x H' y => ?_⟩
          obtain ⟨x2, R2, r2⟩ := g2 x H' y
          refine ⟨p, l, S, d, R2, L.ext x2, r2, ?_⟩
          have h2 := Post.ext h x2
          cases e2 : g d l S with
          | bad => rw [e2] at h2; exact h2
          | exc c fs l1 S1 => rw [e2] at h2; exact h2
          | ok l1 S3 =>
            rw [e2] at h2
            simp only [] at h2
            intro p3 H3 x3 R3 s3 L3
            refine ⟨p3, l1, S3, R3, L3, turn_post (Post.ext h2 x3) fun l2 S4 p4 H4 s4 x4 R4 L4 h4 => ⟨p4, l2, S4, R4, L4, hI.ext (x2.trans (x3.trans x4)), h4⟩⟩⟩
end
end Ly
set_option Elab.async false
set_option linter.all false
set_option maxRecDepth 100000
namespace Ly
open PySem PySem.Spec L2
open PyProof.Rows hiding St
abbrev CG := D → Ls → Option Ls
def mYes : MB := fun _ S => .ok true S
abbrev E00 : St → XK := fun _ => L2.E0
section
variable {X : Cx} {E : St → XK} {elt tg iter : Expr} {ifs : List Expr} {scope : Scope} {own : List (Str × Nat)} {pos : Pos} {it : MI} {g : TG} {gl : CG} {tm : MB} {te : M} {tt : TT}
structure CT (X : Cx) (ifs : List Expr) (tm : MB) : Prop where pts : PTs X ifs (TB X.K E00 tm)
end
end Ly
set_option Elab.async false
set_option linter.all false
set_option maxRecDepth 100000
namespace Ly
open PySem PySem.Spec L2
open PyProof.Rows hiding St
section
variable {K : PySem.W.Frag} {E : St → XK} {X : Cx} {p : Nat → Addr} {S : Hs} {H : Hp}
end
abbrev MP := Ls → Hs → R (List (D × D))
def dpNil : MP := fun _ S => .ok [] S
def dpCons (f g : M) (h : MP) : MP := fun l S => (f l S).bind fun x S1 => (g l S1).bind fun y S2 => (h l S2).bind fun r S3 => .ok ((x, y) :: r) S3
def keysP : List (D × D) → Option (List (Key × D))
  | [] => some []
  | (x, y) :: r => match x.key, keysP r with
    | some k, some l => some ((k, y) :: l)
    | _, _ => none
def mergeD (kvs : List (Key × D)) (more : List (Key × D)) : List (Key × D) := more.foldl (fun acc kv => setK acc kv.1 kv.2) kvs
def mDisp (h : MP) : M := fun l S => (h l (S ++ [.dic []])).bind fun ps S1 => match keysP ps, S1[S.length]? with
  | some kvs, some (.dic []) => if kvs.length ≤ 15 then .ok (.ref S.length) (S1.set S.length (.dic (mergeD [] kvs))) else .bad
  | _, _ => .bad
structure DP (X : Cx) (E : St → XK) (pos : Pos) (keys : List (Option Expr)) (values : List Expr) (trs : List (TE × TE)) (f : MP) : Prop where
  pps : PPs X pos keys values trs
  rd : ∀ (s : St) (H : Hp) (p : Nat → Addr) (l : Ls) (S : Hs) (Q : List (V × V) → Hp → Prop), Real X.K p S H → Sl X.K p S.length H l s →
    Post X.K E S.length p H (f l S) (fun ps S1 p1 H1 => ∀ ks vs, Reps X.K p1 S1.length H1 (ps.map (·.1)) ks → Reps X.K p1 S1.length H1 (ps.map (·.2)) vs → Q (ks.zip vs) H1) → tPairs trs s H Q
section
variable {X : Cx} {E : St → XK} {pos : Pos} {keys : List (Option Expr)} {values : List Expr} {trs : List (TE × TE)} {f g : M} {h : MP} {k v : Expr}
theorem dp_nil : DP X E pos [] [] [] dpNil := ⟨pps_nil, fun s H p l S Q R L h => Post.ok h Ext.refl R [] [] .nil .nil⟩
theorem dp_cons (hk : EM X E k f) (hv : EM X E v g) (hr : DP X E pos keys values trs h) : DP X E pos (some k :: keys) (v :: values) ((T X.K E f, T X.K E g) :: trs) (dpCons f g h) :=
  ⟨pps_cons hk.pe hv.pe hr.pps, fun s H p l S Q R L q => T.of R L q fun p1 S1 H1 d1 v1 R1 x1 L1 r1 q1 => T.of R1 L1 q1 fun p2 S2 H2 d2 v2 R2 x2 L2 r2 q2 => hr.rd s H2 p2 l S2 _ R2 L2 (q2.bind.mono fun ps S3 p3 H3 _ x3 R3 q3 ks vs rk rv => by
    have := Post.ok q3 Ext.refl R3 (v1 :: ks) (v2 :: vs) (.cons ((r1.ext x2 _ _).ext x3 _ _) rk) (.cons (r2.ext x3 _ _) rv)
    exact this)⟩
theorem keysP_V {K : PySem.W.Frag} {p : Nat → Addr} {n : Nat} {H : Hp} {ps : List (D × D)} {kvs : List (Key × D)} {ks vs : List V} (h : keysP ps = some kvs) (rk : Reps K p n H (ps.map (·.1)) ks) (rv : Reps K p n H (ps.map (·.2)) vs) :
    ∃ ls : List (Key × V), ks.zip vs = ls.map (fun kv => (kV kv.1, kv.2)) ∧ ls.map (·.1) = kvs.map (·.1) ∧ Reps K p n H (kvs.map (·.2)) (ls.map (·.2)) := by
  induction ps generalizing kvs ks vs with
  | nil =>
    cases h; cases rk; cases rv
    exact ⟨[], rfl, rfl, .nil⟩
  | cons a ps ih =>
    obtain ⟨x, y⟩ := a
    simp only [List.map_cons] at rk rv
    cases rk with
    | cons r0 rs =>
    cases rv with
    | @cons _ _ v0 us s0 ss =>
    simp only [keysP] at h
    split at h
    · rename_i k l e1 e2
      cases h
      obtain ⟨ls, h1, h2, h3⟩ := ih e2 rs ss
      exact ⟨(k, v0) :: ls, by simp only [List.zip_cons_cons, List.map_cons, h1, key_V r0 e1], by simp only [List.map_cons, h2], .cons s0 h3⟩
    · cases h
theorem merge_V {K : PySem.W.Frag} {p : Nat → Addr} {n : Nat} {H : Hp} : ∀ (more : List (Key × D)) (ms : List (Key × V)) (kvs : List (Key × D)) (ks : List (Key × V)), ms.map (·.1) = more.map (·.1) → Reps K p n H (more.map (·.2)) (ms.map (·.2)) →
    ks.map (·.1) = kvs.map (·.1) → Reps K p n H (kvs.map (·.2)) (ks.map (·.2)) → (mergeK ks ms).map (·.1) = (mergeD kvs more).map (·.1) ∧ Reps K p n H ((mergeD kvs more).map (·.2)) ((mergeK ks ms).map (·.2))
  | [], ms, kvs, ks, e, _, e2, r2 => by
    cases ms with
    | nil => exact ⟨e2, r2⟩
    | cons a b => cases e
  | a :: more, ms, kvs, ks, e, r, e2, r2 => by
    cases ms with
    | nil => cases e
    | cons b ms =>
      simp only [List.map_cons, List.cons.injEq] at e
      cases r with
      | cons r0 rs =>
        have s := setK_V e2 r2 a.1 r0
        have := merge_V more ms (setK kvs a.1 a.2) (putK ks a.1 b.2) e.2 rs s.1 s.2
        show (mergeK (putK ks b.1 b.2) ms).map _ = _ ∧ Reps K p n H _ ((mergeK (putK ks b.1 b.2) ms).map _)
        rw [e.1]
        exact this
theorem e_disp (hd : DP X E pos keys values trs h) (hall : keys.all (·.isSome) = true := by rfl) (hl : keys.length = values.length := by rfl) (h0 : keys ≠ [] := by simp) (h15 : keys.length ≤ 15 := by decide) : EM X E (.Dict keys values pos) (mDisp h) :=
  ⟨(pe_disp hd.pps hall hl h0 h15).weak fun s H Q ⟨p, l, S, R, L, q⟩ => by
    intro a ha
    have x0 := ext_new (S := S) (pi := p) (u := .dK []) ha
    have R0 := R.new (u := .dK []) (o := .dic []) ha ⟨[], upd_same, rfl, .nil⟩
    have e0 : (S ++ [O.dic []]).length = S.length + 1 := by simp
    refine hd.rd s _ (piN p S.length a) l (S ++ [.dic []]) _ R0 (by rw [e0]; exact L.ext x0) ?_
    have q' := Post.ext q (show Ext S.length (S ++ [O.dic []]).length _ _ _ _ by rw [e0]; exact x0)
    refine Post.mono (Q' := fun (ps : List (D × D)) S1 p1 H1 => ∀ ks vs, Reps X.K p1 S1.length H1 (ps.map (·.1)) ks → Reps X.K p1 S1.length H1 (ps.map (·.2)) vs → _) (Post.bind (r := h l (S ++ [.dic []])) q') fun ps S1 p1 H1 _ x1 R1 q1 ks vs rk rv => ?_
    have hn : S.length < S1.length := Nat.lt_of_lt_of_le (by rw [e0]; exact Nat.lt_succ_self _) x1.le
    have hp : p1 S.length = a := (x1.ag _ (by rw [e0]; exact Nat.lt_succ_self _)).trans piN_same
    split at q1
    · rename_i kvs e1 e2
      split at q1
      · rename_i hlen
        obtain ⟨ls, h1, h2, h3⟩ := keysP_V e1 rk rv
        obtain ⟨zs, z1, z2, z3⟩ := R1.ob _ _ e2
        have : zs = [] := by cases zs with | nil => rfl | cons _ _ => cases z2
        subst this
        rw [hp] at z1
        have hll : ls.length = kvs.length := by simpa using congrArg List.length h2
        refine ⟨z1, ls, h1, by rw [hll]; exact hlen, ?_⟩
        have xu : Ext S1.length S1.length p1 p1 H1 (upd H1 (p1 S.length) (.dK (mergeK [] ls))) := ext_upd (R1.notup hn)
        have m := merge_V (K := X.K) (p := p1) (n := S1.length) (H := upd H1 (p1 S.length) (.dK (mergeK [] ls))) kvs ls [] [] h2 (h3.ext xu _ _) rfl .nil
        have := Post.put q1 R1 hn ⟨_, upd_same, m.1, m.2⟩ (.ref hn)
        rw [hp] at this
        exact this
      · exact q1.elim
    · exact q1.elim⟩
end
end Ly
set_option Elab.async false
set_option linter.all false
set_option maxRecDepth 100000
namespace Ly
open PySem PySem.Spec L2
open PyProof.Rows hiding St
def GV (K : PySem.W.Frag) (mg : Str → Option Value) (x : Str) (d : D) : Prop := ∃ u v, mg x = some u ∧ RelV v u ∧ ∀ p n H, Rep K p n H d v
structure DefAt (K : PySem.W.Frag) (mg : Str → Option Value) (x : Str) (st : Stmt) (ps : List Str) (f : Addr) (fd : FuncData) : Prop where
  F : Fun K x x st f fd
  g : mg x = some (.ref f)
  b : Binds K fd ps []
section
variable {X : Cx} {E : St → XK}
theorem e_g {x : Str} {d : D} {pos : Pos} (g : GV X.K X.mg x d) (hg : Gl X x := by rfl) (hd : (x == ("__debug__" : Str)) = false := by decide) : EM X E (.Name x pos) (mC d) := by
  obtain ⟨u, v, h1, h2, h3⟩ := g
  exact e_of_c (pe_glob hg h1 h2 hd) h3
variable {k : Nat}
theorem or_inAll (hr : Room k X.A) : OpR X (compareOp .In) (rInAll X.K) :=
  OpR.or op_in_sign (OpR.or op_in_str (OpR.or op_in_seq (OpR.or (op_inD (by have := hr.un; omega)) (OpR.or (op_inDT (by have := hr.un; omega)) (or_din (hu_of hr))))))
theorem or_notinAll (hr : Room k X.A) : OpR X (compareOp .NotIn) (rNotInAll X.K) :=
  OpR.or op_notIn_sign (OpR.or op_notin_str (OpR.or op_notIn_seq (OpR.or (op_notInD (by have := hr.un; omega)) (OpR.or (op_notInDT (by have := hr.un; omega)) (or_dnotin (hu_of hr))))))
end
theorem or_eqA {X : Cx} {k : Nat} (hr : Room k X.A) : OpR X (compareOp .Eq) (orR rEq (rEqD X.K)) := OpR.or op_eq (op_eqD hr.units)
theorem or_neA {X : Cx} {k : Nat} (hr : Room k X.A) : OpR X (compareOp .NotEq) (orR rNe (rNeD X.K)) := OpR.or op_ne (op_neD hr.units)
theorem gv_int {K : PySem.W.Frag} {mg : Str → Option Value} {x : Str} {u : Value} {i : Int} (h : mg x = some u) (e : absV u = some (.int i)) : GV K mg x (.int i) := by
  refine ⟨u, .int i, h, ?_, fun _ _ _ => .int _⟩
  cases u <;> first | (simp only [absV] at e; cases e; exact ⟨_, rfl⟩) | cases e
theorem gv_str {K : PySem.W.Frag} {mg : Str → Option Value} {x : Str} {u : Value} {i : Str} (h : mg x = some u) (e : absV u = some (.str i)) : GV K mg x (.str i) := by
  refine ⟨u, .str i, h, ?_, fun _ _ _ => .str _⟩
  cases u <;> first | (simp only [absV] at e; cases e; exact ⟨_, rfl⟩) | cases e
theorem reps_ints {K : PySem.W.Frag} {p : Nat → Addr} {n : Nat} {H : Hp} : ∀ xs : List Int, Reps K p n H (xs.map D.int) (xs.map V.int)
  | [] => .nil
  | x :: xs => .cons (.int x) (reps_ints xs)
def LawTrue (m : MD) : Prop := ∀ (ns : List Int) (x : D) (S : Hs), ns.length ≤ 63 → (∀ z ∈ ns, Builtin.Int.intBits z ≤ 1048576) → S.length ≤ 1 → Wf S → x.low S.length → seqD x S = some (ns.map D.int) → (∀ o ∈ S, o = .rol (ns.map D.int)) → ∃ S', m [x] S = .ok (.bl true) S'
theorem law_end {K : PySem.W.Frag} {m : MD} (hm : LawTrue m) {H : Hp} {a : Addr} {ns : List Int} (hl : ns.length ≤ 63) (hb : ∀ z ∈ ns, Builtin.Int.intBits z ≤ 1048576) (hO : Only H) (hS : SqL K H a (ns.map V.int)) : spM K 1 m [.ref a] H (fun v _ => v = .bl true) fun _ _ _ => False := by
  have fin : ∀ {p : Nat → Addr} {S : Hs} {S' : Hs} {H : Hp} {r : R D}, r = .ok (.bl true) S' → Post K (fun _ _ _ _ => False) S.length p H r (QD K fun v _ => v = .bl true) := fun {p S S' H r} e => by
    subst e
    intro p' H' x R v r
    cases r; rfl
  have h0 : (∃ o, H a = some (.frz o (.lst (ns.map V.int)))) ∨ Wl K a (ns.map V.int) := by
    rcases hS with hS | hS
    · rcases hS with hS | ⟨o, hS⟩
      · rcases hO a with q | ⟨o, xs, q⟩
        · rw [q] at hS; cases hS
        · rw [q] at hS; cases hS
      · exact .inl ⟨o, hS⟩
    · exact .inr hS
  rcases h0 with ⟨o, h0⟩ | h0
  · have R0 : Real K (fun _ => a) [.rol (ns.map D.int)] H := by
      refine ⟨fun i o' e => ?_, fun i j hi hj _ => by simp at hi hj; omega⟩
      cases i with
      | zero => simp at e; subst e; exact ⟨o, _, h0, reps_ints ns⟩
      | succ i => simp at e
    obtain ⟨S', e⟩ := hm ns (.ref 0) [.rol (ns.map D.int)] hl hb (by simp) R0.wf (by simp [D.low]) rfl (by simp)
    exact ⟨fun _ => a, [.rol (ns.map D.int)], [.ref 0], R0, .cons (.ref (by simp)) .nil, rfl, fin e⟩
  · have R0 : Real K (fun _ => a) [] H := ⟨fun i o' e => by simp at e, fun i j hi hj _ => by simp at hi⟩
    have r0 : Rep K (fun _ => a) 0 H (.wl (ns.map D.int)) (.ref a) := .wl h0 (reps_ints ns)
    obtain ⟨S', e⟩ := hm ns (.wl (ns.map D.int)) [] hl hb (by simp) R0.wf (r0.low) rfl (by simp)
    exact ⟨fun _ => a, [], [.wl (ns.map D.int)], R0, .cons r0 .nil, rfl, fin e⟩
theorem law_noexc {P : Program} {w : World} {l : List Env} {H : Hp} {s : Shared} {e : Value} {s' : Shared} (h : L2.CX P w l H s (fun _ _ _ => False) e s') : False := by
  obtain ⟨_, _, _, _, _, _, _, _, _, _, _, _, z⟩ := h
  exact z
end Ly
set_option Elab.async false
set_option linter.all false
set_option maxRecDepth 100000
namespace Ly
open PySem PySem.Spec L2
open PyProof.Rows hiding St
section
variable {X : Cx} {E : St → XK} {a b c : Expr} {f g h : M} {pos : Pos} {r r' : R2} {op op' : D → D → Hs → R D} {o o' : CmpOp}
end
section
variable {X : Cx} {E : St → XK} {e v1 v2 : Expr} {es rest : List Expr} {f f1 f2 : M} {fs : List M} {pos : Pos}
inductive JM (X : Cx) (E : St → XK) : List Expr → List M → Prop
  | nil : JM X E [] []
  | cons {e : Expr} {f : M} {es : List Expr} {fs : List M} (h : EM X E e f) (r : JM X E es fs) : JM X E (e :: es) (f :: fs)
theorem JM.pj (h : JM X E es fs) : PJ X es (fs.map (T X.K E)) := by
  induction h with
  | nil => exact .nil
  | cons h _ ih => exact .cons h.pe ih
end
def KV (K : PySem.W.Frag) (u : Value) (d : D) : Prop := ∃ v, RelV v u ∧ ∀ p n H, Rep K p n H d v
inductive KVs (K : PySem.W.Frag) : List Value → List (Str × D) → Prop
  | nil : KVs K [] []
  | cons {u : Value} {x : Str} {d : D} {us : List Value} {r : List (Str × D)} (h : KV K u d) (t : KVs K us r) : KVs K (u :: us) ((x, d) :: r)
def flatC : D → Option V
  | .int i => some (.int i)
  | .str x => some (.str x)
  | _ => none
section
variable {X : Cx} {E : St → XK} {a : Expr} {f : M} {pos p2 : Pos} {x : Str} {tbl : List (Str × D)}
end
end Ly
set_option Elab.async false
set_option linter.all false
set_option maxRecDepth 100000
namespace Ly
open PySem PySem.Spec L2
open PyProof.Rows hiding St
section
variable {K : PySem.W.Frag} {p : Nat → Addr} {n : Nat} {H : Hp}
end
def FOk (K : PySem.W.Frag) (cs : List Addr) (f : Str) : Prop := ∀ C ∈ cs, Cls K C ∧ NoAttr K C f
section
variable {X : Cx} {E : St → XK} {e o : Expr} {eo ee : M} {cs : List Addr} {f : Str} {pos pos' : Pos}
end
section
variable {X : Cx} {E0 : XK} {CX : CXT} {e o : Expr} {es : List Expr} {eo : M} {g : ML} {m x : Str} {k np : Nat} {f C : Addr} {fd : FuncData} {ps : List Str} {md : MD} {pos apos p0 : Pos}
end
section
variable {X : Cx} {E : St → XK} {e o : Expr} {eo ee : M} {cs : List Addr} {f : Str} {pos tpos : Pos} {r : R2} {op : D → D → Hs → R D} {ao : Operator}
end
def MOk (P : Program) (w : World) (K : PySem.W.Frag) (mg : Str → Option Value) (base : Heap) (CX : CXT) (k : Nat) (m : Str) (C : Addr) (md : MD) : Prop := ∃ (np : Nat) (f : Addr) (fd : FuncData) (ps : List Str), Cls K C ∧ Meth K C m f ∧ FnOk P w K mg base CX k f fd ps (spM K np md) ∧ Binds K fd ps [] ∧ ∀ ds S, ds.length ≠ np → md ds S = .bad
section
variable {P : Program} {w : World} {K : PySem.W.Frag} {mg : Str → Option Value} {base : Heap} {CX : CXT} {k : Nat} {m : Str}
inductive MOks (P : Program) (w : World) (K : PySem.W.Frag) (mg : Str → Option Value) (base : Heap) (CX : CXT) (k : Nat) (m : Str) : List (Addr × MD) → Prop
  | one {C : Addr} {md : MD} (h : MOk P w K mg base CX k m C md) : MOks P w K mg base CX k m [(C, md)]
  | cons {C : Addr} {md : MD} {r : List (Addr × MD)} (h : MOk P w K mg base CX k m C md) (t : MOks P w K mg base CX k m r) : MOks P w K mg base CX k m ((C, md) :: r)
theorem MOks.get {tbl : List (Addr × MD)} (h : MOks P w K mg base CX k m tbl) {C : Addr} {md : MD} (e : tbl.lookup C = some md) : MOk P w K mg base CX k m C md := by
  induction h with
  | one h =>
    simp only [List.lookup] at e
    split at e
    · cases e; rename_i q; rw [show C = _ from by simpa using q]; exact h
    · cases e
  | cons h t ih =>
    simp only [List.lookup] at e
    split at e
    · cases e; rename_i q; rw [show C = _ from by simpa using q]; exact h
    · exact ih e
theorem MOks.some {tbl : List (Addr × MD)} (h : MOks P w K mg base CX k m tbl) : ∃ C md, MOk P w K mg base CX k m C md := by
  cases h with
  | one h => exact ⟨_, _, h⟩
  | cons h _ => exact ⟨_, _, h⟩
structure MetAt (K : PySem.W.Frag) (m qual : Str) (st : Stmt) (ps : List Str) (f : Addr) (fd : FuncData) : Prop where
  F : Fun K m qual st f fd
  b : Binds K fd ps []
end
section
variable {X : Cx} {E0 : XK} {CX : CXT} {e o : Expr} {es : List Expr} {eo : M} {g : ML} {m : Str} {k : Nat} {tbl : List (Addr × MD)} {pos apos : Pos} {pl : Sem Bool}
end
end Ly
set_option Elab.async false
set_option linter.all false
set_option maxRecDepth 100000
namespace Ly
open PySem PySem.Spec L2
open PyProof.Rows hiding St
section
variable {X : Cx} {E : St → XK} {kx vx tg iter : Expr} {ifs : List Expr} {scope : Scope} {own : List (Str × Nat)} {pos : Pos} {it : MI} {g : TG} {gl : CG} {tm : MB} {tk tv : M} {tt : TT}
end
section
variable {K : PySem.W.Frag} {p : Nat → Addr} {n : Nat} {H : Hp}
end
section
variable {X : Cx} {E : St → XK} {f g hh : M} {o e e2 : Expr} {apos cpos : Pos}
end
section
variable {X : Cx} {E : St → XK} {f g : M} {a b : Expr} {p p2 pos pos2 : Pos}
end
section
variable {X : Cx} {E : St → XK} {e : Expr} {f : ML} {p pos : Pos}
end
end Ly
set_option Elab.async false
set_option linter.all false
set_option maxRecDepth 100000
namespace Ly
open PySem PySem.Spec L2
open PyProof.Rows hiding St
def HOk (P : Program) (w : World) (K : PySem.W.Frag) (mg : Str → Option Value) (base : Heap) (CX : CXT) (k : Nat) (f : Addr) (md : MD) : Prop := ∃ (np : Nat) (fd : FuncData) (ps : List Str), FnOk P w K mg base CX k f fd ps (spM K np md) ∧ PySem.W.keepIn K (.ref f) = true ∧ Binds K fd ps [] ∧ ∀ ds S, ds.length ≠ np → md ds S = .bad
section
variable {P : Program} {w : World} {K : PySem.W.Frag} {mg : Str → Option Value} {base : Heap} {CX : CXT} {k : Nat}
inductive HOks (P : Program) (w : World) (K : PySem.W.Frag) (mg : Str → Option Value) (base : Heap) (CX : CXT) (k : Nat) : List (Addr × MD) → Prop
  | nil : HOks P w K mg base CX k []
  | cons {f : Addr} {md : MD} {r : List (Addr × MD)} (h : HOk P w K mg base CX k f md) (t : HOks P w K mg base CX k r) : HOks P w K mg base CX k ((f, md) :: r)
theorem HOks.get {tbl : List (Addr × MD)} (h : HOks P w K mg base CX k tbl) {f : Addr} {md : MD} (e : tbl.lookup f = some md) : HOk P w K mg base CX k f md := by
  induction h with
  | nil => cases e
  | cons h t ih =>
    simp only [List.lookup] at e
    split at e
    · cases e; rename_i q; rw [show f = _ from by simpa using q]; exact h
    · exact ih e
theorem hok {f c : Addr} {fd : FuncData} {ps : List Str} {np j : Nat} {md : MD} (e : c = f) (F : FnOk P w K mg base CX j f fd ps (spM K np md)) (hj : j ≤ k) (hk : PySem.W.keepIn K (.ref f) = true) (hb : Binds K fd ps []) (hl : ∀ ds S, ds.length ≠ np → md ds S = .bad) : HOk P w K mg base CX k c md := by
  subst e
  exact ⟨np, fd, ps, F.mono hj, hk, hb, hl⟩
end
section
variable {X : Cx} {E0 : XK} {CX : CXT} {e : Expr} {es : List Expr} {g : ML} {x : Str} {i k : Nat} {tbl : List (Addr × MD)} {p pos : Pos}
end
def Dst (a b : Nat) (cA : Nat → Addr) : Prop := ∀ i j, a ≤ i → i < b → a ≤ j → j < b → cA i = cA j → i = j
def spY (K : PySem.W.Frag) (a b : Nat) (np : Nat) (m : (Nat → Addr) → MD) : Sp := fun vs H Q E => ∀ cA, Dst a b cA → spM K np (m cA) vs H Q E
theorem law_endY {K : PySem.W.Frag} {a b : Nat} {m : (Nat → Addr) → MD} (hm : ∀ cA, Dst a b cA → LawTrue (m cA)) {H : Hp} {x : Addr} {ns : List Int} (hl : ns.length ≤ 63) (hb : ∀ z ∈ ns, Builtin.Int.intBits z ≤ 1048576) (hO : Only H) (hS : SqL K H x (ns.map V.int)) : spY K a b 1 m [.ref x] H (fun v _ => v = .bl true) fun _ _ _ => False :=
  fun cA h => law_end (hm cA h) hl hb hO hS
theorem dst_of {a b : Nat} {xs : List Addr} (h : ((xs.drop a).take (b - a)).Nodup) (hb : b ≤ xs.length) : Dst a b (fun i => xs.getD i 0) := by
  intro i j hi hi2 hj hj2 e
  have g : ∀ k, a ≤ k → k < b → ((xs.drop a).take (b - a))[k - a]? = some (xs.getD k 0) := by
    intro k h1 h2
    rw [List.getElem?_take_of_lt (by omega), List.getElem?_drop, show a + (k - a) = k by omega]
    have : k < xs.length := by omega
    simp [List.getD, List.getElem?_eq_getElem this]
  have e : xs.getD i 0 = xs.getD j 0 := e
  have e1 := g i hi hi2
  have e2 := g j hj hj2
  rw [e] at e1
  have := (List.getElem?_inj (by have := (List.getElem?_eq_some_iff.mp e1).1; omega) h).mp (e1.trans e2.symm)
  omega
end Ly
set_option Elab.async false
set_option linter.all false
set_option maxRecDepth 100000
namespace Ly
open PySem PySem.Spec L2
open PyProof.Rows hiding St
section
variable {X : Cx} {E : St → XK} {e : Expr} {f : M}
end
end Ly
set_option Elab.async false
set_option linter.all false
set_option maxRecDepth 100000
namespace Ly
open PySem PySem.Spec L2
open PyProof.Rows hiding St
structure FnR (P : Program) (w : World) (K : PySem.W.Frag) (mg : Str → Option Value) (base : Heap) (CX : CXT) (Rm : Around → Prop) (f : Addr) (fd : FuncData) (ps : List Str) (sp : Sp) : Prop where
  len : ∀ vs H Q E, sp vs H Q E → vs.length = ps.length
  run : ∀ (A : Around) (outer : List Env) (s : Shared) (H : Hp) (args : Args) (us : List Value) (vs : List V) (Q : VK) (E : XK), Rm A → Env0 P w K mg base A outer s H → BindsTo s fd args (ps.zip us) → Vals vs us → sp vs H Q E →
    codeAny (model P w) A (.call (.ref f) args) (CR CX outer P w H s Q E) s
structure Rn (j n : Nat) (A : Around) : Prop where
  hd : A.handled = none
  dp : A.depth + 3 * j + n + 5 < recursionLimit
  un : A.units + 16 * j + 5 * n + 200 < cLine
theorem Rn.of {j n k : Nat} {A : Around} (r : Room k A) (h : 3 * j + n ≤ 3 * k) : Rn j n A := ⟨r.hd, by have := r.dp; omega, by have := r.un; omega⟩
theorem Rn.deeper {j n : Nat} {A : Around} (r : Rn j (n + 1) A) (env : Env) : Rn j n (A.deeper env) :=
  ⟨r.hd, by have := r.dp; show A.depth + 1 + 3 * j + n + 5 < _; omega, by have := r.un; show A.units + 3 + 16 * j + 5 * n + 200 < _; omega⟩
section
variable {P : Program} {w : World} {K : PySem.W.Frag} {mg : Str → Option Value} {base : Heap} {CX : CXT} {f : Addr} {fd : FuncData} {ps : List Str} {sp : Sp}
theorem FnR.ok {j n k : Nat} (F : FnR P w K mg base CX (Rn j n) f fd ps sp) (h : 3 * j + n ≤ 3 * k) : FnOk P w K mg base CX k f fd ps sp :=
  ⟨F.len, fun A outer s H args us vs Q E hr => F.run A outer s H args us vs Q E (.of hr h)⟩
end
section
variable {X : Cx} {CX : CXT} {Rm : Around → Prop} {f C : Addr} {fd : FuncData} {ps : List Str} {sp : Sp} {E0 : XK} {E : St → XK} {x m : Str} {p pos apos : Pos} {e o : Expr} {es : List Expr} {t : TA} {ta : TE}
variable {eo : M} {g : ML} {C1 : Addr} {md1 : MD} {pl : Sem Bool}
end
section
variable {P : Program} {w : World} {K : PySem.W.Frag} {mg : Str → Option Value} {base : Heap} {Rm : Around → Prop}
end
section
variable {P : Program} {w : World} {K : PySem.W.Frag} {mg : Str → Option Value} {base : Heap} {Rm : Around → Prop} {CX : CXT} {m : Str}
end
end Ly
set_option Elab.async false
set_option linter.all false
set_option maxRecDepth 100000
namespace Ly
open PySem PySem.Spec L2
open PyProof.Rows hiding St
theorem mulok_r {i j : Int} (h : j.natAbs < 2 ^ 64) : IntMulOk i j := .of_right (intBits_le_64 (by omega) (by omega))
theorem mulok_l {i j : Int} (h : i.natAbs < 2 ^ 64) : IntMulOk i j := .of_left (intBits_le_64 (by omega) (by omega))
theorem fine_pure {np : Nat} {m' m : MD} (h : ∀ ds S, Wf S → D.lows S.length ds → ds.length = np → m' ds S = .bad ∨ ∃ v, m' ds S = .ok v S ∧ v.low S.length ∧ ∃ g, m ds S = .ok v (S ++ g)) : Fine np m' m := by
  intro ds S wf lo hl
  rcases h ds S wf lo hl with e | ⟨v, e, hv, hg⟩
  · rw [e]; trivial
  · rw [e]; exact ⟨Nat.le_refl _, wf, hv, hg⟩
def mixI (c k : Int) : Int :=
  let low := (c * 48271 + k * 69621 + 11) % 2147483647
  (low * low + c * 40692 + k * 7 + 3) % 1000003 % 1000
def S_mix : MD := fun ds S => match ds with
  | [.int c, .int k] => .ok (.int (mixI c k)) S
  | _ => .bad
theorem len_mix (ds : List D) (S : Hs) (h : ds.length ≠ 2) : S_mix ds S = .bad := by
  unfold S_mix; split
  · simp at h
  · rfl
def b_mix : MS := (mSeq (mSet 2 (mBin oMod (mCall bInt (lCons (mBin oAdd (mBin oAdd (mBin oMul (mVar 0) (mC (.int 48271))) (mBin oMul (mVar 1) (mC (.int 69621)))) (mC (.int 11))) lNil)) (mC (.int 2147483647))))
    (mRet (mBin oMod (mBin oMod (mCall bInt (lCons (mBin oAdd (mBin oAdd (mBin oAdd (mBin oMul (mVar 2) (mVar 2)) (mBin oMul (mVar 0) (mC (.int 40692)))) (mBin oMul (mVar 1) (mC (.int 7)))) (mC (.int 3))) lNil)) (mC (.int 1000003))) (mC (.int 1000)))))
theorem fine_mix : Fine 2 S_mix (mDef 2 1 b_mix) := fine_pure fun ds S wf lo hl => by
  unfold S_mix
  split
  · rename_i c k
    refine .inr ⟨_, rfl, by simp [D.low], [], ?_⟩
    have h1 : IntMulOk c 48271 := mulok_r (by decide)
    have h2 : IntMulOk k 69621 := mulok_r (by decide)
    have h3 : IntMulOk c 40692 := mulok_r (by decide)
    have h4 : IntMulOk k 7 := mulok_r (by decide)
    have h5 : IntMulOk ((c * 48271 + k * 69621 + 11) % 2147483647) ((c * 48271 + k * 69621 + 11) % 2147483647) := mulok_r (by omega)
    simp [mDef, b_mix, mSeq, mSet, mRet, mBin, mCall, lCons, lNil, mVar, mC, oAdd, oMul, oMod, bInt, endOf, h1, h2, h3, h4, h5, mixI]
  · exact .inl rfl
theorem kRA : ¬ (("row" : Str) = "at") := by decide +kernel
theorem kRS : ¬ (("row" : Str) = "seed") := by decide +kernel
theorem kAS : ¬ (("at" : Str) = "seed") := by decide +kernel
theorem kSA : ¬ (("seed" : Str) = "at") := by decide +kernel
theorem get_put {S : Hs} {i : Nat} {o u : O} (h : S[i]? = some o) : (S.set i u)[i]? = some u := List.getElem?_set_self (Real.lt h)
def drawsK (r a s : D) : List (Key × D) := [(.inr "row", r), (.inr "at", a), (.inr "seed", s)]
@[simp] theorem drawsK_row (r a s : D) : getK (drawsK r a s) (.inr "row") = some r := by simp [getK, drawsK]
@[simp] theorem drawsK_at (r a s : D) : getK (drawsK r a s) (.inr "at") = some a := by simp [getK, drawsK, kRA]
@[simp] theorem drawsK_seed (r a s : D) : getK (drawsK r a s) (.inr "seed") = some s := by simp [getK, drawsK, kRS, kAS]
@[simp] theorem drawsK_len (r a s : D) : (drawsK r a s).length = 3 := rfl
@[simp] theorem drawsK_set (r a s b : D) : setK (drawsK r a s) (.inr "at") b = drawsK r b s := by simp [setK, drawsK, kRA, kSA]
def drawsO (j : Nat) (a sd : Int) : O := .dic (drawsK (.ref j) (.int a) (.int sd))
def pickV (row : List Int) (sd a many : Int) : Int := (if a < (row.length : Int) then row.getD a.toNat 0 else mixI sd a) % many
structure Drw (S : Hs) (i j : Nat) (row : List Int) (a sd : Int) : Prop where
  d : S[i]? = some (drawsO j a sd)
  r : S[j]? = some (.lst (row.map D.int))
  ne : i ≠ j
  nn : 0 ≤ a
open Classical in
noncomputable def S_pick : MD := fun ds S => match ds with
  | [.ref i, .int many] => if h : ∃ t : Nat × List Int × Int × Int, Drw S i t.1 t.2.1 t.2.2.1 t.2.2.2 ∧ 0 < many then
      .ok (.int (pickV h.choose.2.1 h.choose.2.2.2 h.choose.2.2.1 many)) (S.set i (drawsO h.choose.1 (h.choose.2.2.1 + 1) h.choose.2.2.2))
    else .bad
  | _ => .bad
theorem map_int_inj : ∀ {xs ys : List Int}, xs.map D.int = ys.map D.int → xs = ys
  | [], [], _ => rfl
  | [], _ :: _, h => by cases h
  | _ :: _, [], h => by cases h
  | x :: xs, y :: ys, h => by
    simp only [List.map_cons, List.cons.injEq, D.int.injEq] at h
    rw [h.1, map_int_inj h.2]
theorem Drw.same {S : Hs} {i j j' : Nat} {row row' : List Int} {a a' sd sd' : Int} (h : Drw S i j row a sd) (h' : Drw S i j' row' a' sd') : j = j' ∧ row = row' ∧ a = a' ∧ sd = sd' := by
  have e := h.d.symm.trans h'.d
  simp only [drawsO, drawsK, Option.some.injEq, O.dic.injEq, List.cons.injEq, Prod.mk.injEq, D.ref.injEq, D.int.injEq, and_true, true_and] at e
  obtain ⟨rfl, rfl, rfl⟩ := e
  have e := h.r.symm.trans h'.r
  simp only [Option.some.injEq, O.lst.injEq] at e
  exact ⟨rfl, map_int_inj e, rfl, rfl⟩
theorem S_pick_eq {S : Hs} {i j : Nat} {row : List Int} {a sd many : Int} (h : Drw S i j row a sd) (hm : 0 < many) : S_pick [.ref i, .int many] S = .ok (.int (pickV row sd a many)) (S.set i (drawsO j (a + 1) sd)) := by
  have hx : ∃ t : Nat × List Int × Int × Int, Drw S i t.1 t.2.1 t.2.2.1 t.2.2.2 ∧ 0 < many := ⟨(j, row, a, sd), h, hm⟩
  unfold S_pick
  simp only [dif_pos hx]
  obtain ⟨e1, e2, e3, e4⟩ := hx.choose_spec.1.same h
  rw [e1, e2, e3, e4]
theorem len_pick (ds : List D) (S : Hs) (h : ds.length ≠ 2) : S_pick ds S = .bad := by
  unfold S_pick; split
  · simp at h
  · rfl
def b_pick (mix : MD) : MS := (mSeq (mSet 2 (mBin oIx (mVar 0) (mC (.str "at"))))
    (mSeq (mAsg (mBin oAdd (mVar 2) (mC (.int 1))) (gSb (mVar 0) (mC (.str "at"))))
    (mSeq (mSet 3 (mFn mix (lCons (mBin oIx (mVar 0) (mC (.str "seed"))) (lCons (mVar 2) lNil))))
    (mSeq (mIfS (mCmp oLt (mVar 2) (mCall bLen (lCons (mBin oIx (mVar 0) (mC (.str "row"))) lNil))) (mSet 3 (mBin oIx (mBin oIx (mVar 0) (mC (.str "row"))) (mVar 2))) mPass)
    (mRet (mBin oMod (mCall bInt (lCons (mVar 3) lNil)) (mVar 1)))))))
theorem atI_nat {α : Type} {xs : List α} {i : Int} (h0 : 0 ≤ i) (h1 : i < (xs.length : Int)) : L2.atI xs i = xs[i.toNat]? := by
  unfold L2.atI L2.ixN
  rw [if_pos h0, if_pos h1]; rfl
theorem wf_set {S : Hs} {i : Nat} {o : O} (w : Wf S) (l : o.low S.length) : Wf (S.set i o) := by
  intro j o' e
  rw [List.length_set]
  by_cases h : j = i
  · subst h
    have hl := (List.getElem?_eq_some_iff.mp e).1
    rw [List.length_set] at hl
    rw [List.getElem?_set_self hl] at e
    cases e; exact l
  · rw [List.getElem?_set_ne (Ne.symm h)] at e
    exact w j o' e
theorem fine_pick : Fine 2 S_pick (mDef 2 2 (b_pick S_mix)) := by
  intro ds S wf lo hl
  by_cases hp : ∃ i many j row a sd, ds = [.ref i, .int many] ∧ Drw S i j row a sd ∧ 0 < many
  · obtain ⟨i, many, j, row, a, sd, rfl, h, hm⟩ := hp
    rw [S_pick_eq h hm]
    have hi : i < S.length := Real.lt h.d
    have hj : j < S.length := Real.lt h.r
    refine ⟨by simp, wf_set wf (by simp [O.low, drawsO, drawsK, D.lows, D.low, hj]), by simp [D.low], [], ?_⟩
    have d0 : S[i]? = some (.dic (drawsK (.ref j) (.int a) (.int sd))) := h.d
    have hr2 : (S.set i (O.dic (drawsK (.ref j) (.int (a + 1)) (.int sd))))[j]? = some (.lst (row.map D.int)) := by rw [List.getElem?_set_ne h.ne]; exact h.r
    have nn := h.nn
    by_cases hlt : a < (row.length : Int)
    · have hx : row[a.toNat]? = some (row.getD a.toNat 0) := by
        have : a.toNat < row.length := by omega
        simp [List.getD, List.getElem?_eq_getElem this]
      have hat : L2.atI (row.map D.int) a = some (.int (row.getD a.toNat 0)) := by
        rw [atI_nat nn (by simpa using hlt), List.getElem?_map, hx]; rfl
      simp [mDef, b_pick, mSeq, mSet, mRet, mBin, mCall, lCons, lNil, mVar, mC, oAdd, oIx, dGet, D.key, oMod, bInt, endOf, mAsg, gSb, oSet, mFn, S_mix, mIfS, mCmp, bLen, lenD, oLt, mPass, d0, get_put d0, hr2, hlt, hat, hm, pickV, drawsO, show (3:Nat) < sizeLine by decide]
    · simp [mDef, b_pick, mSeq, mSet, mRet, mBin, mCall, lCons, lNil, mVar, mC, oAdd, oIx, dGet, D.key, oMod, bInt, endOf, mAsg, gSb, oSet, mFn, S_mix, mIfS, mCmp, bLen, lenD, oLt, mPass, d0, get_put d0, hr2, hlt, hm, pickV, drawsO, show (3:Nat) < sizeLine by decide]
  · have e : S_pick ds S = .bad := by
      unfold S_pick
      split
      · rename_i i many
        rw [dif_neg]
        rintro ⟨⟨j, row, a, sd⟩, h, hm⟩
        exact hp ⟨i, many, j, row, a, sd, rfl, h, hm⟩
      · rfl
    rw [e]; trivial
theorem range_loop {lo : Int} {n i : Nat} {b : MS} (Inv : Nat → Ls → Hs → Prop) (step : ∀ k l S, k < n → Inv k l S → ∃ l' S', b (l.set i (some (.int (lo + k)))) S = .ok (.nx l') S' ∧ Inv (k + 1) l' S') :
    ∀ m k l S, k + m = n → Inv k l S → ∃ l' S', fLoop (.rng lo n) (gN i) b k l S = .ok (.nx l') S' ∧ Inv n l' S'
  | 0, k, l, S, e, h => by
    have hk : k = n := by omega
    subst hk
    exact ⟨l, S, by rw [fLoop_eq]; simp [itGo], h⟩
  | m + 1, k, l, S, e, h => by
    have hk : k < n := by omega
    obtain ⟨l1, S1, e1, h1⟩ := step k l S hk h
    obtain ⟨l2, S2, e2, h2⟩ := range_loop Inv step m (k + 1) l1 S1 (by omega) h1
    exact ⟨l2, S2, by rw [fLoop_eq]; simp [itGo, hk, gN, e1, e2], h2⟩
def b_str1 : MS := (mIfS (mAndB (mCmp oGt (mVar 4) (mC (.int 0))) (mCmp oLt (mCall bLen (lCons (mVar 2) lNil)) (mVar 1))) (mSeq (mExpr (mBM "list" oAppend (mVar 2) (lCons (mBin oMod (mCall bInt (lCons (mVar 4) lNil)) (mC (.int 1000))) lNil)))
    (mSet 4 (mBin oFdiv (mVar 4) (mC (.int 1000))))) mPass)
def b_str2 (mix : MD) : MS := (mIfS (mCmp oLt (mCall bLen (lCons (mVar 2) lNil)) (mVar 1)) (mExpr (mBM "list" oAppend (mVar 2) (lCons (mFn mix (lCons (mVar 4) (lCons (mBin oAdd (mBin oMul (mC (.int 64)) (mVar 5)) (mVar 3)) lNil))) lNil))) mPass)
noncomputable def b_str3 (mix : MD) : MS := (mSeq (mSet 4 (mBin oIx (mVar 0) (mVar 3)))
    (mIfS (mCmp oGe (mVar 4) (mBin oPow (mC (.int 10)) (mC (.int 18)))) (mFor (mRng1 (lCons (mC (.int 60)) lNil)) (gN 5) b_str1) (mFor (mRng1 (lCons (mC (.int 3)) lNil)) (gN 5) (b_str2 mix))))
noncomputable def b_stream (mix : MD) : MS := (mSeq (mSet 2 (mLst lNil))
    (mSeq (mFor (mRng1 (lCons (mCall bMin (lCons (mCall bLen (lCons (mVar 0) lNil)) (lCons (mC (.int 63)) lNil))) lNil)) (gN 3) (b_str3 mix))
    (mRet (mDisp (dpCons (mC (.str "row")) (mVar 2) (dpCons (mC (.str "at")) (mC (.int 0)) (dpCons (mC (.str "seed")) (mCall bLen (lCons (mVar 2) lNil)) dpNil)))))))
theorem get_end {S : Hs} {o : O} : (S ++ [o])[S.length]? = some o := by simp
theorem set_end {S : Hs} {o u : O} : (S ++ [o]).set S.length u = S ++ [u] := by simp [List.set_append]
theorem lenD_seq {x : D} {S : Hs} {ds : List D} (h : seqD x S = some ds) : lenD x S = some ds.length := by
  unfold seqD at h
  split at h
  · unfold lenD
    split at h <;> first | (rename_i q; cases h; simp [q]) | cases h
  · cases h; rfl
  · cases h
theorem seqD_more {x : D} {S g : Hs} {ds : List D} (h : seqD x S = some ds) : seqD x (S ++ g) = some ds := by
  unfold seqD at h ⊢
  split at h
  · rename_i i
    split at h
    · rename_i q; rw [List.getElem?_append_left (Real.lt q), q]; exact h
    · rename_i q; rw [List.getElem?_append_left (Real.lt q), q]; exact h
    · cases h
  · exact h
  · cases h
theorem oIx_seq {x : D} {S : Hs} {ds : List D} {i : Int} {d : D} (h : seqD x S = some ds) (h0 : 0 ≤ i) (h1 : i < (ds.length : Int)) (hd : ds[i.toNat]? = some d) : oIx x (.int i) S = .ok d S := by
  have ha : L2.atI ds i = some d := by rw [atI_nat h0 h1]; exact hd
  unfold seqD at h
  split at h
  · split at h <;> first | (rename_i q; cases h; simp [oIx, q, ha]) | cases h
  · cases h; simp [oIx, ha]
  · cases h
theorem line_big {n : Nat} (h : n ≤ 1000000) : n < sizeLine := Nat.lt_of_le_of_lt h (by decide)
def RowAt (S0 : Hs) (most : Int) (S : Hs) : Prop := ∃ row : List Int, S = S0 ++ [.lst (row.map D.int)] ∧ (row.length : Int) ≤ max most 0
theorem rowAt_push {S0 : Hs} {most : Int} {row : List Int} {v : Int} (h : (row.length : Int) < most) : RowAt S0 most (S0 ++ [.lst (row.map D.int ++ [.int v])]) := ⟨row ++ [v], by simp, by simp; omega⟩
theorem pow18 (S : Hs) : oPow (.int 10) (.int 18) S = .ok (.int 1000000000000000000) S := by
  have e : (10 : Int) ^ (18 : Int).toNat = 1000000000000000000 := by decide +kernel
  have h : 0 ≤ (18 : Int) ∧ (18 : Int) ≤ 1000000 ∧ (10 : Int).natAbs < 2 ^ 64 := by decide +kernel
  simp only [oPow]
  rw [if_pos h, e]
theorem rng1 {n : Int} (S : Hs) (h0 : -1000000000 ≤ n) (h1 : n ≤ 1000000000) : oRng1 [.int n] S = .ok (.rng 0 n.toNat) S := by
  have h : -(2 ^ 62) ≤ n ∧ n < 2 ^ 62 := ⟨Int.le_trans (by decide +kernel) h0, Int.lt_of_le_of_lt h1 (by decide +kernel)⟩
  simp only [oRng1]
  rw [if_pos h]
theorem str1_true {S : Hs} {x : D} {most : Int} {o3 o5 : Option D} {rest : Int} {S' : Hs} (hm : most ≤ 1000000) (hS : RowAt S most S') : ∃ l' S'', fLoop (.rng 0 60) (gN 5) b_str1 0 [some x, some (.int most), some (.ref S.length), o3, some (.int rest), o5] S' = .ok (.nx l') S'' ∧
    (RowAt S most S'' ∧ ∃ o4 o5, l' = [some x, some (.int most), some (.ref S.length), o3, o4, o5]) := by
  have := range_loop (lo := 0) (n := 60) (i := 5) (b := b_str1) (fun _ l S' => RowAt S most S' ∧ ∃ (rest : Int) (o5 : Option D), l = [some x, some (.int most), some (.ref S.length), o3, some (.int rest), o5]) ?_ 60 0 _ S' (by omega) ⟨hS, rest, o5, rfl⟩
  · obtain ⟨l', S'', e, h1, r, o, h2⟩ := this
    exact ⟨l', S'', e, h1, _, _, h2⟩
  · rintro k l S' hk ⟨⟨row, rfl, hr⟩, rest, o5, rfl⟩
    by_cases h0 : 0 < rest
    · by_cases h1 : (row.length : Int) < most
      · refine ⟨_, _, ?_, rowAt_push (v := rest % 1000) h1, rest / 1000, some (.int (0 + k)), rfl⟩
        have hb : row.length < sizeLine := line_big (by omega)
        simp [b_str1, mIfS, mAndB, mCmp, mVar, mC, oGt, oLt, mCall, bLen, lCons, lNil, lenD, h0, h1, mSeq, mExpr, mBM, hasTy, oAppend, mBin, oMod, bInt, mSet, oFdiv, hb, show Nat.log2 1000 < 9000 by decide]
      · refine ⟨_, _, ?_, ⟨row, rfl, hr⟩, rest, some (.int (0 + k)), rfl⟩
        simp [b_str1, mIfS, mAndB, mCmp, mVar, mC, oGt, oLt, mCall, bLen, lCons, lNil, lenD, h0, h1, mPass]
    · refine ⟨_, _, ?_, ⟨row, rfl, hr⟩, rest, some (.int (0 + k)), rfl⟩
      simp [b_str1, mIfS, mAndB, mCmp, mVar, mC, oGt, h0, mPass]
theorem str2_true {S : Hs} {x : D} {most : Int} {c : Int} {o5 : Option D} {rest : Int} {S' : Hs} (hm : most ≤ 1000000) (hS : RowAt S most S') : ∃ l' S'', fLoop (.rng 0 3) (gN 5) (b_str2 S_mix) 0 [some x, some (.int most), some (.ref S.length), some (.int c), some (.int rest), o5] S' = .ok (.nx l') S'' ∧
    (RowAt S most S'' ∧ ∃ o5, l' = [some x, some (.int most), some (.ref S.length), some (.int c), some (.int rest), o5]) := by
  refine range_loop (lo := 0) (n := 3) (i := 5) (fun _ l S' => RowAt S most S' ∧ ∃ (o5 : Option D), l = [some x, some (.int most), some (.ref S.length), some (.int c), some (.int rest), o5]) ?_ 3 0 _ S' (by omega) ⟨hS, o5, rfl⟩
  rintro k l S' hk ⟨⟨row, rfl, hr⟩, o5, rfl⟩
  by_cases h1 : (row.length : Int) < most
  · refine ⟨_, _, ?_, rowAt_push (v := mixI rest (64 * (0 + k) + c)) h1, some (.int (0 + k)), rfl⟩
    have hb : row.length < sizeLine := line_big (by omega)
    have hmul : IntMulOk 64 (k : Int) := mulok_l (by decide)
    simp [b_str2, mIfS, mCmp, mVar, mC, oLt, mCall, bLen, lCons, lNil, lenD, h1, mExpr, mBM, hasTy, oAppend, mBin, hb, mFn, S_mix, oMul, oAdd, hmul]
  · refine ⟨_, _, ?_, ⟨row, rfl, hr⟩, some (.int (0 + k)), rfl⟩
    simp [b_str2, mIfS, mCmp, mVar, mC, oLt, mCall, bLen, lCons, lNil, lenD, h1, mPass]
theorem str3_true {x : D} {S : Hs} {ns : List Int} {most : Int} (hx : seqD x S = some (ns.map D.int)) (hm : most ≤ 1000000) (k : Nat) (l : Ls) (S' : Hs) (hk : k < ns.length) (h : RowAt S most S' ∧ ∃ (o3 o4 o5 : Option D), l = [some x, some (.int most), some (.ref S.length), o3, o4, o5]) :
    ∃ l' S'', b_str3 S_mix (l.set 3 (some (.int (0 + k)))) S' = .ok (.nx l') S'' ∧ RowAt S most S'' ∧ ∃ (o3 o4 o5 : Option D), l' = [some x, some (.int most), some (.ref S.length), o3, o4, o5] := by
  obtain ⟨hS, o3, o4, o5, rfl⟩ := h
  have hS0 := hS
  obtain ⟨row, rfl, hr⟩ := hS
  have hix : oIx x (.int (k : Int)) (S ++ [.lst (row.map D.int)]) = .ok (.int ns[k]) (S ++ [.lst (row.map D.int)]) := oIx_seq (seqD_more hx) (by omega) (by simpa using hk) (by simp [hk])
  by_cases hg : (1000000000000000000 : Int) ≤ ns[k]
  · obtain ⟨l', S'', e, h1, o4', o5', h2⟩ := str1_true (S := S) (x := x) (o3 := some (.int (0 + k))) (o5 := o5) (rest := ns[k]) hm hS0
    refine ⟨l', S'', ?_, h1, _, _, _, h2⟩
    rw [← e]
    simp [b_str3, mSeq, mSet, mBin, mVar, hix, mIfS, mCmp, mC, pow18, oGe, hg, mFor, mRng1, rng1, lCons, lNil]
  · obtain ⟨l', S'', e, h1, o5', h2⟩ := str2_true (S := S) (x := x) (c := 0 + k) (o5 := o5) (rest := ns[k]) hm hS0
    refine ⟨l', S'', ?_, h1, _, _, _, h2⟩
    rw [← e]
    simp [b_str3, mSeq, mSet, mBin, mVar, hix, mIfS, mCmp, mC, pow18, oGe, hg, mFor, mRng1, rng1, lCons, lNil]
theorem mLst_nil (l : Ls) (S : Hs) : mLst lNil l S = .ok (.ref S.length) (S ++ [.lst []]) := by
  have h : ([] : List D).length ≤ sizeLine := Nat.zero_le _
  simp only [mLst, lNil, R.bind_ok]
  rw [if_pos h]
theorem stream_true {x : D} {S : Hs} {ns : List Int} {most : Int} (hx : seqD x S = some (ns.map D.int)) (hl : ns.length ≤ 63) (hm : most ≤ 1000000) :
    ∃ row : List Int, (row.length : Int) ≤ max most 0 ∧ mDef 2 4 (b_stream S_mix) [x, .int most] S = .ok (.ref (S.length + 1)) (S ++ [.lst (row.map D.int), drawsO S.length 0 row.length]) := by
  have outer := range_loop (lo := 0) (n := ns.length) (i := 3) (b := b_str3 S_mix)
    (fun _ l S' => RowAt S most S' ∧ ∃ (o3 o4 o5 : Option D), l = [some x, some (.int most), some (.ref S.length), o3, o4, o5]) (fun k l S' hk h => str3_true hx hm k l S' hk h) ns.length 0 [some x, some (.int most), some (.ref S.length), none, none, none] (S ++ [.lst []]) (by omega) ⟨⟨[], rfl, by simp; omega⟩, none, none, none, rfl⟩
  obtain ⟨l', S', e, ⟨row, rfl, hr⟩, o3, o4, o5, rfl⟩ := outer
  refine ⟨row, hr, ?_⟩
  have hmin : (if (63 : Int) < (ns.length : Int) then (63 : Int) else (ns.length : Int)) = (ns.length : Int) := if_neg (by omega)
  have hlen' : lenD x (S ++ [.lst []]) = some ns.length := by
    have := lenD_seq (seqD_more (g := [.lst []]) hx)
    rwa [List.length_map] at this
  have hb1 : (ns.length : Int) ≤ 1000000000 := by omega
  have hb0 : -1000000000 ≤ (ns.length : Int) := by omega
  have hb : row.length < sizeLine := line_big (by omega)
  have e1 : mFor (mRng1 (lCons (mCall bMin (lCons (mCall bLen (lCons (mVar 0) lNil)) (lCons (mC (.int 63)) lNil))) lNil)) (gN 3) (b_str3 S_mix) [some x, some (.int most), some (.ref S.length), none, none, none] (S ++ [.lst []]) = .ok (.nx [some x, some (.int most), some (.ref S.length), o3, o4, o5]) (S ++ [.lst (row.map D.int)]) := by
    simp only [mFor, mRng1, lCons, mCall, mVar, List.getElem?_cons_zero, lNil, R.bind_ok, bLen, hlen', mC, bMin, hmin, rng1 _ hb0 hb1, Int.toNat_natCast, e]
  simp [mDef, b_stream, mSeq, mSet, mLst_nil, e1, mRet, mDisp, dpCons, dpNil, mC, mVar, mCall, bLen, lCons, lNil, lenD, keysP, D.key, endOf, drawsO, mergeD, setK, drawsK, kRA, kRS, kAS]
end Ly
set_option Elab.async false
set_option linter.all false
set_option maxRecDepth 100000
namespace Ly
open PySem PySem.Spec L2
open PyProof.Rows hiding St
def tx (cs : List Nat) : Str := ⟨⟨cs⟩⟩
@[simp] theorem tx_len (cs : List Nat) : (tx cs).length = cs.length := rfl
@[simp] theorem tx_list (cs : List Nat) : (tx cs).cps.toList = cs := rfl
theorem tx_app (a b : List Nat) : tx a ++ tx b = tx (a ++ b) := by
  show (⟨(⟨a⟩ : Array Nat) ++ (⟨b⟩ : Array Nat)⟩ : Str) = _
  simp [tx]
theorem tx_of (x : Str) : x = tx x.cps.toList := rfl
theorem tx_inj {a b : List Nat} (h : tx a = tx b) : a = b := congrArg (fun z => z.cps.toList) h
@[simp] theorem tx_eq {a b : List Nat} : (tx a = tx b) = (a = b) := propext ⟨tx_inj, fun h => by rw [h]⟩
def posC (c : Nat) : List Nat → Nat → List Nat
  | [], _ => []
  | x :: r, a => if x = c then a :: posC c r (a + 1) else posC c r (a + 1)
theorem occ_run (x : Str) (c limit : Nat) : ∀ (rest : List Nat) (a : Nat) (fd : Array Nat) (fr : Nat), x.cps.toList.drop a = rest → a ≤ x.length → fr ≤ a → fd.size ≤ limit →
    (forIn (List.range' a (x.length + 1 - a)) (fd, fr) (StrLaws.occBody x ⟨#[c]⟩ x.length limit)).run.fst.toList = fd.toList ++ (posC c rest a).take (limit - fd.size)
  | [], a, fd, fr, h, ha, hf, hs => by
    have hl : x.length ≤ a := by
      have := congrArg List.length h
      simp [Str.length] at this ⊢
      omega
    have e : x.length + 1 - a = 1 := by omega
    rw [e, List.range'_one, List.forIn_cons]
    unfold StrLaws.occBody
    have hn : ¬ (((fd.size < limit ∧ fr ≤ a) ∧ a + (⟨#[c]⟩ : Str).length ≤ x.length) ∧ Builtin.Str.subAt x ⟨#[c]⟩ a = true) := by
      intro hh
      have : (⟨#[c]⟩ : Str).length = 1 := rfl
      omega
    rw [if_neg hn]
    simp [posC]
  | y :: r, a, fd, fr, h, ha, hf, hs => by
    have hy : x.cps.toList[a]? = some y := by
      have : (x.cps.toList.drop a)[0]? = some y := by rw [h]; rfl
      rw [List.getElem?_drop] at this
      simpa using this
    have hlt : a < x.length := by
      obtain ⟨q, _⟩ := List.getElem?_eq_some_iff.mp hy
      simpa [Str.length] using q
    have hd : x.cps.toList.drop (a + 1) = r := by
      rw [← List.drop_drop, h]; rfl
    have e : x.length + 1 - a = (x.length + 1 - (a + 1)) + 1 := by omega
    rw [e, List.range'_succ, List.forIn_cons]
    unfold StrLaws.occBody
    by_cases hc : y = c
    · subst hc
      have hsub := (StrLaws.subAt_one x y a).mpr hy
      by_cases hsz : fd.size < limit
      · rw [if_pos ⟨⟨⟨hsz, hf⟩, hsub.1⟩, hsub.2⟩]
        show (forIn (List.range' (a + 1) (x.length + 1 - (a + 1))) (fd.push a, a + 1) (StrLaws.occBody x ⟨#[y]⟩ x.length limit)).run.fst.toList = _
        rw [occ_run x y limit r (a + 1) (fd.push a) (a + 1) hd (by omega) (by omega) (by simp; omega)]
        have e2 : limit - fd.size = (limit - (fd.size + 1)) + 1 := by omega
        simp [posC, e2]
      · rw [if_neg (fun hh => hsz hh.1.1.1)]
        show (forIn (List.range' (a + 1) (x.length + 1 - (a + 1))) (fd, fr) (StrLaws.occBody x ⟨#[y]⟩ x.length limit)).run.fst.toList = _
        rw [occ_run x y limit r (a + 1) fd fr hd (by omega) (by omega) (by omega)]
        have e2 : limit - fd.size = 0 := by omega
        simp [e2]
    · rw [if_neg (fun hh => hc (by
        have := (StrLaws.subAt_one x c a).mp ⟨hh.1.2, hh.2⟩
        rw [hy] at this; exact Option.some.inj this))]
      show (forIn (List.range' (a + 1) (x.length + 1 - (a + 1))) (fd, fr) (StrLaws.occBody x ⟨#[c]⟩ x.length limit)).run.fst.toList = _
      rw [occ_run x c limit r (a + 1) fd fr hd (by omega) (by omega) (by omega)]
      simp [posC, hc]
theorem occ_pos (cs : List Nat) (c a limit : Nat) (ha : a ≤ cs.length) : Builtin.Str.occurrences (tx cs) ⟨#[c]⟩ a cs.length limit = (posC c (cs.drop a) a).take limit := by
  rw [StrLaws.occ_eq]
  have := occ_run (tx cs) c limit (cs.drop a) a #[] a rfl ha (Nat.le_refl _) (Nat.zero_le _)
  simpa using this
theorem posC_len (c : Nat) : ∀ (cs : List Nat) (a : Nat), (posC c cs a).length = cs.count c
  | [], _ => rfl
  | x :: r, a => by
    by_cases h : x = c
    · simp [posC, h, posC_len c r (a + 1)]
    · simp [posC, h, posC_len c r (a + 1), List.count_cons, h]
theorem count_tx (cs : List Nat) (c : Nat) : Txt.count (tx cs) ⟨#[c]⟩ = (cs.count c : Int) := by
  have h : Txt.count (tx cs) ⟨#[c]⟩ = ((Builtin.Str.occurrences (tx cs) ⟨#[c]⟩ 0 cs.length (cs.length + 1)).length : Int) := rfl
  rw [h, occ_pos cs c 0 _ (Nat.zero_le _), List.drop_zero, List.length_take, posC_len]
  have := List.count_le_length (a := c) (l := cs)
  omega
def firstC (c : Nat) : List Nat → Nat → Option Nat
  | [], _ => none
  | x :: r, a => if x = c then some a else firstC c r (a + 1)
theorem posC_head (c : Nat) : ∀ (cs : List Nat) (a : Nat), (posC c cs a).head? = firstC c cs a
  | [], _ => rfl
  | x :: r, a => by
    by_cases h : x = c
    · simp [posC, h, firstC]
    · simp [posC, h, firstC, posC_head c r (a + 1)]
theorem from_nat {n a : Nat} (h : a ≤ n) : fromIndex n (a : Int) = a := by
  unfold fromIndex
  split <;> omega
theorem find3_tx (cs : List Nat) (c a : Nat) (ha : a ≤ cs.length) : Txt.find3 (tx cs) ⟨#[c]⟩ (a : Int) = (match firstC c (cs.drop a) a with | some i => (i : Int) | none => -1) := by
  have h : Txt.find3 (tx cs) ⟨#[c]⟩ (a : Int) = (match Builtin.Str.occurrences (tx cs) ⟨#[c]⟩ (fromIndex cs.length (a : Int)) cs.length 1 with | k :: _ => (k : Int) | [] => -1) := rfl
  rw [h, from_nat ha, occ_pos cs c a 1 ha, ← posC_head]
  cases posC c (cs.drop a) a <;> simp
def behC (c : Nat) : List Nat → Nat → Nat → Nat
  | [], _, e => e
  | x :: r, a, e => behC c r (a + 1) (if x = c then a + 1 else e)
theorem behC_app (c : Nat) : ∀ (xs ys : List Nat) (a e : Nat), behC c (xs ++ ys) a e = behC c ys (a + xs.length) (behC c xs a e)
  | [], ys, a, e => by simp [behC]
  | x :: r, ys, a, e => by
    simp only [List.cons_append, behC, List.length_cons]
    rw [behC_app c r ys (a + 1), Nat.add_assoc, Nat.add_comm 1]
def lastBody (s sub : Str) (hi : Nat) (i : Nat) (st : Option Nat) : Id (ForInStep (Option Nat)) :=
  if i + sub.length ≤ hi ∧ Builtin.Str.subAt s sub i = true then pure (ForInStep.yield (some i)) else pure (ForInStep.yield st)
theorem last_eq (s sub : Str) (hi : Nat) : Builtin.Str.lastOccurrence s sub 0 hi = (forIn (List.range' 0 (hi + 1)) (none : Option Nat) (lastBody s sub hi)).run := by
  unfold Builtin.Str.lastOccurrence lastBody
  simp
def upO (e : Nat) : Option Nat := if e = 0 then none else some (e - 1)
theorem last_run (x : Str) (c : Nat) : ∀ (rest : List Nat) (a e : Nat), x.cps.toList.drop a = rest → a ≤ x.length →
    (forIn (List.range' a (x.length + 1 - a)) (upO e) (lastBody x ⟨#[c]⟩ x.length)).run = upO (behC c rest a e)
  | [], a, e, h, ha => by
    have hl : x.length ≤ a := by
      have := congrArg List.length h
      simp [Str.length] at this ⊢
      omega
    have e1 : x.length + 1 - a = 1 := by omega
    rw [e1, List.range'_one, List.forIn_cons]
    unfold lastBody
    have hn : ¬ (a + (⟨#[c]⟩ : Str).length ≤ x.length ∧ Builtin.Str.subAt x ⟨#[c]⟩ a = true) := by
      intro hh
      have : (⟨#[c]⟩ : Str).length = 1 := rfl
      omega
    rw [if_neg hn]
    simp [behC]
  | y :: r, a, e, h, ha => by
    have hy : x.cps.toList[a]? = some y := by
      have : (x.cps.toList.drop a)[0]? = some y := by rw [h]; rfl
      rw [List.getElem?_drop] at this
      simpa using this
    have hlt : a < x.length := by
      obtain ⟨q, _⟩ := List.getElem?_eq_some_iff.mp hy
      simpa [Str.length] using q
    have hd : x.cps.toList.drop (a + 1) = r := by
      rw [← List.drop_drop, h]; rfl
    have e1 : x.length + 1 - a = (x.length + 1 - (a + 1)) + 1 := by omega
    rw [e1, List.range'_succ, List.forIn_cons]
    unfold lastBody
    by_cases hc : y = c
    · subst hc
      rw [if_pos ((StrLaws.subAt_one x y a).mpr hy)]
      show (forIn (List.range' (a + 1) (x.length + 1 - (a + 1))) (upO (a + 1)) (lastBody x ⟨#[y]⟩ x.length)).run = _
      rw [last_run x y r (a + 1) (a + 1) hd (by omega)]
      simp [behC]
    · rw [if_neg (fun hh => hc (by
        have := (StrLaws.subAt_one x c a).mp hh
        rw [hy] at this; exact Option.some.inj this))]
      show (forIn (List.range' (a + 1) (x.length + 1 - (a + 1))) (upO e) (lastBody x ⟨#[c]⟩ x.length)).run = _
      rw [last_run x c r (a + 1) e hd (by omega)]
      simp [behC, hc]
theorem rfind_tx (cs : List Nat) (c : Nat) : Txt.rfind (tx cs) ⟨#[c]⟩ = (behC c cs 0 0 : Int) - 1 := by
  have h : Txt.rfind (tx cs) ⟨#[c]⟩ = (match Builtin.Str.lastOccurrence (tx cs) ⟨#[c]⟩ 0 cs.length with | some i => (i : Int) | none => -1) := rfl
  have e := last_run (tx cs) c cs 0 0 rfl (Nat.zero_le _)
  rw [h, last_eq]
  have e' : (forIn (List.range' 0 (cs.length + 1)) (none : Option Nat) (lastBody (tx cs) ⟨#[c]⟩ cs.length)).run = upO (behC c cs 0 0) := e
  rw [e']
  unfold upO
  split
  · rename_i q; split at q
    · cases q
    · cases q
      rename_i hz
      have h1 : 1 ≤ behC c cs 0 0 := Nat.one_le_iff_ne_zero.mpr hz
      exact Int.ofNat_sub h1
  · rename_i q; split at q
    · rename_i hz; rw [hz]; rfl
    · cases q
theorem behC_le (c : Nat) : ∀ (cs : List Nat) (a e : Nat), e ≤ a → behC c cs a e ≤ a + cs.length
  | [], a, e, h => by simpa [behC] using h
  | x :: r, a, e, h => by
    have := behC_le c r (a + 1) (if x = c then a + 1 else e) (by split <;> omega)
    simp only [behC, List.length_cons]
    omega
theorem ix_tx {cs : List Nat} {i c : Nat} {S : Hs} (h : cs[i]? = some c) (hl : cs.length ≤ sizeLine) : oIx (.str (tx cs)) (.int (i : Int)) S = .ok (.str (tx [c])) S := by
  have hlt : i < cs.length := (List.getElem?_eq_some_iff.mp h).1
  have ha : L2.atI cs (i : Int) = some c := by rw [atI_nat (by omega) (by omega)]; simpa using h
  have hl' : (tx cs).length ≤ sizeLine := hl
  simp only [oIx]
  rw [if_pos hl', tx_list, ha]
  rfl
theorem sl_tx {cs : List Nat} {a b : Nat} {S : Hs} (ha : a ≤ b) (hl : cs.length ≤ sizeLine) : oSl (.str (tx cs)) (some (a : Int)) (some (b : Int)) S = .ok (.str (tx ((cs.drop a).take (b - a)))) S := by
  have hl' : (tx cs).length ≤ sizeLine := hl
  simp only [oSl]
  rw [if_pos hl']
  have e : cutS (tx cs) (some (a : Int)) (some (b : Int)) = tx ((cs.drop a).take (b - a)) := by
    show tx _ = tx _
    simp only [HT.sIx, tx_len, tx_list, Int.toNat_natCast]
    rw [if_neg (by omega), if_neg (by omega)]
    by_cases h1 : a ≤ cs.length
    · rw [Nat.min_eq_left h1]
      by_cases h2 : b ≤ cs.length
      · rw [Nat.min_eq_left h2]
      · rw [Nat.min_eq_right (by omega)]
        rw [List.take_of_length_le (i := b - a) (by simp; omega), List.take_of_length_le (by simp)]
    · rw [Nat.min_eq_right (by omega : cs.length ≤ a), List.drop_of_length_le (Nat.le_refl _), List.drop_of_length_le (by omega : cs.length ≤ a)]; simp
  rw [e]
theorem add_tx {a b : List Nat} {S : Hs} (h : a.length + b.length ≤ sizeLine) : oAdd (.str (tx a)) (.str (tx b)) S = .ok (.str (tx (a ++ b))) S := by
  have h' : (tx a).length + (tx b).length ≤ sizeLine := h
  simp only [oAdd]
  rw [if_pos h', tx_app]
mutual
def D.plain : D → Bool
  | .non => true
  | .bl _ => true
  | .int _ => true
  | .str x => PyData.strOk x
  | .tup ds => D.plains ds
  | .wt ds => D.plains ds
  | _ => false
def D.plains : List D → Bool
  | [] => true
  | d :: ds => D.plain d && D.plains ds
end
mutual
def D.toP : D → PyData
  | .non => .none
  | .bl b => .bool b
  | .int i => .int i
  | .str x => .str x
  | .tup ds => .tuple (D.toPs ds)
  | .wt ds => .tuple (D.toPs ds)
  | _ => .none
def D.toPs : List D → List PyData
  | [] => []
  | d :: ds => D.toP d :: D.toPs ds
end
mutual
theorem D.pd_plain (S : Hs) : ∀ (d : D) (k : Nat), d.plain = true → 2 * d.toP.depth < k → D.pd S k d = some d.toP
  | d, 0, _, h => absurd h (Nat.not_lt_zero _)
  | .non, k + 1, _, _ => by rw [D.pd, D.toP]
  | .bl _, k + 1, _, _ => by rw [D.pd, D.toP]
  | .int _, k + 1, _, _ => by rw [D.pd, D.toP]
  | .str _, k + 1, _, _ => by rw [D.pd, D.toP]
  | .tup ds, k + 1, h, hk => by
    rw [D.pd, D.toP, D.pds_plain S ds k (by simpa [D.plain] using h) (by simp [D.toP, PyData.depth] at hk; omega)]; rfl
  | .wt ds, k + 1, h, hk => by
    rw [D.pd, D.toP, D.pds_plain S ds k (by simpa [D.plain] using h) (by simp [D.toP, PyData.depth] at hk; omega)]; rfl
  | .wl _, _ + 1, h, _ => by simp [D.plain] at h
  | .ref _, _ + 1, h, _ => by simp [D.plain] at h
  | .cst _, _ + 1, h, _ => by simp [D.plain] at h
theorem D.pds_plain (S : Hs) : ∀ (ds : List D) (k : Nat), D.plains ds = true → 2 * PyData.depthAll (D.toPs ds) + 1 < k → D.pds S k ds = some (D.toPs ds)
  | [], k, _, _ => by cases k <;> simp [D.pds, D.toPs]
  | d :: ds, 0, _, h => absurd h (Nat.not_lt_zero _)
  | d :: ds, k + 1, h, hk => by
    simp only [D.plains, Bool.and_eq_true] at h
    simp only [D.toPs, PyData.depthAll] at hk
    rw [D.pds, D.pd_plain S d k h.1 (by omega), D.pds_plain S ds (k + 1) h.2 (by omega), D.toPs]
end
mutual
theorem D.lay_plain : ∀ (d : D), d.plain = true → d.toP.canLay0 = true
  | .non, _ => by simp [D.toP, PyData.canLay0]
  | .bl _, _ => by simp [D.toP, PyData.canLay0]
  | .int _, _ => by simp [D.toP, PyData.canLay0]
  | .str x, h => by simpa [D.toP, PyData.canLay0, D.plain] using h
  | .tup ds, h => by
    rw [D.toP, PyData.canLay0]; exact D.lays_plain ds (by simpa [D.plain] using h)
  | .wt ds, h => by
    rw [D.toP, PyData.canLay0]; exact D.lays_plain ds (by simpa [D.plain] using h)
  | .wl _, h => by simp [D.plain] at h
  | .ref _, h => by simp [D.plain] at h
  | .cst _, h => by simp [D.plain] at h
theorem D.lays_plain : ∀ (ds : List D), D.plains ds = true → PyData.canLayAll0 (D.toPs ds) = true
  | [], _ => by simp [D.toPs, PyData.canLayAll0]
  | d :: ds, h => by
    simp only [D.plains, Bool.and_eq_true] at h
    simp [D.toPs, PyData.canLayAll0, D.lay_plain d h.1, D.lays_plain ds h.2]
end
theorem cEqD_same {x y : D} {S : Hs} {a : PyData} (e : cEqS x y = none) (hx : D.pd S 70 x = some a) (hy : D.pd S 70 y = some a) (hs : SeqAt.shaped a = true) : cEqD x y S = some true := by
  unfold cEqD
  rw [e, hx, hy]
  simp only []
  have h : a.canLay0 = true := by
    simp only [SeqAt.shaped, Bool.and_eq_true] at hs; exact hs.1
  rw [if_pos ⟨hs, hs⟩, PySem.SeqAt.eqv_refl a h]
theorem pd_tup {S : Hs} {xs : List D} (hp : D.plains xs = true) (hd : PyData.depthAll (D.toPs xs) ≤ 30) : D.pd S 70 (.tup xs) = some (.tuple (D.toPs xs)) ∧ SeqAt.shaped (.tuple (D.toPs xs)) = true := by
  refine ⟨?_, ?_⟩
  · rw [D.pd, D.pds_plain S xs 69 hp (by omega)]; rfl
  · show (_ && _) = true
    rw [Bool.and_eq_true]
    refine ⟨by rw [PyData.canLay0]; exact D.lays_plain xs hp, decide_eq_true ?_⟩
    rw [PyData.depth]
    omega
end Ly
set_option Elab.async false
set_option linter.all false
set_option maxRecDepth 100000
namespace Ly
open PySem PySem.Spec L2
open PyProof.Rows hiding St
theorem nr {α : Type} {a b : α} (h : a = b) : a = b := h.trans (Eq.refl _)
section
variable {f g h : M} {fl : ML} {fm : MO} {c c2 : MB} {b b2 : MS} {gg : MG} {gs : MGs} {l : Ls} {S : Hs} {i n : Nat} {d : D} {ds : List D} {md : MD} {op2 : D → D → Hs → R D} {op1 : D → Hs → R D} {opn : List D → Hs → R D} {opm : D → List D → Hs → R D} {T : String} {it : MI} {mp : MP} {lo hi : MO}
theorem ap_bin : mBin op2 f g l S = (f l S).bind fun x S1 => (g l S1).bind fun y S2 => op2 x y S2 := nr rfl
theorem ap_var : mVar i l S = match l[i]? with | some (some d) => .ok d S | _ => .bad := nr rfl
theorem ap_c : mC d l S = .ok d S := nr rfl
theorem ap_un : mUn op1 f l S = (f l S).bind op1 := nr rfl
theorem ap_cmp : mCmp op2 f g l S = (f l S).bind fun x S1 => (g l S1).bind fun y S2 => (op2 x y S2).bind fun d S3 => match d with
  | .bl b => .ok b S3
  | _ => .bad := nr rfl
theorem ap_nil : lNil l S = .ok [] S := nr rfl
theorem ap_cons : lCons f fl l S = (f l S).bind fun x S1 => (fl l S1).bind fun xs S2 => .ok (x :: xs) S2 := nr rfl
theorem ap_tru : mTru f l S = (f l S).bind oTru := nr rfl
theorem ap_notB : mNotB c l S = (c l S).bind fun b S1 => .ok (!b) S1 := nr rfl
theorem ap_andB : mAndB c c2 l S = (c l S).bind fun b S1 => if b = true then c2 l S1 else .ok false S1 := nr rfl
theorem ap_orB : mOrB c c2 l S = (c l S).bind fun b S1 => if b = true then .ok true S1 else c2 l S1 := nr rfl
theorem ap_and : mAnd f g l S = (f l S).bind fun x S1 => (oTru x S1).bind fun b S2 => if b = true then g l S2 else .ok x S2 := nr rfl
theorem ap_or : mOr f g l S = (f l S).bind fun x S1 => (oTru x S1).bind fun b S2 => if b = true then .ok x S2 else g l S2 := nr rfl
theorem ap_if : mIf c f g l S = (c l S).bind fun b S1 => if b = true then f l S1 else g l S1 := nr rfl
theorem ap_no : oNo l S = .ok none S := nr rfl
theorem ap_some : oSome f l S = (f l S).bind fun d S1 => match d with
  | .int i => .ok (some i) S1
  | _ => .bad := nr rfl
theorem ap_sl : mSl f lo hi l S = (f l S).bind fun x S1 => (lo l S1).bind fun a S2 => (hi l S2).bind fun b S3 => oSl x a b S3 := nr rfl
theorem ap_tup : mTup fl l S = (fl l S).bind fun ds S1 => if ds.length ≤ sizeLine then .ok (.tup ds) S1 else .bad := nr rfl
theorem ap_lst : mLst fl l S = (fl l S).bind fun ds S1 => if ds.length ≤ sizeLine then .ok (.ref S1.length) (S1 ++ [.lst ds]) else .bad := nr rfl
theorem ap_call : mCall opn fl l S = (fl l S).bind opn := nr rfl
theorem ap_bm : mBM T opm f fl l S = (f l S).bind fun x S1 => if hasTy T x S1 = true then (fl l S1).bind fun ds S2 => opm x ds S2 else .bad := nr rfl
theorem ap_set : mSet i f l S = (f l S).bind fun d S1 => .ok (.nx (l.set i (some d))) S1 := nr rfl
theorem ap_expr : mExpr f l S = (f l S).bind fun _ S1 => .ok (.nx l) S1 := nr rfl
theorem ap_ret : mRet f l S = (f l S).bind fun d S1 => .ok (.rt d) S1 := nr rfl
theorem ap_retN : mRetN l S = .ok (.rt .non) S := nr rfl
theorem ap_pass : mPass l S = .ok (.nx l) S := nr rfl
theorem ap_brk : mBrk l S = .ok (.bk l) S := nr rfl
theorem ap_cnt : mCnt l S = .ok (.ct l) S := nr rfl
theorem ap_seq : mSeq b b2 l S = (b l S).bind fun r S1 => match r with
  | .nx l1 => b2 l1 S1
  | r => .ok r S1 := nr rfl
theorem ap_ifS : mIfS c b b2 l S = (c l S).bind fun t S1 => if t = true then b l S1 else b2 l S1 := nr rfl
theorem ap_fn : mFn md fl l S = (fl l S).bind fun ds S1 => (md ds S1).at l := nr rfl
theorem ap_gN : gN i d l S = .ok (l.set i (some d)) S := nr rfl
theorem ap_gsN : gsN [] l S = .ok l S := nr rfl
theorem ap_gsC : gsC gg gs (d :: ds) l S = (gg d l S).bind fun l1 S1 => gs ds l1 S1 := nr rfl
theorem ap_gT : gT n gs (.tup ds) l S = if ds.length = n then gs ds l S else .bad := nr rfl
theorem ap_asg : mAsg f gg l S = (f l S).bind fun d S1 => (gg d l S1).bind fun l1 S2 => .ok (.nx l1) S2 := nr rfl
theorem ap_gSb : gSb f g d l S = (f l S).bind fun x S1 => (g l S1).bind fun y S2 => (oSet x y d S2).bind fun _ S3 => .ok l S3 := nr rfl
theorem ap_aug : mAug i op2 f l S = match l[i]? with
  | some (some x) => (f l S).bind fun y S1 => (op2 x y S1).bind fun d S2 => .ok (.nx (l.set i (some d))) S2
  | _ => .bad := nr rfl
theorem ap_it : mIt f l S = (f l S).bind oIt := nr rfl
theorem ap_rng1 : mRng1 fl l S = (fl l S).bind oRng1 := nr rfl
theorem ap_rng2 : mRng2 fl l S = (fl l S).bind oRng2 := nr rfl
theorem ap_enum : mEnum fl l S = (fl l S).bind oEnum := nr rfl
theorem ap_zip : mZip fl l S = (fl l S).bind oZip := nr rfl
theorem ap_for : mFor it gg b l S = (it l S).bind fun j S1 => fLoop j gg b 0 l S1 := nr rfl
theorem ap_yes : mYes l S = .ok true S := nr rfl
end
theorem set_same {S : Hs} {i : Nat} {o : O} (h : S[i]? = some o) : S.set i o = S := by
  obtain ⟨hlt, rfl⟩ := List.getElem?_eq_some_iff.mp h
  exact List.set_getElem_self hlt
def DrwA (S : Hs) (i j : Nat) (row : List Int) (sd : Int) : Prop := ∃ a, Drw S i j row a sd
def Upd (i j : Nat) (sd : Int) (S S' : Hs) : Prop := ∃ a g, 0 ≤ a ∧ S' = S.set i (drawsO j a sd) ++ g
section
variable {i j : Nat} {row : List Int} {sd : Int} {S S1 S2 g : Hs}
theorem Upd.refl (h : DrwA S i j row sd) : Upd i j sd S S := by
  obtain ⟨a, h⟩ := h
  exact ⟨a, [], h.nn, by rw [set_same h.d]; simp⟩
theorem Upd.trans (h : DrwA S i j row sd) (u : Upd i j sd S S1) (v : Upd i j sd S1 S2) : Upd i j sd S S2 := by
  obtain ⟨_, h⟩ := h
  obtain ⟨a, g, ha, rfl⟩ := u
  obtain ⟨b, g', hb, rfl⟩ := v
  have hi : i < S.length := Real.lt h.d
  refine ⟨b, g ++ g', hb, ?_⟩
  rw [List.set_append_left _ _ (by simpa using hi), List.set_set, List.append_assoc]
theorem Upd.app (u : Upd i j sd S S1) : Upd i j sd S (S1 ++ g) := by
  obtain ⟨a, g', ha, rfl⟩ := u
  exact ⟨a, g' ++ g, ha, by rw [List.append_assoc]⟩
theorem Upd.new (h : DrwA S i j row sd) : Upd i j sd S (S ++ g) := (Upd.refl h).app
theorem Upd.get (u : Upd i j sd S S1) {k : Nat} {o : O} (h : S[k]? = some o) (hk : k ≠ i) : S1[k]? = some o := by
  obtain ⟨a, g', ha, rfl⟩ := u
  have hl : k < S.length := Real.lt h
  rw [List.getElem?_append_left (by simpa using hl), List.getElem?_set_ne (Ne.symm hk), h]
theorem Upd.drw (h : DrwA S i j row sd) (u : Upd i j sd S S1) : DrwA S1 i j row sd := by
  obtain ⟨_, h⟩ := h
  have hr := u.get h.r (Ne.symm h.ne)
  obtain ⟨a, g', ha, rfl⟩ := u
  have hi : i < S.length := Real.lt h.d
  exact ⟨a, by rw [List.getElem?_append_left (by simpa using hi)]; exact get_put h.d, hr, h.ne, ha⟩
theorem Upd.le (u : Upd i j sd S S1) : S.length ≤ S1.length := by
  obtain ⟨a, g', ha, rfl⟩ := u
  simp
theorem pick_ok (h : DrwA S i j row sd) {many : Int} (hm : 0 < many) : ∃ v S', S_pick [.ref i, .int many] S = .ok (.int v) S' ∧ Upd i j sd S S' ∧ 0 ≤ v ∧ v < many := by
  obtain ⟨a, h⟩ := h
  refine ⟨_, _, S_pick_eq h hm, ⟨a + 1, [], by have := h.nn; omega, by simp⟩, ?_, ?_⟩
  · exact Int.emod_nonneg _ (by omega)
  · exact Int.emod_lt_of_pos _ hm
theorem choose_val (h : DrwA S i j row sd) (ds : List D) {many : Int} (hn : (ds.length : Int) = many) (hm : 0 < many) :
    ∃ d v S', S_pick [.ref i, .int many] (S ++ [.lst ds]) = .ok (.int v) S' ∧ oIx (.ref S.length) (.int v) S' = .ok d S' ∧ Upd i j sd S S' ∧ d ∈ ds := by
  have u0 : Upd i j sd S (S ++ [.lst ds]) := Upd.new h
  obtain ⟨v, S', e, u, h1, h2⟩ := pick_ok (u0.drw h) hm
  have hi : i < S.length := by obtain ⟨_, h⟩ := h; exact Real.lt h.d
  have hg : S'[S.length]? = some (.lst ds) := u.get get_end (by omega)
  have hv : v.toNat < ds.length := by omega
  have ha : L2.atI ds v = some ds[v.toNat] := by rw [atI_nat h1 (by omega), List.getElem?_eq_getElem hv]
  exact ⟨ds[v.toNat], v, S', e, by simp only [oIx, hg, ha], u0.trans h u, List.getElem_mem hv⟩
theorem line_le {n : Nat} (h : n ≤ 1000000) : n ≤ sizeLine := Nat.le_trans h (by decide)
end
theorem oAdd_int {a b : Int} {S : Hs} : oAdd (.int a) (.int b) S = .ok (.int (a + b)) S := nr rfl
theorem oSub_int {a b : Int} {S : Hs} : oSub (.int a) (.int b) S = .ok (.int (a - b)) S := nr rfl
theorem oEq_int {a b : Int} {S : Hs} : oEq (.int a) (.int b) S = .ok (.bl (decide (a = b))) S := nr rfl
theorem of_strs {xs : List Str} {d : D} (h : d ∈ xs.map D.str) : ∃ x ∈ xs, d = .str x := by
  rw [List.mem_map] at h
  obtain ⟨x, h1, h2⟩ := h
  exact ⟨x, h1, h2.symm⟩
end Ly
set_option Elab.async false
set_option linter.all false
set_option maxRecDepth 100000
namespace Ly
open PySem PySem.Spec L2
open PyProof.Rows hiding St
abbrev XP := V → Option (List (Str × D)) → Ls → Hs → Prop
def WpD {α : Type} (X : XP) (r : R α) (Q : α → Hs → Prop) : Prop := match r with
  | .ok a S => Q a S
  | .exc c fs l S => X c fs l S
  | .bad => False
structure Wp {α : Type} (X : XP) (r : R α) (Q : α → Hs → Prop) : Prop where
  un : WpD X r Q
def NoX : XP := fun _ _ _ _ => False
theorem Wp.mono {α : Type} {X X' : XP} {r : R α} {P Q : α → Hs → Prop} (h : Wp X r P) (hx : ∀ c fs l S, X c fs l S → X' c fs l S) (k : ∀ v S, P v S → Q v S) : Wp X' r Q := by
  cases r with
  | ok a S => exact ⟨k a S h.un⟩
  | exc c fs l S => exact ⟨hx c fs l S h.un⟩
  | bad => exact h.un.elim
theorem Wp.call {α : Type} {X : XP} {r : R α} {P Q : α → Hs → Prop} (h : Wp NoX r P) (k : ∀ v S, P v S → Q v S) : Wp X r Q := h.mono (fun _ _ _ _ h => h.elim) k
theorem Wp.ex {α : Type} {r : R α} {P : α → Hs → Prop} (h : Wp NoX r P) : ∃ v S, r = .ok v S ∧ P v S := by
  cases r with
  | ok a S => exact ⟨a, S, rfl, h.un⟩
  | exc c fs l S => exact h.un.elim
  | bad => exact h.un.elim
theorem Wp.of {α : Type} {X : XP} {r : R α} {P : α → Hs → Prop} {v : α} {S : Hs} (e : r = .ok v S) (h : P v S) : Wp X r P := by rw [e]; exact ⟨h⟩
section
variable {α β : Type} {X : XP}
end
section
variable {X : XP} {f g h : M} {fl : ML} {c c2 : MB} {b b2 : MS} {gg : MG} {gs : MGs} {l : Ls} {S : Hs} {i n : Nat} {d x y : D} {ds : List D} {md : MD} {op2 : D → D → Hs → R D} {op1 : D → Hs → R D} {opn : List D → Hs → R D} {opm : D → List D → Hs → R D} {T : String} {it : MI} {lo hi : MO} {t : Bool}
section
variable {Q : D → Hs → Prop}
variable {oa ob : Option Int}
variable {tbl : List (Str × D)}
end
section
variable {Q : List D → Hs → Prop}
end
section
variable {Q : Option Int → Hs → Prop}
end
section
variable {Q : Bool → Hs → Prop}
variable {tbl : List (Str × D)}
end
section
variable {Q : F → Hs → Prop} {l1 : Ls}
end
section
variable {Q : J → Hs → Prop}
variable {op : List D → Hs → R J}
end
section
variable {Q : Ls → Hs → Prop}
end
end
section
variable {X : XP} {f g h : M} {l : Ls} {S : Hs} {op2 : D → D → Hs → R D} {x y z : D} {it : MI} {gl : CG} {tt : MB} {tk tv : M} {vs : List Nat}
section
variable {Q : F → Hs → Prop}
end
variable {Q : D → Hs → Prop}
variable {op3 : D → D → D → Hs → R D}
variable {opr : Int → Int → Hs → R D}
end
section
variable {X : XP} {I : Ls → Hs → Prop} {Q : F → Hs → Prop} {l : Ls} {S : Hs} {d : D}
end
section
variable {X : XP} {Q : D → Hs → Prop} {l : Ls} {S : Hs} {j : J} {gl : CG} {tt : MB} {te : M} {it : MI} {vs : List Nat}
end
def Kp (X : List Nat) (S S' : Hs) : Prop := S.length ≤ S'.length ∧ ∀ i, i < S.length → i ∉ X → S'[i]? = S[i]?
section
variable {A B : List Nat} {S S1 S2 g : Hs} {i n : Nat} {o : O}
theorem Kp.refl : Kp A S S := ⟨Nat.le_refl _, fun _ _ _ => rfl⟩
theorem Kp.trans (a : Kp A S S1) (b : Kp A S1 S2) : Kp A S S2 := ⟨Nat.le_trans a.1 b.1, fun i h hn => (b.2 i (Nat.lt_of_lt_of_le h a.1) hn).trans (a.2 i h hn)⟩
theorem Kp.sub (a : Kp A S S1) (h : ∀ i ∈ A, i < S.length → i ∈ B) : Kp B S S1 := ⟨a.1, fun i hi hn => a.2 i hi fun hm => hn (h i hm hi)⟩
theorem Kp.le (a : Kp A S S1) : S.length ≤ S1.length := a.1
theorem Kp.get (a : Kp A S S1) (h : S[i]? = some o) (hn : i ∉ A) : S1[i]? = some o := (a.2 i (Real.lt h) hn).trans h
theorem Kp.new : Kp A S (S ++ g) := ⟨by simp, fun i h _ => List.getElem?_append_left h⟩
theorem Kp.app (a : Kp A S S1) : Kp A S (S1 ++ g) := a.trans Kp.new
theorem Kp.set (h : i ∈ A) : Kp A S (S.set i o) := ⟨by simp, fun k hk hn => List.getElem?_set_ne (fun e => by subst e; exact hn h)⟩
theorem Kp.seqAt (a : Kp A S S1) {ds : List D} (h : seqAt S i = some ds) (hn : i ∉ A) : Ly.seqAt S1 i = some ds := by
  unfold Ly.seqAt seqD at h ⊢
  simp only at h ⊢
  split at h
  · rename_i q; rw [a.get q hn]; exact h
  · rename_i q; rw [a.get q hn]; exact h
  · cases h
end
end Ly
set_option Elab.async false
set_option linter.all false
set_option maxRecDepth 100000
namespace Ly
open PySem PySem.Spec L2
open PyProof.Rows hiding St
section
variable {X : XP} {Q : F → Hs → Prop} {l : Ls} {S : Hs} {α : Type} (f : α → D) {xs : List α}
variable {P : D → Hs → Prop} {gl : CG} {tt : MB} {te : M}
end
end Ly
set_option Elab.async false
set_option linter.all false
set_option maxRecDepth 100000
namespace Ly
open PySem PySem.Spec L2
open PyProof.Rows hiding St
section
variable {X : XP} {Q : D → Hs → Prop} {h : MP} {l : Ls} {S : Hs}
variable {Q : List (D × D) → Hs → Prop} {f g : M}
end
section
variable {X : XP} {cs : List Addr} {f m : Str} {o e : M} {l : Ls} {S S1 : Hs} {i : Nat} {C : Addr} {fs : List (Str × D)} {d x y : D} {ds : List D} {g : ML} {md : MD} {tbl : List (Addr × MD)} {op : D → D → Hs → R D}
section
variable {Q : D → Hs → Prop}
end
section
variable {Q : F → Hs → Prop}
end
end
end Ly
set_option Elab.async false
set_option linter.all false
set_option maxRecDepth 100000
namespace Ly
open PySem PySem.Spec L2
open PyProof.Rows hiding St
section
variable {K : PySem.W.Frag} {E : St → XK}
end
section
variable {X : Cx} {E : St → XK} {e o : Expr} {f g : M} {fl : ML} {p pos apos cpos : Pos}
end
section
variable {X : XP} {f g : M} {l : Ls} {S : Hs} {x y : D} {Q : D → Hs → Prop}
end
end Ly
set_option Elab.async false
set_option linter.all false
set_option maxRecDepth 100000
set_option maxHeartbeats 4000000
namespace Ly
open PySem PySem.Spec L2
open PyProof.Rows hiding St
section
variable {X : Cx}
end
section
variable {X : Cx} {E : St → XK} {a b : Expr} {f g : M} {pos : Pos}
end
section
variable {X : XP} {op op' : D → D → Hs → R D} {f g h : M} {l : Ls} {S : Hs} {x y z d : D} {Q : Bool → Hs → Prop}
end
end Ly
set_option Elab.async false
set_option linter.all false
set_option maxRecDepth 100000
set_option maxHeartbeats 4000000
namespace Ly
open PySem PySem.Spec L2
open PyProof.Rows hiding St
section
variable {X : Cx}
end
section
variable {X : Cx} {E : St → XK} {e : Expr} {f : M} {p p2 pos pos2 : Pos}
end
end Ly
set_option Elab.async false
set_option linter.all false
set_option maxRecDepth 100000
set_option maxHeartbeats 4000000
namespace Ly
open PySem PySem.Spec L2
open PyProof.Rows hiding St
structure Pr3 where
  p : Addr
  b : Addr
  k : List Key
  v : V
section
variable {X : Cx}
end
section
variable {K : PySem.W.Frag} {E : St → XK} {p : Nat → Addr} {n : Nat} {H : Hp}
end
section
variable {X : Cx} {E : St → XK} {e : Expr} {f : ML} {p pos : Pos}
end
end Ly
set_option Elab.async false
set_option linter.all false
set_option maxRecDepth 100000
namespace Ly
open PySem PySem.Spec L2
open PyProof.Rows hiding St
section
variable {X : Cx} {E : St → XK} {o : Expr} {eo : M} {to : TE} {f : Str} {cs : List Addr} {pos : Pos}
end
section
variable {X : XP} {cs : List Addr} {f : Str} {o : M} {l : Ls} {S : Hs} {i : Nat} {C : Addr} {fs : List (Str × D)} {d x : D} {Q : Ls → Hs → Prop}
end
theorem flats_vals : ∀ {us : List Value} {ds : List D}, us.map absV = ds.map flatC → (ds.all fun d => (flatC d).isSome) = true → ∃ vs : List V, Vals vs us ∧ ∀ K p n H, Reps K p n H ds vs
  | [], [], _, _ => ⟨[], .nil, fun _ _ _ _ => .nil⟩
  | [], _ :: _, h, _ => by cases h
  | _ :: _, [], h, _ => by cases h
  | u :: us, d :: ds, h, k => by
    simp only [List.map_cons, List.cons.injEq] at h
    simp only [List.all_cons, Bool.and_eq_true] at k
    obtain ⟨vs, h1, h2⟩ := flats_vals h.2 k.2
    cases d with
    | int i =>
      cases u <;> first | (have e := h.1; simp only [absV, flatC] at e; cases e; exact ⟨V.int _ :: vs, .cons ⟨_, rfl⟩ h1, fun K p n H => .cons (.int _) (h2 K p n H)⟩) | (have e := h.1; simp only [absV, flatC] at e; cases e)
    | str i =>
      cases u <;> first | (have e := h.1; simp only [absV, flatC] at e; cases e; exact ⟨V.str _ :: vs, .cons ⟨_, rfl⟩ h1, fun K p n H => .cons (.str _) (h2 K p n H)⟩) | (have e := h.1; simp only [absV, flatC] at e; cases e)
    | _ => simp [flatC] at k
theorem gv_flats {K : PySem.W.Frag} {mg : Str → Option Value} {x : Str} {a : Addr} {od : Option Addr} {its : Array Value} {n : Nat} {sl : Array (Option Value)} {ds : List D} (h : mg x = some (.ref a)) (l : K.lookup a = some ⟨.type "tuple", od, .seq its n, sl⟩)
    (e : its.toList.map absV = ds.map flatC) (k : (ds.all fun d => (flatC d).isSome) = true := by rfl) (hz : ds.length ≤ sizeLine := by decide) : GV K mg x (.wt ds) := by
  obtain ⟨vs, h1, h2⟩ := flats_vals e k
  refine ⟨.ref a, .ref a, h, rfl, fun p m H => .wt (xs := vs) ⟨_, its, n, l, rfl, rfl, ?_, h1⟩ (h2 K p m H)⟩
  have := h1.length
  have e2 := congrArg List.length e
  simp only [List.length_map, Array.length_toList] at this e2
  omega
theorem FOk.one {K : PySem.W.Frag} {cs : List Addr} {f : Str} {C : Addr} (h : FOk K cs f) (hc : C ∈ cs) : FOk K [C] f := fun C' h' => by
  rw [List.mem_singleton] at h'; subst h'; exact h _ hc
end Ly
set_option Elab.async false
set_option linter.all false
set_option maxRecDepth 100000
set_option maxHeartbeats 4000000
namespace Ly
open PySem PySem.Spec L2
open PyProof.Rows hiding St
section
variable {X : Cx}
end
end Ly
set_option Elab.async false
set_option linter.all false
set_option maxRecDepth 100000
namespace Ly
open PySem PySem.Spec L2
open PyProof.Rows hiding St
section
variable {K : PySem.W.Frag} {E : St → XK}
end
end Ly
set_option Elab.async false
set_option linter.all false
set_option maxRecDepth 100000
namespace Ly
open PySem PySem.Spec L2
open PyProof.Rows hiding St
open RZ
section
variable {X : Cx} {E : St → XK} {e : Expr} {f : M} {p p2 pos pos2 : Pos}
end
end Ly
set_option Elab.async false
set_option linter.all false
set_option maxRecDepth 100000
namespace Ly
open PySem PySem.Spec L2
open PyProof.Rows hiding St
section
variable {prog : Program} {w : World} {A : Around} {E : Value → Shared → Prop} {s : Shared}
end
section
variable {X : Cx} {E : St → XK} {e : Expr} {f : ML} {p pos : Pos}
end
end Ly
set_option Elab.async false
set_option linter.all false
set_option maxRecDepth 100000
namespace Ly
open PySem PySem.Spec L2
open PyProof.Rows hiding St
section
variable {P : Program} {w : World} {A : Around} {E : Value → Shared → Prop} {s : Shared}
set_option maxRecDepth 100000 in
set_option maxHeartbeats 3200000 in
end
section
variable {X : Cx} {E : St → XK} {e : Expr} {f : M} {p p2 pos pos2 : Pos}
end
end Ly
set_option Elab.async false
set_option linter.all false
set_option maxRecDepth 100000
namespace Ly
open PySem PySem.Spec L2
open PyProof.Rows hiding St
section
variable {X : Cx} {E : St → XK} {e c : Expr} {f g : M} {p pos kpos : Pos}
end
end Ly
set_option Elab.async false
set_option linter.all false
set_option maxRecDepth 100000
namespace Ly
open PySem PySem.Spec L2
open PyProof.Rows hiding St
section
variable {prog : Program} {w : World} {A : Around} {E : Value → Shared → Prop} {s : Shared}
end
section
variable {X : Cx}
end
section
variable {X : Cx} {E : St → XK} {pos p2 : Pos} {f : M} {fh : MO}
end
section
variable {X : XP} {f : M} {fh : MO} {l : Ls} {S : Hs} {Q : Ls → Hs → Prop}
end
end Ly
set_option Elab.async false
set_option linter.all false
set_option maxRecDepth 100000
namespace Ly
open PySem PySem.Spec L2
open PyProof.Rows hiding St
end Ly
set_option Elab.async false
set_option linter.all false
set_option maxRecDepth 100000
namespace Ly
open PySem PySem.Spec L2
open PyProof.Rows hiding St
section
variable {X : Cx} {E : St → XK} {f : M} {a tg : Expr} {p0 p1 pos pos1 : Pos}
end
section
variable {X : Cx} {E : St → XK} {elt tg iter tg1 iter1 : Expr} {ifs ifs1 : List Expr} {scope : Scope} {own : List (Str × Nat)} {pos : Pos} {it it1 : MI} {g g1 : TG} {gl gl1 : CG} {tm tm1 : MB} {te : M}
end
end Ly
set_option Elab.async false
set_option linter.all false
set_option maxRecDepth 100000
namespace Ly
open PySem PySem.Spec L2
open PyProof.Rows hiding St
section
variable {X : XP} {Q : D → Hs → Prop} {l : Ls} {S : Hs} {j : J} {gl gl1 : CG} {tt tt1 : MB} {te : M} {it it1 : MI} {vs vs1 : List Nat}
end
section
variable {α β : Type} {X : XP} {P : D → Hs → Prop} {l : Ls} {S : Hs} {gl gl1 : CG} {tt tt1 : MB} {te : M} {it1 : MI} {vs1 : List Nat}
end
end Ly
set_option Elab.async false
set_option linter.all false
set_option maxRecDepth 100000
set_option maxHeartbeats 4000000
namespace Ly
open PySem PySem.Spec L2
open PyProof.Rows hiding St
section
variable {P : Program} {w : World} {K : PySem.W.Frag} {mg : Str → Option Value} {base : Heap}
theorem take_def {N : List Str} {qual : Str} {scope : Scope} {f : Addr} {cdv : Value} {A : Around} {outer : List Env} {s : Shared} {H : Hp} {E : XK} :
    Takes (cxOf (L2.CX P w) P w K mg base N qual scope f cdv A outer s H E) (fun cls d _ H => E cls d H) := takes_of rfl rfl rfl rfl
end
section
variable {X : Cx} {x : Str} {p pos pos' : Pos} {C : Addr} {bmB : List Value} {B newId initId : String} {E0 : XK}
end
end Ly
set_option Elab.async false
set_option linter.all false
set_option maxRecDepth 100000
set_option maxHeartbeats 4000000
namespace Ly
open PySem PySem.Spec L2 PySem.W PySem.Calls
open PyProof.Rows hiding St
section
variable {P : Program} {w : World} {K : PySem.W.Frag} {mg : Str → Option Value} {base : Heap}
def cxS (CX : CXT) (P : Program) (w : World) (K : PySem.W.Frag) (mg : Str → Option Value) (base : Heap) (N : List Str) (qual : Str) (scope : Scope) (f : Addr) (cd : Value) (cc : Addr) (A : Around) (outer : List Env) (s : Shared) (H : Hp) (E : XK) : Cx where
  prog := P
  w := w
  K := K
  mg := mg
  base := base
  A := A.deeper (ksEnv qual scope s.heap.objs.size f cd cc)
  N := N
  s_0 := s
  H_0 := H
  env := ksEnv qual scope s.heap.objs.size f cd cc
  outer := outer
  stack := ksEnv qual scope s.heap.objs.size f cd cc :: outer
  ex := []
  calm := true
  fn := fun _ => false
  pn := []
  xe := fun e s' => wpAny (model P w) (A.deeper (ksEnv qual scope s.heap.objs.size f cd cc)) (leaving (ksEnv qual scope s.heap.objs.size f cd cc) e) (fun _ s'' => CX outer H s E e s'') (fun e' s'' => CX outer H s E e' s'') s'
theorem zip_sub : ∀ (ps : List Str) (us : List Value), ((ps.zip us).map (·.1)).Sublist ps
  | [], _ => by simp
  | p :: ps, [] => by simp
  | p :: ps, u :: us => by simpa using (zip_sub ps us).cons₂ p
theorem rev_lookup : ∀ {ps : List Str} {us : List Value} {i : Nat} {y : Str} {u : Value}, ps.Nodup → ps[i]? = some y → us[i]? = some u → (ps.zip us).reverse.lookup y = some u := by
  have key : ∀ {l : List (Str × Value)} {y : Str} {u : Value}, (l.map (·.1)).Nodup → (y, u) ∈ l → l.lookup y = some u := by
    intro l
    induction l with
    | nil => intro y u _ h; cases h
    | cons a l ih =>
      intro y u hn h
      obtain ⟨z, v⟩ := a
      simp only [List.map_cons, List.nodup_cons] at hn
      rcases List.mem_cons.mp h with h | h
      · cases h; simp [List.lookup]
      · have : (y == z) = false := by
          simp only [beq_eq_false_iff_ne]
          intro e
          have h3 : y ∈ l.map (·.1) := List.mem_map.mpr ⟨(y, u), h, rfl⟩
          rw [e] at h3
          exact hn.1 h3
        simp only [List.lookup, this]
        exact ih hn.2 h
  intro ps us i y u hn h1 h2
  refine key ?_ ?_
  · rw [List.map_reverse]
    have : ((ps.zip us).map (·.1)).Nodup := by
      exact hn.sublist (zip_sub ps us)
    exact (List.reverse_perm _).nodup_iff.mpr this
  · rw [List.mem_reverse]
    exact List.mem_of_getElem? (i := i) (by rw [List.getElem?_zip_eq_some]; exact ⟨h1, h2⟩)
theorem inv_S {CX : CXT} {N : List Str} {qual : Str} {scope : Scope} {f cc : Addr} {cd : Value} {A : Around} {outer : List Env} {s : Shared} {H : Hp} {E : XK} {us : List Value} {vs : List V} {h₀ : Heap} {tk : Nat}
    (hk : scope.kind = .function) (hfr : ∀ y, (scope.names.lookup y = some .cell ∨ scope.names.lookup y = some .free) → y = "__class__") (hpar : ∀ y ∈ N, scope.names.lookup y = some .local) (hnd : N.Nodup)
    (hcc : ∃ o v, K.lookup cc = some o ∧ o.data = .cell v) (hd : A.handled = none) (e0 : Env0 P w K mg base A outer s H) (hl : vs.length = N.length) (r : Vals vs us)
    (hns : h₀.Ns s.heap.objs.size (fun x => (N.zip us).reverse.lookup x)) (hkeep : ∀ b o, s.heap.get? b = some o → h₀.get? b = some o) :
    Inv (cxS CX P w K mg base N qual scope f cd cc A outer s H E) [] (vs.map some) H { s with heap := h₀, toks := tk } := by
  have noA : ∀ b : Addr, b ∉ (cxS CX P w K mg base N qual scope f cd cc A outer s H E).ex := fun b z => absurd (show b ∈ ([] : List Addr) from z) (by simp)
  have hcl : ∀ y c, (cxS CX P w K mg base N qual scope f cd cc A outer s H E).env.cells.lookup y = some c → y = "__class__" ∧ c = cc := by
    intro y c h
    have h' : List.lookup y [(("__class__" : Str), cc)] = some c := h
    simp only [List.lookup] at h'
    split at h'
    · rename_i q; exact ⟨by simpa using q, (Option.some.inj h').symm⟩
    · cases h'
  obtain ⟨oc, vc, hcc1, hcc2⟩ := hcc
  have hcb : base.get? cc = some oc := e0.mod.kin _ _ hcc1
  have hcs := e0.bs _ _ hcb
  refine ⟨⟨e0.mod, hk, rfl, rfl, Nat.le_refl _, fun y z c h1 h2 => (hcl y c h1).1.trans (hcl z c h2).1.symm, fun y hy => ?_, fun y c h _ => (by cases h), fun _ => hd, Around.frames_deeper e0.frames, .inr ⟨rfl, rfl⟩, fun b z => absurd z (noA b), e0.bs, e0.bsz, fun b _ _ => noA b, fun b z => absurd z (noA b), e0.funs, e0.frf⟩,
    rfl, e0.bare, Un.kept hkeep, ⟨_, hns, fun i y v h1 h2 h3 => ?_⟩, fun y c h => ?_, e0.hok.fresh (Nat.le_refl _), fun y c h => ?_, fun p hp => absurd (show p ∈ ([] : List (Addr × Obj)) from hp) (by simp), e0.hok.kept hkeep, ?_⟩
  · have : y = "__class__" := hfr y hy
    subst this
    exact ⟨cc, by show List.lookup _ [(("__class__" : Str), cc)] = _; simp [List.lookup]⟩
  · have ha : vs[i]? = some v := by
      rw [List.getElem?_map] at h2
      cases e : vs[i]? with
      | none => rw [e] at h2; cases h2
      | some a => rw [e] at h2; cases h2; rfl
    obtain ⟨u, hu, rv⟩ := r.get ha
    have h1' : N[i]? = some y := h1
    refine ⟨u, rv, .inl ⟨hpar y (List.mem_of_getElem? h1'), rev_lookup hnd h1' hu⟩⟩
  · obtain ⟨rfl, rfl⟩ := hcl y c h
    obtain ⟨ocl, od, dt, sl⟩ := oc
    simp only at hcc2
    subst hcc2
    exact ⟨vc, _, hkeep _ _ hcs.1, rfl⟩
  · obtain ⟨rfl, rfl⟩ := hcl y c h
    exact hcs.2
  · show (vs.map some).length = N.length
    rw [List.length_map]; exact hl
end
structure SupF (K : PySem.W.Frag) (prog : Program) (mg : Str → Option Value) (f cc cda D : Addr) (fd : FuncData) (selfn : Str) : Prop where
  fo : ∃ oc od osl, K.lookup f = some ⟨oc, od, .func fd, osl⟩
  par : ∃ ar : Arg, (fd.params.posonlyargs ++ fd.params.args).head? = some ar ∧ ar.arg = selfn
  code : ∃ ccl cdd vs ccs file tf, K.lookup cda = some ⟨ccl, cdd, .fields vs, ccs⟩ ∧ vs[2]? = some (.str file tf) ∧ ((prog.main.file : Str) == file) = true
  cell : ∃ cl cld csl, K.lookup cc = some ⟨cl, cld, .cell (some (.ref D)), csl⟩
  dc : ∃ cdD, PySem.W.clsIn K D = some cdD
  su : mg "super" = none
  top : (prog.main.scope.names.lookup ("super" : Str)).isSome = false
structure SupC (K : PySem.W.Frag) (C D : Addr) : Prop where
  ox : OexC K C
  sub : PySem.W.mroIn K C (.ref D) = some true
  sup : PySem.W.ks_superIn K C D "__init__" = some (some (.builtin "ValueError.__init__"))
  isV : PySem.W.subIn K (.ref C) (.type "ValueError") = some true
  any : PySem.W.nsIn K cStatics "thirdparty.any" = some none
section
variable {X : Cx} {σ : St} {H : Hp} {s : Shared}
theorem sup_call {f cc cda D C a : Addr} {fd : FuncData} {selfn : Str} {body : List Stmt} {je : Expr} {ta : TA} {p0 p1 ap pos : Pos} {Q : Value → Shared → Prop} {pl : Sem Bool} (FS : SupF X.K X.prog X.mg f cc cda D fd selfn) (G : SupC X.K C D) (I : Inv X [] σ H s)
    (hcl : X.env.cells.lookup ("__class__" : Str) = some cc) (hfu : X.env.func = some f) (hco : X.env.code = .ref cda) (hks : X.env.kindOf "super" = some .globalImplicit) (hkc : X.env.kindOf "__class__" = some .free) (hka : X.env.kindOf selfn = some .local) (hN : X.N[0]? = some selfn)
    (hs : σ[0]? = some (some (.ref a))) (e : H a = some (exo a C none)) (hj : PA X [je] ta) (hq : ta σ H fun vs H' => H' = H ∧ vs.length ≤ 1000)
    (h : ∀ s', Inv X [] σ H s' → Q .none s') (hst : starEach [je] X.env = (false, eval je X.env) :: starEach [] X.env := by rfl)
    (he : eval (.Call (.Attribute (.Call (.Name "super" p0) [] [] p1) "__init__" ap) [je] [] pos) X.env = (do
      let ov ← attributeBase (.Call (.Name "super" p0) [] [] p1) "__init__" X.env (eval (.Call (.Name "super" p0) [] [] p1) X.env)
      standAt ap.atName
      let (f, first) ← holding [ov] (getMethod ov "__init__" pl)
      callWith pos f first (backTo pos (starEach [je] X.env)) []) := by rfl) :
    _root_.PySem.wpAt (model X.prog X.w) X.A (.func body X.env) (eval (.Call (.Attribute (.Call (.Name "super" p0) [] [] p1) "__init__" ap) [je] [] pos) X.env) Q X.xe s := by
  obtain ⟨oc, od, osl, hfo⟩ := FS.fo
  obtain ⟨ar, hpar, har⟩ := FS.par
  obtain ⟨ccl, cdd, vs, ccs, file, tf, hcode, hvs, hfile⟩ := FS.code
  obtain ⟨cl, cld, csl, hcell⟩ := FS.cell
  obtain ⟨cdD, hD⟩ := FS.dc
  obtain ⟨nm, q, N, bs, bm, sn, sub, ab, col, dd, k0, k1, k2, k3, k5, hC, hbm⟩ := G.ox.cls
  have hclC : PySem.W.clsIn X.K C = some { name := nm, bases := bs, mro := .ref C :: bm, ns := N, qualname := q, hasDict := true, slotNames := sn, subclasses := sub, abstract := ab, collection := col, hasDel := false } := by unfold PySem.W.clsIn; rw [hC] <;> rfl
  have KI := I.kIn
  obtain ⟨mb, hb1, hb2⟩ := I.mod.blt
  obtain ⟨t0, hoe⟩ := exo_at I.hok e
  obtain ⟨m, hn, hl⟩ := I.loc
  obtain ⟨u0, ru0, lk0⟩ := hl 0 selfn (.ref a) hN hs (.inl hka)
  obtain rfl : u0 = Value.ref a := ru0
  have hms : m selfn = some (.ref a) := by
    rcases lk0 with ⟨_, z⟩ | ⟨z, _⟩
    · exact z
    · rcases z with z | z <;> (rw [hka] at z; cases z)
  obtain ⟨oD, hD1, hD2⟩ : ∃ oD, s.heap.get? D = some oD ∧ oD.data = .cls cdD := by
    unfold PySem.W.clsIn at hD
    split at hD
    · rename_i c d cd' sl ho
      cases hD
      exact ⟨_, KI _ _ ho, rfl⟩
    · cases hD
  refine _root_.PySem.ks_wpAt_MethodCall (pl := pl) ?_ he
  refine _root_.PySem.ks_wpAt_super_base (env := X.env) hks hkc rfl hfu (KI _ _ hfo) rfl hpar hco (KI _ _ hcode) rfl hvs hfile FS.top ?_
  refine PySem.W.ks_loadName_global I.ok.kind hks (Calls.loadGlobal_builtin (by rw [I.ok.glob]; exact I.mod.glob.keeps I.bk) FS.su (by rw [I.ok.blt]; exact hb1.keeps I.bk) ((hb2 _ (by decide +kernel)).trans (by decide +kernel : bootBuiltins "super" = some (.type "super"))) ⟨rfl, ?_⟩)
  refine wpAny_loadName_free I.ok.kind hkc hcl ⟨_, KI _ _ hcell, rfl⟩ ?_
  rw [har]
  refine wpAny_loadName_local I.ok.kind hka hn hms ?_
  obtain ⟨hp, g, d, t, os⟩ := s
  refine _root_.PySem.ks_wpAny_isType_cls hD1 hD2 ⟨rfl, ?_⟩
  refine _root_.PySem.ks_wpAny_call_super hD1 hD2 hoe rfl (fun c z => by cases z) (PySem.W.looks_mroIn KI G.sub) (fun h' hso k => ?_)
  have I1 : Inv X [] σ H ⟨h', g, d, t, os⟩ := I.kept (t' := t) k
  have hin : PySem.W.Looks (model X.prog X.w) h' (isInstance (.ref a) (.type "ValueError")) true := by
    have J : PySem.W.InstAt h' a { cls := .ref C, dict := none, data := .fields #[.ref t0, .none, .none, .none, .bool false, .none] } C none := ⟨k _ _ hoe, rfl, rfl, trivial⟩
    exact J.type.andThen (PySem.W.looks_subIn I1.kIn G.isV)
  have hsup := G.sup
  unfold PySem.W.ks_superIn at hsup
  rw [hclC] at hsup
  have hne : a ≠ C := fun z => by
    have h1 := I1.kIn _ _ hC
    have h2 := k _ _ hoe
    rw [z] at h2
    rw [h1] at h2
    cases h2
  refine PySem.W.kxs_getMethod PySem.W.kxs_ValueError hso (PySem.W.looks_opaque I1.kIn G.any) (l₀ := .ref C :: bm) (fun A Q E s k q => wpAny_bind ((PySem.W.looks_clsIn I1.kIn hclC) A _ E s k (wpAny_pure q))) rfl I1.kIn hsup hin hne rfl ?_
  have I2 := ClX.pin_new (o := PySem.W.kxs_mw "ValueError.__init__" a) (t' := t + 1) I1 (fun b u => Heap.get?_push_of_some _) (Nat.le_refl _) (Heap.get?_push_at rfl rfl) (fun v z => by cases z)
  have hrun := hj.run pos _ _ σ H _ I2 hq
  rw [hst] at hrun ⊢
  refine PySem.W.kxs_callWith (i := "ValueError.__init__") (x := a) rfl ?_
  refine evalArgs_plain (thn hrun fun ur s2 ⟨vs2, H2, I3, rr, e2, hl2⟩ => ?_)
  subst e2
  refine ⟨(ClX.pin_at I3), ?_⟩
  have hlen : ur.length ≤ sizeLine := by
    rw [← Paired.length rr, sizeLine_eq]
    omega
  obtain ⟨hp3, g3, d3, t3, os3⟩ := s2
  obtain ⟨t4, ho⟩ := exo_at I3.hok e
  refine wpAny_call (codeAny_of_tree ?_)
  show _root_.PySem.wpAny _ _ (callAny (.ref h'.objs.size) ⟨ur, []⟩) _ _ _
  simp only [callAny]
  refine wpAny_bind (wpAny_load (ClX.pin_at I3) ?_)
  simp only [PySem.W.kxs_mw, show (Value.type "method-wrapper" == Value.type "method" || Value.type "method-wrapper" == Value.type "builtin_function_or_method" || Value.type "method-wrapper" == Value.type "method-wrapper") = true by decide, if_true]
  refine PySem.W.KFB.if_so (by decide) ?_
  refine wpAny_bind (PySem.W.check_bound_init F.excBase_ValueError.toExcCallFacts (I3.kIn _ _ hC) ho rfl ?_)
  refine wpAny_bind (wpAny_pure (wpAny_pure ?_))
  refine ⟨plainId_quiet F.excBase_ValueError.init.plain _, codeAny_builtin F.excBase_ValueError.initEntry ?_⟩
  refine PySem.W.exc_init_tree ho hlen fun h4 k4 ex tx => ?_
  have J := (ClX.unpin I3).write (t' := t3) (x := a) (e := a) (o := exo a C none) (by rw [e]; exact True.intro) (.inl rfl) k4 ⟨_, ex⟩ (exo_ok ex)
  have eu : upd H2 a (exo a C none) = H2 := by
    funext b
    by_cases hb : b = a
    · rw [hb, upd_same, e]
    · rw [upd_ne hb]
  rw [eu] at J
  exact h _ J
end
end Ly
set_option Elab.async false
set_option linter.all false
set_option maxRecDepth 100000
set_option maxHeartbeats 4000000
namespace Ly
open PySem PySem.Spec L2
open PyProof.Rows hiding St
abbrev Cl := Value × Option Nat × (Addr → Value → Option Addr → TS)
def endA (D : Ends) : Option Nat → Ends
  | none => D
  | some i => { nx := fun σ' H' => D.nx (σ'.set i none) H', rt := D.rt, bk := fun σ' H' => D.bk (σ'.set i none) H', ct := fun σ' H' => D.ct (σ'.set i none) H' }
def setA (σ : St) (a : Addr) : Option Nat → St
  | none => σ
  | some i => σ.set i (some (.ref a))
def wManyA (K : PySem.W.Frag) (Wout : WX) (D : Ends) : List Cl → WX
  | [] => Wout
  | (c, oi, ts) :: r => fun cls d σ H => ∃ b, PySem.W.exmOne K cls c = some b ∧ (b = true → ∀ a, H a = none → ts a cls d (endA D oi) (setA σ a oi) H) ∧ (b = false → wManyA K Wout D r cls d σ H)
inductive HdsA (X : Cx) : List ExceptHandler → List Cl → Prop
  | nil : HdsA X [] []
  | cons {x : Str} {c : Value} {ts : Addr → Value → Option Addr → TS} {b₀ : Stmt} {suite : List Stmt} {np pos' : Pos} {hds : List ExceptHandler} {l : List Cl} (hc : Names X x c)
      (hsu : ∀ (a : Addr) (oe : Obj) (cls : Value) (d : Option Addr) (pn : List (Addr × Obj)), Zc cls d oe → (∃ vs, oe.data = .fields vs) → PSs (X.suite a ((a, oe) :: pn)) (b₀ :: suite) (ts a cls d)) (r : HdsA X hds l) :
      HdsA X (.ExceptHandler (some (.Name x np)) none (b₀ :: suite) pos' :: hds) ((c, none, ts) :: l)
  | as {x n : Str} {c : Value} {i : Nat} {ts : Addr → Value → Option Addr → TS} {b₀ : Stmt} {suite : List Stmt} {np pos' : Pos} {hds : List ExceptHandler} {l : List Cl} (hc : Names X x c) (hi : X.N[i]? = some n) (hln : X.env.kindOf n = some .local)
      (hsu : ∀ (a : Addr) (oe : Obj) (cls : Value) (d : Option Addr) (pn : List (Addr × Obj)), Zc cls d oe → (∃ vs, oe.data = .fields vs) → PSs (X.suite a ((a, oe) :: pn)) (b₀ :: suite) (ts a cls d)) (r : HdsA X hds l) :
      HdsA X (.ExceptHandler (some (.Name x np)) (some n) (b₀ :: suite) pos' :: hds) ((c, some i, ts) :: l)
section
variable {X : Cx} {body : List Stmt} {h₀ : ExceptHandler} {hds : List ExceptHandler} {l : List Cl} {pos : Pos} {tb : WX → TS} {Wout : WX}
theorem ps_tryA (hs : X.stack = X.env :: X.outer) (hf : X.env.frame = some X.env.locals) (hN : X.N.Nodup) (tk : Takes X Wout)
    (hb : ∀ (W : WX) (pn : List (Addr × Obj)) (xe : Value → Shared → Prop), Takes (X.tr pn xe) W → PassesOwn (model X.prog X.w) X.A X.env xe → PSs (X.tr pn xe) body (tb W))
    (hh : HdsA X (h₀ :: hds) l) : PS X (.Try body (h₀ :: hds) [] [] pos) (fun D σ H => tb (wManyA X.K Wout D l) D σ H) := by
  refine ⟨fun pins s σ H D I h => ?_⟩
  have ok := I.ok
  have hfr : X.A.frames = some (X.env :: X.outer) := by rw [ok.frames, hs]
  refine wpAny_Try_except ?_
  refine wpAny_mono ((hb (wManyA X.K Wout D l) (X.pn ++ pins) (fun e s₁ => _root_.PySem.wpAny (model X.prog X.w) X.A (noteFrame e X.env) (fun _ s₂ => _root_.PySem.wpAny (model X.prog X.w) X.A (setFlight e none) (fun _ s₃ =>
    _root_.PySem.wpAny (model X.prog X.w) X.A (handleBy e X.env (h₀ :: hds)) (SP X pins D) X.xe s₃) X.xe s₂) X.xe s₁) (fun u s' xx => ?_) PassesOwn.looking).run [] s σ H D (I.toTry _) h) (fun f s1 hsp => ?_) (fun e s1 he => he)
  · -- the catch
    obtain ⟨a, B, sI, pins', σ', H', cls, d, rfl, J', nb, up, sky, na, os, ag, w⟩ := xx
    have J : Inv X pins σ' H' sI := J'.ofTry ok
    have sky' : Sky B (X.env :: X.outer) a (Zc cls d) X.env.locals s'.heap := by rw [← hs]; exact sky
    show _root_.PySem.wpAny (model X.prog X.w) X.A (noteFrame (.ref a) X.env) _ _ _
    refine Sky.land Zc.steady hfr hf sky' fun h3 fl3 up3 => ?_
    have J3 : Inv X pins σ' H' { s' with heap := h3 } := J.landed nb fl3.1 (up.trans up3) os ag
    obtain ⟨oe3, vs3, he3, hz3, hd3⟩ := fl3.there
    have notFr : ∀ {h : Heap} {o : Obj} {vs : Array Value}, h.FunFrames B (X.env :: X.outer) → h.get? a = some o → o.data = .fields vs → a ∉ frs (X.env :: X.outer) := fun {h o vs} ff e dd hm => by
      obtain ⟨_, o', e', hnf⟩ := ff.mem hm
      rw [e] at e'; cases e'
      exact hnf _ dd
    have nfr := notFr fl3.2.2.1 he3 hd3
    have nL : a ≠ X.env.locals := fun z => nfr (List.mem_filterMap.mpr ⟨X.env, List.mem_cons_self, by rw [hf, z]⟩)
    have nF : a ∉ X.fs := fun hm => by
      obtain ⟨e, he, q⟩ := List.mem_filterMap.mp hm
      exact nfr (List.mem_filterMap.mpr ⟨e, List.mem_cons_of_mem _ he, q⟩)
    have S3 := J3.suite he3 hd3 na nL nF
    have test : ∀ {x : Str} {c : Value} {np : Pos}, Names X x c → ∀ {Q : Value → Shared → Prop} {E : Value → Shared → Prop}, Q c { s' with heap := h3 } → _root_.PySem.wpAny (model X.prog X.w) (X.A.mark (some (.ref a))) (eval (.Name x np) X.env) Q E { s' with heap := h3 } := fun {x c np} hc {Q E} q => by
      obtain ⟨hg, hdbg, hm | ⟨hm, hv, hnn⟩⟩ := hc
      · exact ld_glob (X := X.suite a ((a, oe3) :: (X.pn ++ pins))) S3 hg hm q hdbg
      · exact ld_blt (X := X.suite a ((a, oe3) :: (X.pn ++ pins))) S3 hg hm hv q hnn hdbg
    have LT : PySem.W.Looks (model X.prog X.w) h3 (typeOf (.ref a)) cls := fun A Q E s k q => wpAny_typeOf_ref (k _ _ he3) (by rw [hz3.1]; exact q)
    have go : ∀ {hds' : List ExceptHandler} {l' : List Cl}, HdsA X hds' l' → wManyA X.K Wout D l' cls d σ' H' →
        _root_.PySem.wpAny (model X.prog X.w) X.A (handleBy (.ref a) X.env hds') (SP X pins D) X.xe { s' with heap := h3 } := by
      intro hds' l' hk
      induction hk with
      | nil =>
        intro w
        refine wpAny_handleBy_nil ?_
        obtain ⟨k1, k2, k3, oe, vs, T, oT, ts', he, hz, hd, h1, hr⟩ := id fl3
        unfold PySem.passOn
        refine wpAny_bind (wpAny_field he hd h1 ?_)
        rw [if_neg (show ¬ ((Value.ref T == Value.none) = true) from by simp)]
        have fin : _root_.PySem.wpAny (model X.prog X.w) X.A (setFlight (.ref a) X.env.frame) (fun _ s4 => _root_.PySem.wpAny (model X.prog X.w) X.A (throw (.ref a) : Sem Flow) (SP X pins D) X.xe s4) X.xe { s' with heap := h3 } := by
          rw [hf]
          refine HandSPX.setFlight_upZ fl3 fun h4 hh4 up4 => wpAny_throw (tk _ _ ?_)
          exact ⟨a, B, sI, pins, σ', H', cls, d, rfl, J, nb, (up.trans up3).trans up4, .inr (.inr (by rw [hs]; exact hh4)), na, os, ag, w⟩
        first
          | exact wpAny_bind (wpAny_pure (wpAny_bind fin))
          | exact wpAny_bind fin
      | @cons x c ts b₀ suite np pos' hds2 l2 hc hsu r ih =>
        intro w
        obtain ⟨b, hb1, hyes, hno⟩ := w
        refine wpAny_handleBy_cons (codeAny_handlers_test ?_) (by intro q; cases q)
        have LM := PySem.W.exm_one (M := model X.prog X.w) (J3.kIn) LT hb1
        refine test hc (LM.here ?_)
        cases b with
        | true =>
          refine codeAny_handlers_suite ?_
          refine HandSPX.lands_againZ fl3 fun h4 fl4 up4 => ?_
          have J4 : Inv X pins σ' H' { s' with heap := h4 } := J.landed nb fl4.1 ((up.trans up3).trans up4) os ag
          obtain ⟨oe4, vs4, he4, hz4, hd4⟩ := fl4.there
          have S4 := J4.suite he4 hd4 na nL nF
          refine wpAny_mono ((hsu a oe4 cls d (X.pn ++ pins) hz4 ⟨_, hd4⟩).run [] _ _ H' _ S4 (hyes rfl a na)) (fun f s6 hsp => ?_) (fun _ _ z => False.elim z)
          cases f with
          | next =>
            obtain ⟨σ6, H6, S6, q6⟩ := hsp
            exact ⟨_, _, S6.unsuite ok, q6⟩
          | brk =>
            obtain ⟨σ6, H6, S6, q6⟩ := hsp
            exact ⟨_, _, S6.unsuite ok, q6⟩
          | cont =>
            obtain ⟨σ6, H6, S6, q6⟩ := hsp
            exact ⟨_, _, S6.unsuite ok, q6⟩
          | ret u =>
            obtain ⟨v6, σ6, H6, S6, r6, q6⟩ := hsp
            exact ⟨_, _, _, S6.unsuite ok, r6, q6⟩
        | false =>
          show _root_.PySem.wpAny _ X.A (handleBy (.ref a) X.env hds2) _ _ _
          exact ih (hno rfl)
      | @as x n c i ts b₀ suite np pos' hds2 l2 hc hi hln hsu r ih =>
        intro w
        obtain ⟨b, hb1, hyes, hno⟩ := w
        refine wpAny_handleBy_cons (codeAny_handlers_test ?_) (by intro q; cases q)
        have LM := PySem.W.exm_one (M := model X.prog X.w) (J3.kIn) LT hb1
        refine test hc (LM.here ?_)
        cases b with
        | true =>
          refine codeAny_handlers_suite_as ?_
          refine HandSPX.lands_againZ fl3 fun h4 fl4 up4 => ?_
          have J4 : Inv X pins σ' H' { s' with heap := h4 } := J.landed nb fl4.1 ((up.trans up3).trans up4) os ag
          obtain ⟨oe4, vs4, he4, hz4, hd4⟩ := fl4.there
          have S4 := J4.suite he4 hd4 na nL nF
          refine store_ok (X := X.suite a ((a, oe4) :: (X.pn ++ pins))) (v := .ref a) S4 hN hi (.inl hln) rfl (fun s5 S5 => ?_) (.inr hln)
          refine wpAny_mono ((hsu a oe4 cls d (X.pn ++ pins) hz4 ⟨_, hd4⟩).run [] s5 _ H' _ S5 (hyes rfl a na)) (fun f s6 hsp => ?_) (fun _ _ z => False.elim z)
          have end_ : ∀ {σ6 : St} {H6 : Hp} {Q : Shared → Prop}, Inv (X.suite a ((a, oe4) :: (X.pn ++ pins))) [] σ6 H6 s6 → (∀ s7, Inv X pins (σ6.set i none) H6 s7 → Q s7) →
              _root_.PySem.wpAny (model X.prog X.w) X.A (do bindName X.env n .none; unbindBehindTheSuite X.env n pos') (fun _ s7 => Q s7) X.xe s6 := fun {σ6 H6 Q} S6 hq => gone_ok (S6.unsuite ok) hN hi hln hq
          cases f with
          | next =>
            obtain ⟨σ6, H6, S6, q6⟩ := hsp
            exact end_ S6 fun s7 J7 => ⟨_, _, J7, q6⟩
          | brk =>
            obtain ⟨σ6, H6, S6, q6⟩ := hsp
            exact end_ S6 fun s7 J7 => ⟨_, _, J7, q6⟩
          | cont =>
            obtain ⟨σ6, H6, S6, q6⟩ := hsp
            exact end_ S6 fun s7 J7 => ⟨_, _, J7, q6⟩
          | ret u =>
            obtain ⟨v6, σ6, H6, S6, r6, q6⟩ := hsp
            exact end_ S6 fun s7 J7 => ⟨_, _, _, J7, r6, q6⟩
        | false =>
          show _root_.PySem.wpAny _ X.A (handleBy (.ref a) X.env hds2) _ _ _
          exact ih (hno rfl)
    exact go hh w
  · cases f with
    | next =>
      obtain ⟨σ', H', J', q⟩ := hsp
      exact wpAny_execs_nil ⟨σ', H', J'.ofTry ok, q⟩
    | brk =>
      obtain ⟨σ', H', J', q⟩ := hsp
      exact ⟨σ', H', J'.ofTry ok, q⟩
    | cont =>
      obtain ⟨σ', H', J', q⟩ := hsp
      exact ⟨σ', H', J'.ofTry ok, q⟩
    | ret u =>
      obtain ⟨v, σ', H', J', r, q⟩ := hsp
      exact ⟨v, σ', H', J'.ofTry ok, r, q⟩
end
end Ly
set_option Elab.async false
set_option linter.all false
set_option maxRecDepth 100000
set_option maxHeartbeats 4000000
namespace Ly
open PySem PySem.Spec L2
open PyProof.Rows hiding St
def Grow (H H' : Hp) : Prop := ∀ b u, H b = some u → H' b = some u
section
variable {K : PySem.W.Frag} {pi : Nat → Addr} {n : Nat} {H H' H2 : Hp}
theorem Grow.refl : Grow H H := fun _ _ h => h
theorem Grow.trans (a : Grow H H') (b : Grow H' H2) : Grow H H2 := fun x u h => b x u (a x u h)
theorem Grow.ext (g : Grow H H') : Ext n n pi pi H H' := ⟨Nat.le_refl _, fun _ _ => rfl, fun a xs h => g _ _ h⟩
theorem Grow.upd {p : Addr} {u : HO} (h : H p = none) : Grow H (upd H p u) := fun b v e => by rw [upd_ne (ne_of_none e h)]; exact e
theorem Grow.real {S : Hs} (g : Grow H H') (R : Real K pi S H) : Real K pi S H' :=
  ⟨fun i o e => (R.ob i o e).ext g.ext (by obtain ⟨u, e1, _⟩ := (R.ob i o e).some; rw [e1, g _ _ e1]), R.inj⟩
theorem Grow.xf {d : Option Addr} {fs : Option (List (Str × D))} (g : Grow H H') (x : XFs K pi n H d fs) : XFs K pi n H' d fs := by
  cases d with
  | none => cases fs with
    | none => exact True.intro
    | some fs => exact x.elim
  | some d => cases fs with
    | none => exact x.elim
    | some fs => obtain ⟨ks, h1, h2, h3⟩ := x; exact ⟨ks, g _ _ h1, h2, h3.ext g.ext _ _⟩
theorem look_rep {f : Str} {v : D} : ∀ {fs : List (Str × D)} {ks : List (Str × V)}, ks.map (·.1) = fs.map (·.1) → Reps K pi n H (fs.map (·.2)) (ks.map (·.2)) → fs.lookup f = some v → ∃ u, ks.lookup f = some u ∧ Rep K pi n H v u
  | [], ks, _, _, h => by cases h
  | (x, w) :: fs, [], h, _, _ => by cases h
  | (x, w) :: fs, (y, u) :: ks, h, r, e => by
    simp only [List.map_cons, List.cons.injEq] at h
    obtain ⟨rfl, h⟩ := h
    cases r with
    | cons r1 r2 =>
      simp only [List.lookup] at e ⊢
      by_cases q : f = y
      · subst q
        rw [beq_self_eq_true] at e ⊢
        cases e
        exact ⟨u, rfl, r1⟩
      · have q' : (f == y) = false := by simpa using q
        rw [q'] at e ⊢
        exact look_rep h r2 e
end
abbrev Gs (α : Type) := Addr → Option (List (Str × D)) → Ls → Option α
abbrev Tb := List (Addr × Bool)
structure InS (K : PySem.W.Frag) (tab : Tb) (oi : Option Nat) (a : Addr) (cls : Value) (d : Option Addr) (σ : St) (H : Hp) (p : Nat → Addr) (n : Nat) (l : Ls) (C : Addr) (fs : Option (List (Str × D))) : Prop where
  cl : cls = .ref C
  mem : (C, true) ∈ tab
  sl : Sl K p n H l σ
  xf : XFs K p n H d fs
  at_ : ∀ i, oi = some i → σ[i]? = some (some (.ref a))
section
variable (K : PySem.W.Frag) (tab : Tb) (oi : Option Nat) (a : Addr) (cls : Value) (d : Option Addr)
def tSE (g : Gs D) : TE := fun σ H Q => ∃ p n l C fs v, InS K tab oi a cls d σ H p n l C fs ∧ g C fs l = some v ∧ ∀ u H', Grow H H' → Rep K p n H' v u → Q u H'
def tSEs (g : Gs (List D)) : TA := fun σ H Q => ∃ p n l C fs v, InS K tab oi a cls d σ H p n l C fs ∧ g C fs l = some v ∧ ∀ u H', Grow H H' → Reps K p n H' v u → Q u H'
def tSS (g : Gs D) : TS := fun D σ H => ∃ p n l C fs v, InS K tab oi a cls d σ H p n l C fs ∧ g C fs l = some v ∧ ∀ u H', Grow H H' → Rep K p n H' v u → D.rt u H'
end
section
variable {K : PySem.W.Frag} {tab : Tb} {oi : Option Nat} {a : Addr} {cls : Value} {d : Option Addr} {σ : St} {H H' : Hp} {p : Nat → Addr} {n : Nat} {l : Ls} {C : Addr} {fs : Option (List (Str × D))}
theorem InS.grow (I : InS K tab oi a cls d σ H p n l C fs) (g : Grow H H') : InS K tab oi a cls d σ H' p n l C fs := ⟨I.cl, I.mem, I.sl.ext g.ext, g.xf I.xf, I.at_⟩
end
section
variable {Y : Cx} {tab : Tb} {oi : Option Nat} {a : Addr} {cls : Value} {d : Option Addr} {e f : Expr} {es : List Expr} {pos : Pos} {g g1 g2 : Gs D} {gs : Gs (List D)} {b b1 b2 : Gs Bool}
theorem se_of_c {v0 : V} {v : D} (h : PE Y e (tC v0)) (r : ∀ p n H, Rep Y.K p n H v v0) : PE Y e (tSE Y.K tab oi a cls d fun _ _ _ => some v) :=
  h.weak fun σ H Q ⟨p, n, l, C, fs, w, I, e1, hq⟩ => by cases e1; exact hq _ _ .refl (r _ _ _)
theorem se_str {i j} : PE Y (.Constant (.str i) j pos) (tSE Y.K tab oi a cls d fun _ _ _ => some (.str i)) := se_of_c pe_str fun _ _ _ => .str _
theorem ses_nil : PA Y [] (tSEs Y.K tab oi a cls d fun _ _ _ => some []) := pa_nil.weak fun σ H Q ⟨p, n, l, C, fs, w, I, e1, hq⟩ => by cases e1; exact hq _ _ .refl .nil
def uCons (g : Gs D) (gs : Gs (List D)) : Gs (List D) := fun C fs l => match g C fs l with | some v => (match gs C fs l with | some vs => some (v :: vs) | none => none) | none => none
theorem ses_cons (h1 : PE Y e (tSE Y.K tab oi a cls d g)) (h2 : PA Y es (tSEs Y.K tab oi a cls d gs)) (hs : starEach (e :: es) Y.env = (false, eval e Y.env) :: starEach es Y.env := by rfl) : PA Y (e :: es) (tSEs Y.K tab oi a cls d (uCons g gs)) :=
  (pa_cons h1 h2 hs).weak fun σ H Q ⟨p, n, l, C, fs, w, I, e1, hq⟩ => by
    unfold uCons at e1
    split at e1
    · rename_i v ev
      split at e1
      · rename_i vs evs
        cases e1
        exact ⟨p, n, l, C, fs, v, I, ev, fun u H1 g1 r1 => ⟨p, n, l, C, fs, vs, I.grow g1, evs, fun us H2 g2 r2 => hq _ _ (g1.trans g2) (.cons (r1.ext g2.ext _ _) r2)⟩⟩
      · cases e1
    · cases e1
def uTup (gs : Gs (List D)) : Gs D := fun C fs l => match gs C fs l with | some vs => if vs.length ≤ 100 then some (.tup vs) else none | none => none
theorem se_tup {x1 : Nat} (h : PA Y es (tSEs Y.K tab oi a cls d gs)) : PE Y (.Tuple es x1 pos) (tSE Y.K tab oi a cls d (uTup gs)) :=
  (pe_tup h).weak fun σ H Q ⟨p, n, l, C, fs, w, I, e1, hq⟩ => by
    unfold uTup at e1
    split at e1
    · rename_i vs evs
      split at e1
      · rename_i hl
        cases e1
        exact ⟨p, n, l, C, fs, vs, I, evs, fun us H1 g1 r1 => ⟨by rw [← r1.len, sizeLine_eq]; omega, fun q hq0 => hq _ _ (g1.trans (.upd hq0)) (.tup upd_same (r1.ext (Grow.upd hq0).ext _ _))⟩⟩
      · cases e1
    · cases e1
def uAnd (g1 g2 : Gs D) : Gs D := fun C fs l => match g1 C fs l with | some (.bl true) => g2 C fs l | some (.bl false) => some (.bl false) | _ => none
theorem se_and (h1 : PE Y e (tSE Y.K tab oi a cls d g1)) (h2 : PE Y f (tSE Y.K tab oi a cls d g2)) : PE Y (.BoolOp .And [e, f] pos) (tSE Y.K tab oi a cls d (uAnd g1 g2)) :=
  (pe_and h1 (pe_one h2)).weak fun σ H Q ⟨p, n, l, C, fs, w, I, e1, hq⟩ => by
    unfold uAnd at e1
    split at e1
    · rename_i ev
      exact ⟨p, n, l, C, fs, _, I, ev, fun u H1 x1 r1 => ⟨true, by cases r1; rfl, by rw [if_pos rfl]; exact ⟨p, n, l, C, fs, w, I.grow x1, e1, fun u2 H2 x2 r2 => hq _ _ (x1.trans x2) r2⟩⟩⟩
    · rename_i ev
      cases e1
      exact ⟨p, n, l, C, fs, _, I, ev, fun u H1 x1 r1 => ⟨false, by cases r1; rfl, by rw [if_neg Bool.false_ne_true]; exact hq _ _ x1 (.bl _)⟩⟩
    · cases e1
theorem ss_ret (h : PE Y e (tSE Y.K tab oi a cls d g)) : PSs Y [.Return (some e) pos] (tSS Y.K tab oi a cls d g) := (pss_one (ps_ret h)).weak fun σ H D h => h
end
section
variable {X : Cx} {tab : Tb} {i : Nat} {a : Addr} {oe : Obj} {cls : Value} {d : Option Addr} {pn : List (Addr × Obj)} {f x c : Str} {p0 p1 p2 p3 pos : Pos}
structure ErC (K : PySem.W.Frag) (C : Addr) : Prop where
  xf : XfC K C
  ex : ExcC K C
def uFld (f : Str) : Gs D := fun _ fs _ => match fs with | some fs => fs.lookup f | none => none
theorem se_fld (T : ∀ q ∈ tab, q.2 = true → XfC X.K q.1 ∧ PySem.W.findIn X.K (.ref q.1) f = some none) (hz : Zc cls d oe) (hf : ∃ vs, oe.data = .fields vs) (hN : X.N[i]? = some x := by rfl) (hv : Vis X.env.scope x := by exact Or.inl rfl)
    (hd : (x == ("__debug__" : Str)) = false := by decide) (hcd : (x == ("__classdict__" : Str)) = false := by decide)
    (hb : attributeBase (.Name x p1) f X.env (eval (.Name x p1) X.env) = eval (.Name x p1) X.env := by rfl) :
    PE (X.suite a ((a, oe) :: pn)) (.Attribute (.Name x p1) f pos) (tSE X.K tab (some i) a cls d (uFld f)) := by
  refine ⟨fun pins s σ H Q I ⟨p, n, l, C, fs, w, hI, e1, hq⟩ => ?_⟩
  obtain ⟨t1, t2⟩ := T _ hI.mem rfl
  refine (pe_xf (X := X) (n := f) t1 t2 hz hf (pe_var (X := X.suite a ((a, oe) :: pn)) hN hv hd hcd) hb).run pins s σ H Q I ?_
  unfold uFld at e1
  split at e1
  · rename_i fl
    have x := hI.xf
    cases d with
    | none => exact x.elim
    | some dd =>
      obtain ⟨ks, h1, h2, h3⟩ := x
      obtain ⟨u, hu, r⟩ := look_rep h2 h3 e1
      exact ⟨.ref a, hI.at_ i rfl, rfl, hI.cl, dd, ks, u, rfl, h1, hu, hq _ _ .refl r⟩
  · cases e1
theorem call_isX {C : Addr} {cv : Value} {b : Bool} (E : ExcC X.K C) (hz : Zc (.ref C) d oe) (hf : ∃ vs, oe.data = .fields vs) (hk : PySem.W.kitOne X.K (.ref C) cv = some b) {H0 : Hp} (hdx : ∀ dd, d = some dd → ∃ ks, H0 dd = some (.xd ks)) :
    CallR (X.suite a ((a, oe) :: pn)) (.builtin "isinstance") (fun xs H Q => ∃ c : V, xs = [.ref a, c] ∧ (∀ u, RelV c u → u = cv) ∧ Grow H0 H ∧ Q (.bl b) H) := by
  intro pins s σ H xs us Q I r h
  obtain ⟨c, rfl, hcv, hg, q⟩ := h
  cases r with
  | cons rx rr =>
    cases rr with
    | cons rt rr =>
      cases rr
      cases rx
      have ec := hcv _ rt
      subst ec
      obtain ⟨hget, _⟩ := I.pin (a, oe) (List.mem_append.mpr (.inl List.mem_cons_self))
      obtain ⟨vs, hv⟩ := hf
      have J : ∃ od, PySem.W.InstAt s.heap a oe C od := by
        cases d with
        | none =>
          refine ⟨none, ?_⟩
          obtain ⟨oc, od, oda, osl⟩ := oe
          obtain ⟨h1, h2⟩ := hz
          dsimp only at h1 h2 hv
          subst h1 h2 hv
          exact ⟨hget, rfl, rfl, trivial⟩
        | some dd =>
          obtain ⟨ks, hk⟩ := hdx dd rfl
          have hx : ObjOk X.prog X.w H s.heap dd (.xd ks) := I.hok dd _ (hg _ _ hk)
          obtain ⟨mA, hns, hr⟩ := hx
          obtain ⟨od, ho, hl⟩ := lookIn_ns hns
          exact ⟨some od, hget, hz.1, by unfold PySem.W.notCls; rw [hv] <;> rfl, by rw [hz.2]; exact ho⟩
      obtain ⟨od, J⟩ := J
      obtain ⟨cd, hcd, _⟩ := PySem.W.any_some E.hd
      exact PySem.W.kia_one (PySem.W.kitx_exc (by rw [hcd]; rfl) E.hg E.hk E.hs E.ha E.hn E.ht E.hm) I.kIn J hk (fun z => nomatch z) fun tk => ⟨.bl b, H, I.kept (t' := tk) fun _ _ z => z, rfl, q⟩
theorem XFs.xd {K : PySem.W.Frag} {p : Nat → Addr} {n : Nat} {H : Hp} {fs : Option (List (Str × D))} (x : XFs K p n H d fs) : ∀ dd, d = some dd → ∃ ks, H dd = some (.xd ks) := by
  intro dd e
  subst e
  cases fs with
  | none => exact x.elim
  | some fs => obtain ⟨ks, h1, _⟩ := x; exact ⟨ks, h1⟩
def uIs (it : Tb) : Gs D := fun C _ _ => match it.lookup C with | some b => some (.bl b) | none => none
theorem lookup_mem {it : Tb} {C : Addr} {b : Bool} (h : it.lookup C = some b) : (C, b) ∈ it := by
  induction it with
  | nil => cases h
  | cons q it ih =>
    obtain ⟨C', b'⟩ := q
    simp only [List.lookup] at h
    split at h
    · rename_i e
      cases h
      have : C = C' := by simpa using e
      subst this
      exact List.mem_cons_self
    · exact List.mem_cons_of_mem _ (ih h)
theorem se_is {it : Tb} {Cc : Addr} (T : ∀ q ∈ it, ExcC X.K q.1 ∧ PySem.W.kitOne X.K (.ref q.1) (.ref Cc) = some q.2) (hi : X.mg "isinstance" = none) (hc : X.mg c = some (.ref Cc)) (hz : Zc cls d oe) (hf : ∃ vs, oe.data = .fields vs)
    (hN : X.N[i]? = some x := by rfl) (hv : Vis X.env.scope x := by exact Or.inl rfl) (hd : (x == ("__debug__" : Str)) = false := by decide) (hcd : (x == ("__classdict__" : Str)) = false := by decide)
    (hg : Gl X "isinstance" := by rfl) (hgc : Gl X c := by rfl) (hcx : (c == ("__debug__" : Str)) = false := by decide)
    (he : starEach [Expr.Name x p1, Expr.Name c p2] X.env = (false, eval (.Name x p1) X.env) :: starEach [Expr.Name c p2] X.env := by rfl) (hpl : (backTo pos (starEach [Expr.Name c p2] X.env)).any (·.1) = false := by rfl) :
    PE (X.suite a ((a, oe) :: pn)) (.Call (.Name "isinstance" p0) [.Name x p1, .Name c p2] [] pos) (tSE X.K tab (some i) a cls d (uIs it)) := by
  refine ⟨fun pins s σ H Q I ⟨p, n, l, C, fs, w, hI, e1, hq⟩ => ?_⟩
  unfold uIs at e1
  split at e1
  · rename_i b eb
    cases e1
    obtain ⟨t1, t2⟩ := T _ (lookup_mem eb)
    have hz' : Zc (.ref C) d oe := by rw [← hI.cl]; exact hz
    refine (pe_callB (X := X.suite a ((a, oe) :: pn)) (call_isX (H0 := H) t1 hz' hf t2 hI.xf.xd) hg hi (by decide +kernel) (pa_cons (pe_var (X := X.suite a ((a, oe) :: pn)) hN hv hd hcd) (pa_cons (pe_glob (X := X.suite a ((a, oe) :: pn)) (v := .ref Cc) hgc hc rfl hcx) pa_nil)) (by decide) (by decide) he hpl).run pins s σ H Q I ?_
    exact ⟨.ref a, hI.at_ i rfl, .ref Cc, rfl, fun u r => r, .refl, hq _ _ .refl (.bl _)⟩
  · cases e1
theorem vals_refs : ∀ {ces : List Addr} {us : List Value}, Vals (ces.map V.ref) us → us = ces.map Value.ref
  | [], _, .nil => rfl
  | c :: ces, _, .cons r s => by
    have h1 := vals_refs s
    rename_i u us
    have h2 : u = Value.ref c := r
    rw [h1, h2]; rfl
theorem call_isXT {C : Addr} {ces : List Addr} {b : Bool} (E : ExcC X.K C) (hz : Zc (.ref C) d oe) (hf : ∃ vs, oe.data = .fields vs) (hk : PySem.W.kitAny X.K (.ref C) (ces.map Value.ref) = some b) {H0 : Hp} (hdx : ∀ dd, d = some dd → ∃ ks, H0 dd = some (.xd ks)) :
    CallR (X.suite a ((a, oe) :: pn)) (.builtin "isinstance") (fun xs H Q => ∃ tp : Addr, xs = [.ref a, .ref tp] ∧ H tp = some (.tup (ces.map V.ref)) ∧ Grow H0 H ∧ Q (.bl b) H) := by
  intro pins s σ H xs us Q I r h
  obtain ⟨tp, rfl, hT, hg, q⟩ := h
  obtain ⟨u1, u2, rfl, r1, r2⟩ := vals2 r
  cases (show u2 = Value.ref tp from r2)
  cases (show u1 = Value.ref a from r1)
  obtain ⟨hget, _⟩ := I.pin (a, oe) (List.mem_append.mpr (.inl List.mem_cons_self))
  obtain ⟨vs, hv⟩ := hf
  have J : ∃ od, PySem.W.InstAt s.heap a oe C od := by
    cases d with
    | none =>
      refine ⟨none, ?_⟩
      obtain ⟨oc, od, oda, osl⟩ := oe
      obtain ⟨h1, h2⟩ := hz
      dsimp only at h1 h2 hv
      subst h1 h2 hv
      exact ⟨hget, rfl, rfl, trivial⟩
    | some dd =>
      obtain ⟨ks, hk⟩ := hdx dd rfl
      have hx : ObjOk X.prog X.w H s.heap dd (.xd ks) := I.hok dd _ (hg _ _ hk)
      obtain ⟨mA, hns, hr⟩ := hx
      obtain ⟨od, ho, hl⟩ := lookIn_ns hns
      exact ⟨some od, hget, hz.1, by unfold PySem.W.notCls; rw [hv] <;> rfl, by rw [hz.2]; exact ho⟩
  obtain ⟨od, J⟩ := J
  obtain ⟨cd, hcd, _⟩ := PySem.W.any_some E.hd
  obtain ⟨_, its, rv, o, h1, h2, n, h3⟩ := (show ObjOk X.prog X.w H s.heap tp (.tup (ces.map V.ref)) from I.hok tp _ hT)
  have e3 := vals_refs rv
  obtain ⟨oc, od2, dt, sl⟩ := o
  simp only at h2 h3
  subst h2 h3
  subst e3
  exact PySem.W.kia_tup (PySem.W.kitx_exc (by rw [hcd]; rfl) E.hg E.hk E.hs E.ha E.hn E.ht E.hm) I.kIn J h1 hk (fun z => nomatch z) fun tk => ⟨.bl b, H, I.tok tk, rfl, q⟩
def tCs (ces : List Addr) : TA := fun _ H Q => Q (ces.map V.ref) H
theorem pcs_nil {Y : Cx} : PA Y [] (tCs []) := pa_nil
theorem pcs_cons {Y : Cx} {x : Str} {p : Pos} {C : Addr} {es : List Expr} {ces : List Addr} (hc : Y.mg x = some (.ref C)) (h : PA Y es (tCs ces)) (hg : Gl Y x := by rfl) (hd : (x == ("__debug__" : Str)) = false := by decide)
    (hs : starEach (.Name x p :: es) Y.env = (false, eval (.Name x p) Y.env) :: starEach es Y.env := by rfl) : PA Y (.Name x p :: es) (tCs (C :: ces)) := (pa_cons (pe_glob (v := .ref C) hg hc rfl hd) h hs).weak fun σ H Q h => h
theorem se_isT {it : Tb} {ces : List Addr} {es : List Expr} {kk : Nat} (T : ∀ q ∈ it, ExcC X.K q.1 ∧ PySem.W.kitAny X.K (.ref q.1) (ces.map Value.ref) = some q.2) (hi : X.mg "isinstance" = none) (hcs : PA (X.suite a ((a, oe) :: pn)) es (tCs ces)) (hlen : ces.length ≤ 100) (hz : Zc cls d oe) (hf : ∃ vs, oe.data = .fields vs)
    (hN : X.N[i]? = some x := by rfl) (hv : Vis X.env.scope x := by exact Or.inl rfl) (hd : (x == ("__debug__" : Str)) = false := by decide) (hcd : (x == ("__classdict__" : Str)) = false := by decide)
    (hg : Gl X "isinstance" := by rfl)
    (he : starEach [Expr.Name x p1, Expr.Tuple es kk p2] X.env = (false, eval (.Name x p1) X.env) :: starEach [Expr.Tuple es kk p2] X.env := by rfl) (hpl : (backTo pos (starEach [Expr.Tuple es kk p2] X.env)).any (·.1) = false := by rfl)
    (hs2 : starEach [Expr.Tuple es kk p2] X.env = (false, eval (.Tuple es kk p2) X.env) :: starEach [] X.env := by rfl) :
    PE (X.suite a ((a, oe) :: pn)) (.Call (.Name "isinstance" p0) [.Name x p1, .Tuple es kk p2] [] pos) (tSE X.K tab (some i) a cls d (uIs it)) := by
  refine ⟨fun pins s σ H Q I ⟨p, n, l, C, fs, w, hI, e1, hq⟩ => ?_⟩
  unfold uIs at e1
  split at e1
  · rename_i b eb
    cases e1
    obtain ⟨t1, t2⟩ := T _ (lookup_mem eb)
    have hz' : Zc (.ref C) d oe := by rw [← hI.cl]; exact hz
    refine (pe_callB (X := X.suite a ((a, oe) :: pn)) (call_isXT (H0 := H) t1 hz' hf t2 hI.xf.xd) hg hi (by decide +kernel) (pa_cons (pe_var (X := X.suite a ((a, oe) :: pn)) hN hv hd hcd) (pa_cons (pe_tup hcs) pa_nil hs2) he) (by decide) (by decide) he hpl).run pins s σ H Q I ?_
    exact ⟨.ref a, hI.at_ i rfl, by rw [List.length_map, sizeLine_eq]; omega, fun q hq0 => ⟨q, rfl, upd_same, Grow.upd hq0, hq _ _ (Grow.upd hq0) (.bl _)⟩⟩
  · cases e1
end
structure Cm where
  tab : Tb
  oi : Option Nat
  g : Gs D
def Cm.ls (c : Cm) (l : Ls) : Ls := match c.oi with | none => l | some i => l.set i none
def Cm.fit (c : Cm) (l : Ls) : Bool := match c.oi with | none => true | some i => decide (i < l.length)
def tryH (c : V) (fs : Option (List (Str × D))) (l : Ls) (S : Hs) : List Cm → R F
  | [] => .exc c fs l S
  | m :: r => match c with
    | .ref C => match m.tab.lookup C with
      | none => .bad
      | some false => tryH c fs l S r
      | some true => if m.fit l = true then (match m.g C fs (m.ls l) with | some v => .ok (.rt v) S | none => .bad) else .bad
    | _ => .bad
def mTry (body : MS) (cl : List Cm) : MS := fun l S => match body l S with
  | .exc c fs l1 S1 => tryH c fs l1 S1 cl
  | r => r
inductive HdsM (X : Cx) : List ExceptHandler → List Cm → Prop
  | nil : HdsM X [] []
  | cons {x : Str} {c : Value} {tab : Tb} {g : Gs D} {b₀ : Stmt} {suite : List Stmt} {np pos' : Pos} {hds : List ExceptHandler} {cl : List Cm} (hc : Names X x c) (T : ∀ q ∈ tab, PySem.W.exmOne X.K (.ref q.1) c = some q.2)
      (hsu : ∀ (a : Addr) (oe : Obj) (cls : Value) (d : Option Addr) (pn : List (Addr × Obj)), Zc cls d oe → (∃ vs, oe.data = .fields vs) → PSs (X.suite a ((a, oe) :: pn)) (b₀ :: suite) (tSS X.K tab none a cls d g)) (r : HdsM X hds cl) :
      HdsM X (.ExceptHandler (some (.Name x np)) none (b₀ :: suite) pos' :: hds) (⟨tab, none, g⟩ :: cl)
  | as {x nm : Str} {c : Value} {i : Nat} {tab : Tb} {g : Gs D} {b₀ : Stmt} {suite : List Stmt} {np pos' : Pos} {hds : List ExceptHandler} {cl : List Cm} (hc : Names X x c) (hi : X.N[i]? = some nm) (hln : X.env.kindOf nm = some .local) (T : ∀ q ∈ tab, PySem.W.exmOne X.K (.ref q.1) c = some q.2)
      (hsu : ∀ (a : Addr) (oe : Obj) (cls : Value) (d : Option Addr) (pn : List (Addr × Obj)), Zc cls d oe → (∃ vs, oe.data = .fields vs) → PSs (X.suite a ((a, oe) :: pn)) (b₀ :: suite) (tSS X.K tab (some i) a cls d g)) (r : HdsM X hds cl) :
      HdsM X (.ExceptHandler (some (.Name x np)) (some nm) (b₀ :: suite) pos' :: hds) (⟨tab, some i, g⟩ :: cl)
section
variable {X : Cx} {E0 : XK} {body : List Stmt} {h₀ : ExceptHandler} {hds : List ExceptHandler} {cl : List Cm} {m : MS} {pos : Pos}
theorem HdsM.toA (h : HdsM X hds cl) : ∃ l, HdsA X hds l ∧ ∀ (D0 : Ends) (c : V) (fs : Option (List (Str × D))) (l1 : Ls) (S1 : Hs) (n : Nat) (pi : Nat → Addr) (H : Hp), Post X.K (fun _ => E0) n pi H (tryH c fs l1 S1 cl) (QF X.K D0) →
    ∀ pi' H' u d s, Ext n S1.length pi pi' H H' → Real X.K pi' S1 H' → RelV c u → XFs X.K pi' S1.length H' d fs → Sl X.K pi' S1.length H' l1 s → wManyA X.K (fun cls d _ H => E0 cls d H) D0 l u d s H' := by
  induction h with
  | nil => exact ⟨_, .nil, fun D0 c fs l1 S1 n pi H hp pi' H' u d s x R rc xf sl => hp pi' H' u d s x R rc xf sl⟩
  | @cons x c0 tab g b₀ suite np pos' hds cl hc T hsu r ih =>
    obtain ⟨l, hl, ih⟩ := ih
    refine ⟨_, .cons hc hsu hl, fun D0 c fs l1 S1 n pi H hp pi' H' u d s x R rc xf sl => ?_⟩
    unfold tryH at hp
    split at hp
    · rename_i C
      obtain rfl : u = Value.ref C := rc
      split at hp
      · exact hp.elim
      · rename_i et
        exact ⟨false, T _ (lookup_mem et), (fun z => by cases z), fun _ => ih D0 _ fs l1 S1 n pi H hp pi' H' _ d s x R rfl xf sl⟩
      · rename_i et
        refine ⟨true, T _ (lookup_mem et), fun _ a na => ?_, fun z => by cases z⟩
        split at hp
        · split at hp
          · rename_i v ev
            exact ⟨pi', S1.length, l1, C, fs, v, ⟨rfl, lookup_mem et, sl, xf, fun i e => by cases e⟩, ev, fun w H2 gr r => Post.ok (Q := QF X.K D0) hp (x.trans gr.ext) (gr.real R) w r⟩
          · exact hp.elim
        · exact hp.elim
    · exact hp.elim
  | @as x nm c0 i tab g b₀ suite np pos' hds cl hc hi hln T hsu r ih =>
    obtain ⟨l, hl, ih⟩ := ih
    refine ⟨_, .as hc hi hln hsu hl, fun D0 c fs l1 S1 n pi H hp pi' H' u d s x R rc xf sl => ?_⟩
    unfold tryH at hp
    split at hp
    · rename_i C
      obtain rfl : u = Value.ref C := rc
      split at hp
      · exact hp.elim
      · rename_i et
        exact ⟨false, T _ (lookup_mem et), (fun z => by cases z), fun _ => ih D0 _ fs l1 S1 n pi H hp pi' H' _ d s x R rfl xf sl⟩
      · rename_i et
        refine ⟨true, T _ (lookup_mem et), fun _ a na => ?_, fun z => by cases z⟩
        split at hp
        · rename_i hfit
          have hfit : i < l1.length := by simpa [Cm.fit] using hfit
          split at hp
          · rename_i v ev
            refine ⟨pi', S1.length, l1.set i none, C, fs, v, ⟨rfl, lookup_mem et, sl.skip i _, xf, fun j e => ?_⟩, ev, fun w H2 gr r => Post.ok (Q := QF X.K D0) hp (x.trans gr.ext) (gr.real R) w r⟩
            cases e
            show (s.set i (some (V.ref a)))[i]? = _
            rw [List.getElem?_set_self (by rw [← sl.len]; exact hfit)]
          · exact hp.elim
        · exact hp.elim
    · exact hp.elim
theorem s_try (hs : X.stack = X.env :: X.outer) (hf : X.env.frame = some X.env.locals) (hN : X.N.Nodup) (tk : Takes X fun cls d _ H => E0 cls d H)
    (hb : ∀ (W : WX) (pn : List (Addr × Obj)) (xe : Value → Shared → Prop), Takes (X.tr pn xe) W → PassesOwn (model X.prog X.w) X.A X.env xe → SMs (X.tr pn xe) (WE W) body m) (hh : HdsM X (h₀ :: hds) cl) :
    SM X (fun _ => E0) (.Try body (h₀ :: hds) [] [] pos) (mTry m cl) := by
  obtain ⟨l, hl, hk⟩ := hh.toA (E0 := E0)
  refine ⟨(ps_tryA (tb := fun W => TSt X.K (WE W) m) hs hf hN tk (fun W pn xe t po => (hb W pn xe t po).ps) hl).weak fun s H D0 ⟨p, l0, S, R, L, h⟩ => ⟨p, l0, S, R, L, ?_⟩⟩
  unfold mTry at h
  revert h
  generalize m l0 S = res
  intro h
  cases res with
  | ok f S1 => exact h
  | bad => exact h
  | exc c fs l1 S1 => exact fun pi' H' u d s' x R1 rc xf sl => hk D0 c fs l1 S1 _ _ _ h pi' H' u d s' x R1 rc xf sl
end
end Ly
set_option Elab.async false
set_option linter.all false
set_option maxRecDepth 100000
set_option maxHeartbeats 4000000
namespace Ly
open PySem PySem.Spec L2
open PyProof.Rows hiding St
abbrev Jp := Str ⊕ Nat
def jsW (ws : List V) : List Jp → Str → Prop
  | [], _ => True
  | .inl y :: r, acc => (acc ++ y).length ≤ sizeLine ∧ jsW ws r (acc ++ y)
  | .inr i :: r, acc => (∃ y : Str, ws[i]? = some (.str y) ∧ y.length ≤ sizeLine ∧ (acc ++ y).length ≤ sizeLine ∧ jsW ws r (acc ++ y)) ∨
      ∃ k : Int, ws[i]? = some (.int k) ∧ k.natAbs.log2 < 1920 ∧ (acc ++ Str.ofString (toString k)).length ≤ sizeLine ∧ jsW ws r (acc ++ Str.ofString (toString k))
def jsD (ds : List D) : List Jp → Str → Prop
  | [], _ => True
  | .inl y :: r, acc => (acc ++ y).length ≤ sizeLine ∧ jsD ds r (acc ++ y)
  | .inr i :: r, acc => (∃ y : Str, ds[i]? = some (.str y) ∧ y.length ≤ sizeLine ∧ (acc ++ y).length ≤ sizeLine ∧ jsD ds r (acc ++ y)) ∨
      ∃ k : Int, ds[i]? = some (.int k) ∧ k.natAbs.log2 < 1920 ∧ (acc ++ Str.ofString (toString k)).length ≤ sizeLine ∧ jsD ds r (acc ++ Str.ofString (toString k))
theorem jsD.w {K : PySem.W.Frag} {p : Nat → Addr} {n : Nat} {H : Hp} {ds : List D} {ws : List V} (r : Reps K p n H ds ws) : ∀ {ps : List Jp} {acc : Str}, jsD ds ps acc → jsW ws ps acc
  | [], _, _ => trivial
  | .inl y :: ps, acc, h => ⟨h.1, jsD.w r h.2⟩
  | .inr i :: ps, acc, h => by
    rcases h with ⟨y, e, h1, h2, h3⟩ | ⟨k, e, h1, h2, h3⟩
    · obtain ⟨v, ev, rv⟩ := r.get e
      cases rv
      exact .inl ⟨y, ev, h1, h2, jsD.w r h3⟩
    · obtain ⟨v, ev, rv⟩ := r.get e
      cases rv
      exact .inr ⟨k, ev, h1, h2, jsD.w r h3⟩
inductive JP (N : List Str) : List Expr → List Jp → Prop
  | nil : JP N [] []
  | str {y : Str} {j : Nat} {p : Pos} {es : List Expr} {ps : List Jp} (r : JP N es ps) : JP N (.Constant (.str y) j p :: es) (.inl y :: ps)
  | fmt {x : Str} {i : Nat} {p q : Pos} {es : List Expr} {ps : List Jp} (hN : N[i + 1]? = some x) (hd : (x == ("__debug__" : Str)) = false) (hcd : (x == ("__classdict__" : Str)) = false) (r : JP N es ps) : JP N (.FormattedValue (.Name x p) (-1) none q :: es) (.inr i :: ps)
def tJp : Jp → TE
  | .inl y => tC (.str y)
  | .inr i => tFmt (tVar (i + 1))
section
variable {X : Cx} {N : List Str}
theorem JP.pj (hX : X.N = N) (hv : ∀ y ∈ N, X.env.scope.names.lookup y = some .local) {es : List Expr} {ps : List Jp} (h : JP N es ps) : PJ X es (ps.map tJp) := by
  induction h with
  | nil => exact .nil
  | str r ih => exact .cons pe_str ih
  | @fmt x i p q es ps hN hd hcd r ih => exact .cons (pe_fmt (pe_var (by rw [hX]; exact hN) (.inl (hv x (List.mem_of_getElem? hN))) hd hcd)) ih
theorem tJp_run {a : V} {ws : List V} {H : Hp} {Q : Str → Hp → Prop} : ∀ {ps : List Jp} {acc : Str}, jsW ws ps acc → (∀ out, Q out H) → tJs (ps.map tJp) acc ((a :: ws).map some) H Q
  | [], _, _, h => h _
  | .inl y :: ps, acc, e, h => ⟨y, rfl, e.1, tJp_run e.2 h⟩
  | .inr i :: ps, acc, e, h => by
    have hs : ∀ {v : V}, ws[i]? = some v → ((a :: ws).map some)[i + 1]? = some (some v) := fun {v} e => by
      rw [List.getElem?_map, List.getElem?_cons_succ, e]; rfl
    rcases e with ⟨y, e, h1, h2, h3⟩ | ⟨k, e, h1, h2, h3⟩
    · exact ⟨.str y, hs e, .inl ⟨y, rfl, h1, y, rfl, h2, tJp_run h3 h⟩⟩
    · exact ⟨.int k, hs e, .inr ⟨k, rfl, h1, _, rfl, h2, tJp_run h3 h⟩⟩
end
abbrev SELF : Str := "self"
def spI (K : PySem.W.Frag) (D : Addr) (fs : List Str) (ps : List Jp) : Sp := fun vs H Q _ => ∃ (a C : Addr) (ws : List V), vs = .ref a :: ws ∧ ws.length = fs.length ∧ jsW ws ps Str.empty ∧ OexC K C ∧ SupC K C D ∧ (∀ f ∈ fs, PySem.W.findIn K (.ref C) f = some none) ∧ H a = some (exo a C none) ∧
  ∀ dx, H dx = none → dx ≠ a → Q .non (upd (upd H dx (exd dx (fs.zip ws).reverse)) a (exo a C (some dx)))
section
variable {P : Program} {w : World} {K : PySem.W.Frag} {mg : Str → Option Value} {base : Heap}
structure IniAt (K : PySem.W.Frag) (P : Program) (mg : Str → Option Value) (qual : Str) (st : Stmt) (N : List Str) (f D : Addr) (fd : FuncData) : Prop where
  ex : ∃ (oc : Value) (od : Option Addr) (kV doc pm : Value) (an : Option Addr) (cda cc : Addr) (ct : Value) (osl : Array (Option Value)), fd = PySem.W.ksFn "__init__" qual (defArgs st) (defBody st) (defScope st) .none kV doc pm an (.ref cda) ct cc ∧
    K.lookup f = some ⟨oc, od, .func fd, osl⟩ ∧ PySem.W.codeIn K (.ref cda) qual = true ∧ SupF K P mg f cc cda D fd "self"
  sc : (defScope st).isCoroutine = false ∧ (defScope st).isGenerator = false ∧ (defScope st).kind = .function ∧ (∀ x ∈ (defScope st).names, x.2 ≠ .cell) ∧ (∀ y ∈ N, (defScope st).names.lookup y = some .local) ∧
    (∀ y, ((defScope st).names.lookup y = some .cell ∨ (defScope st).names.lookup y = some .free) → y = "__class__") ∧ (defScope st).names.lookup ("super" : Str) = some .globalImplicit ∧ (defScope st).names.lookup ("__class__" : Str) = some .free
  nd : N.Nodup
theorem fn_init {qual : Str} {st : Stmt} {N fs : List Str} {f D : Addr} {fd : FuncData} {k : Nat} {p0 p1 ap pos p5 q0 : Pos} {v1 v2 : Expr} {es : List Expr} {rest : List Stmt} {ps : List Jp} (I0 : IniAt K P mg qual st N f D fd) (hN : N = SELF :: fs)
    (hbody : defBody st = .Expr (.Call (.Attribute (.Call (.Name "super" p0) [] [] p1) "__init__" ap) [.JoinedStr (v1 :: v2 :: es) q0] [] pos) p5 :: rest) (hj : JP N (v1 :: v2 :: es) ps)
    (he : ∀ env : Env, ∃ pl : Sem Bool, eval (.Call (.Attribute (.Call (.Name "super" p0) [] [] p1) "__init__" ap) [.JoinedStr (v1 :: v2 :: es) q0] [] pos) env = (do
      let ov ← attributeBase (.Call (.Name "super" p0) [] [] p1) "__init__" env (eval (.Call (.Name "super" p0) [] [] p1) env)
      standAt ap.atName
      let (f, first) ← holding [ov] (getMethod ov "__init__" pl)
      callWith pos f first (backTo pos (starEach [.JoinedStr (v1 :: v2 :: es) q0] env)) []))
    (hrest : ∀ (X : Cx), X.N = N → X.K = K → (∀ y ∈ N, X.env.scope.names.lookup y = some .local) → ∃ t, PSs X rest t ∧ ∀ (a C : Addr) (ws : List V) (H : Hp) (Q : VK), ws.length = fs.length → OexC K C → (∀ f ∈ fs, PySem.W.findIn K (.ref C) f = some none) → H a = some (exo a C none) →
      (∀ dx, H dx = none → dx ≠ a → Q .non (upd (upd H dx (exd dx (fs.zip ws).reverse)) a (exo a C (some dx)))) → t { nx := fun _ H' => Q .non H', rt := Q } ((V.ref a :: ws).map some) H) :
    FnOk P w K mg base (L2.CX P w) (k + 1) f fd N (spI K D fs ps) := by
  subst hN
  obtain ⟨oc, od, kV, doc, pm, an, cda, cc, ct, osl, rfl, lk, hcd, FS⟩ := I0.ex
  obtain ⟨s1, s2, s3, s4, s5, s6, s7, s8⟩ := I0.sc
  refine ⟨fun vs H Q E ⟨a, C, ws, e, hl, _⟩ => by rw [e, List.length_cons, List.length_cons, hl], fun A outer s H args us vs Q E hr e0 hb r hsp => ?_⟩
  obtain ⟨a, C, ws, rfl, hl, hjs, T, G, hno, ea, hq⟩ := hsp
  have KX : K.In s.heap := e0.mod.kin.keeps fun b o e => (e0.bs b o e).1
  have lim : s.heap.NoLimit := e0.mod.nolimit.keeps fun b o e => (e0.bs b o e).1
  have hlen : us.length = (SELF :: fs).length := by rw [← r.length, List.length_cons, List.length_cons, hl]
  refine PySem.ks_codeAny_call_defAt hr.depth (KX _ _ lk) rfl lim (PySem.W.codeRec_of KX hcd) rfl hb s4 (fun x hx => s5 _ (List.of_mem_zip hx).1) (fun h₀ hns hkeep => ?_) s1 s2 s3
  have I := inv_S (CX := L2.CX P w) (qual := qual) (scope := defScope st) (f := f) (cc := cc) (cd := .ref cda) (E := E) (tk := s.toks + ((SELF :: fs).zip us).length) s3 s6 s5 I0.nd (by obtain ⟨cl, cld, csl, h⟩ := FS.cell; exact ⟨_, _, h, rfl⟩) hr.hd e0 (by rw [List.length_cons, List.length_cons, hl]) r hns hkeep
  obtain ⟨t, ht, hgo⟩ := hrest (cxS (L2.CX P w) P w K mg base (SELF :: fs) qual (defScope st) f (.ref cda) cc A outer s H E) rfl rfl s5
  rw [hbody]
  refine PySem.ks_wpAt_execs_cons (PySem.ks_wpAt_Expr_any (hi := by show ((defScope st).kind == .module && _) = false; rw [s3]; rfl) ?_)
  obtain ⟨pl, he⟩ := he (cxS (L2.CX P w) P w K mg base (SELF :: fs) qual (defScope st) f (.ref cda) cc A outer s H E).env
  refine sup_call (he := he) (hst := rfl) (X := cxS (L2.CX P w) P w K mg base (SELF :: fs) qual (defScope st) f (.ref cda) cc A outer s H E) (C := C) (a := a) (σ := (V.ref a :: ws).map some) (H := H) (selfn := SELF) (cc := cc) (f := f) (cda := cda) (D := D) (pl := pl) FS G I rfl rfl rfl s7 s8 (s5 _ List.mem_cons_self) rfl rfl ea
    (pa_cons (pe_joined (JP.pj (X := cxS (L2.CX P w) P w K mg base (SELF :: fs) qual (defScope st) f (.ref cda) cc A outer s H E) rfl s5 hj)) pa_nil) (tJp_run hjs fun out => ⟨rfl, show 1 ≤ 1000 by omega⟩) (fun s' J => ?_)
  show PySem.wpAt _ _ _ (execs rest _) _ _ s'
  refine PySem.wpAt_of_wpAny ?_
  refine wpAny_mono (ht.run [] s' _ H _ J (hgo a C ws H Q hl T hno ea hq)) (fun fl s2 hs => ?_) fun e s2 hs => hs
  have fin : ∀ {σ' : St} {H' : Hp} {v : V} {u : Value}, Inv (cxS (L2.CX P w) P w K mg base (SELF :: fs) qual (defScope st) f (.ref cda) cc A outer s H E) [] σ' H' s2 → RelV v u → Q v H' → CE outer P w H s Q u s2 :=
    fun {σ' H' v u} J rv q => ⟨v, H', J.os, J.bare, J.base, J.hok, rv, q⟩
  cases fl with
  | ret u =>
    obtain ⟨v, σ', H', J, rv, q⟩ := hs
    exact fin J rv q
  | next =>
    obtain ⟨σ', H', J, q⟩ := hs
    exact fin (v := V.non) (u := Value.none) J rfl q
  | brk =>
    obtain ⟨_, _, _, q⟩ := hs
    exact False.elim q
  | cont =>
    obtain ⟨_, _, _, q⟩ := hs
    exact False.elim q
theorem rest_two {n1 n2 : Str} {a1 a2 a3 a4 b1 b2 b3 b4 : Pos} (hd : (n1 == ("__debug__" : Str)) = false) (hcd : (n1 == ("__classdict__" : Str)) = false) (hd2 : (n2 == ("__debug__" : Str)) = false) (hcd2 : (n2 == ("__classdict__" : Str)) = false) (X : Cx) (hN : X.N = SELF :: [n1, n2]) (hK : X.K = K)
    (hv : ∀ y ∈ (SELF :: [n1, n2]), X.env.scope.names.lookup y = some .local) :
    ∃ t, PSs X [.Assign [.Attribute (.Name SELF a1) n1 a2] (.Name n1 a3) a4, .Assign [.Attribute (.Name SELF b1) n2 b2] (.Name n2 b3) b4] t ∧ ∀ (a C : Addr) (ws : List V) (H : Hp) (Q : VK), ws.length = [n1, n2].length → OexC K C → (∀ f ∈ [n1, n2], PySem.W.findIn K (.ref C) f = some none) → H a = some (exo a C none) →
      (∀ dx, H dx = none → dx ≠ a → Q .non (upd (upd H dx (exd dx ([n1, n2].zip ws).reverse)) a (exo a C (some dx)))) → t { nx := fun _ H' => Q .non H', rt := Q } ((V.ref a :: ws).map some) H := by
  have h0 : PE X (.Name SELF a1) (tVar 0) := pe_var (by rw [hN]; rfl) (.inl (hv _ (by simp)))
  have h0' : PE X (.Name SELF b1) (tVar 0) := pe_var (by rw [hN]; rfl) (.inl (hv _ (by simp)))
  have h1 : PE X (.Name n1 a3) (tVar 1) := pe_var (by rw [hN]; rfl) (.inl (hv _ (by simp))) hd hcd
  have h2 : PE X (.Name n2 b3) (tVar 2) := pe_var (by rw [hN]; rfl) (.inl (hv _ (by simp))) hd2 hcd2
  refine ⟨_, pss_cons (ps_ost h0 h1) (pss_one (ps_ost h0' h2)), fun a C ws H Q hl T hno ea hq => ?_⟩
  subst hK
  match ws, hl with
  | [w1, w2], _ =>
    refine ⟨w1, rfl, .ref a, rfl, a, C, rfl, T, hno _ (by simp), .inl ⟨ea, fun dx n ne => ?_⟩⟩
    refine ⟨w2, rfl, .ref a, rfl, a, C, rfl, T, hno _ (by simp), .inr ⟨dx, [(n1, w1)], upd_same, by rw [upd_ne ne, upd_same], by simp, ?_⟩⟩
    have e : upd (upd (upd H dx (exd dx [(n1, w1)])) a (exo a C (some dx))) dx (exd dx ((n2, w2) :: [(n1, w1)])) = upd (upd H dx (exd dx ([n1, n2].zip [w1, w2]).reverse)) a (exo a C (some dx)) := by
      funext b
      by_cases hb : b = dx
      · subst hb; rw [upd_same, upd_ne ne, upd_same]; rfl
      · rw [upd_ne hb]
        by_cases ha : b = a
        · subst ha; rw [upd_same, upd_same]
        · rw [upd_ne ha, upd_ne hb, upd_ne ha, upd_ne hb]
    show Q .non _
    rw [e]
    exact hq dx n ne
end
noncomputable def mRaiseI (C : Addr) (fs : List Str) (ps : List Jp) (fl : ML) : MS := fun l S => (fl l S).bind fun ds S1 => open Classical in if ds.length = fs.length ∧ ds.length ≤ 100 ∧ (∀ d ∈ ds, (∃ y, d = .str y) ∨ ∃ i, d = .int i) ∧ jsD ds ps Str.empty then .exc (.ref C) (some (fs.zip ds).reverse) l S1 else .bad
theorem flat_reps {K : PySem.W.Frag} {p p' : Nat → Addr} {n n' : Nat} {H H' : Hp} : ∀ {ds : List D} {ws : List V}, (∀ d ∈ ds, (∃ y, d = D.str y) ∨ ∃ i, d = D.int i) → Reps K p n H ds ws → Reps K p' n' H' ds ws
  | [], _, _, .nil => .nil
  | d :: ds, _, h, .cons r s => .cons (by
      rcases h d (by simp) with ⟨y, rfl⟩ | ⟨i, rfl⟩
      · cases r; exact .str _
      · cases r; exact .int _) (flat_reps (fun e he => h e (by simp [he])) s)
theorem zip_fst {α β : Type} : ∀ {as : List α} {bs : List β}, bs.length = as.length → (as.zip bs).map (·.1) = as
  | [], [], _ => rfl
  | a :: as, b :: bs, h => by simp [zip_fst (as := as) (bs := bs) (by simpa using h)]
  | [], b :: bs, h => by cases h
  | a :: as, [], h => by cases h
theorem zip_snd {α β : Type} : ∀ {as : List α} {bs : List β}, bs.length = as.length → (as.zip bs).map (·.2) = bs
  | [], [], _ => rfl
  | a :: as, b :: bs, h => by simp [zip_snd (as := as) (bs := bs) (by simpa using h)]
  | [], b :: bs, h => by cases h
  | a :: as, [], h => by cases h
theorem Reps.rev {K : PySem.W.Frag} {p : Nat → Addr} {n : Nat} {H : Hp} {ds : List D} {ws : List V} (r : Reps K p n H ds ws) : Reps K p n H ds.reverse ws.reverse := by
  induction ds generalizing ws with
  | nil => cases r; exact .nil
  | cons d ds ih => cases r with | cons r s => rw [List.reverse_cons, List.reverse_cons]; exact (ih s).append (.cons r .nil)
structure MkE (K : PySem.W.Frag) (C f D : Addr) (fs : List Str) : Prop where
  ox : OexC K C
  sup : SupC K C D
  no : ∀ x ∈ fs, PySem.W.findIn K (.ref C) x = some none
  ini : PySem.W.findIn K (.ref C) "__init__" = some (some (.ref f))
  ty : PySem.W.typeIn K (.ref f) = some (.type "function")
section
variable {X : Cx} {x : Str} {p pos pos' : Pos} {C f D : Addr} {fd : FuncData} {N fs : List Str} {ps : List Jp} {k : Nat} {E0 : XK} {e : Expr} {es : List Expr} {fl : ML}
theorem s_raiseI (hc : X.calm = true) (tk : Takes X fun cls d _ H => E0 cls d H) (M : MkE X.K C f D fs) (F1 : FnOk X.prog X.w X.K X.mg X.base (L2.CX X.prog X.w) k f fd N (spI X.K D fs ps)) (hr : Room (k + 1) X.A) (hb : Binds X.K fd N []) (hg : Gl X x) (gC : X.mg x = some (.ref C))
    (hx : Passes (L2.CX X.prog X.w) X (fun _ _ _ => False)) (ha : LM X (fun _ => E0) (e :: es) fl) (hdb : (x == ("__debug__" : Str)) = false := by decide) (he : starEach (e :: es) X.env = (false, eval e X.env) :: starEach es X.env := by rfl) (hpl : (backTo pos (starEach es X.env)).any (·.1) = false := by rfl) :
    SM X (fun _ => E0) (.Raise (some (.Call (.Name x p) (e :: es) [] pos)) none pos') (mRaiseI C fs ps fl) :=
  ⟨(ps_raise hc tk (pmk_oex (ds := []) (dvs := []) M.ox M.ini M.ty F1 hr hb .nil hx hg gC ha.pa hdb he hpl)).weak fun s H D0 ⟨q, l, S, R, L, h⟩ => TL.of R L h fun p1 S1 H1 ds ws R1 x1 L1 r1 h1 => by
    split at h1
    · rename_i hcond
      obtain ⟨h2, h3, h4, h5⟩ := hcond
      have hl := r1.len
      refine ⟨by omega, fun a na => ?_⟩
      refine ⟨a, C, ws, by rw [List.append_nil], by omega, h5.w r1, M.ox, M.sup, M.no, upd_same, fun dx n ne => ⟨rfl, dx, (fs.zip ws).reverse, upd_same, by rw [upd_ne ne, upd_same], by rw [upd_ne ne] at n; exact n, ?_⟩⟩
      rw [upd_ne ne] at n
      have eH : upd (del (upd (upd (upd H1 a (exo a C none)) dx (exd dx (fs.zip ws).reverse)) a (exo a C (some dx))) a) dx (.xd (fs.zip ws).reverse) = upd H1 dx (.xd (fs.zip ws).reverse) := by
        funext b
        by_cases hb : b = dx
        · subst hb; rw [upd_same, upd_same]
        · rw [upd_ne hb, upd_ne hb]
          by_cases ha : b = a
          · subst ha; rw [del_same, na]
          · rw [del_ne ha, upd_ne ha, upd_ne hb, upd_ne ha]
      rw [eH]
      have g : Grow H1 (upd H1 dx (.xd (fs.zip ws).reverse)) := Grow.upd n
      refine h1 p1 _ _ (some dx) s g.ext (g.real R1) rfl ⟨(fs.zip ws).reverse, upd_same, ?_, ?_⟩ (L1.ext g.ext)
      · rw [List.map_reverse, List.map_reverse, zip_fst (by omega), zip_fst (by omega)]
      · rw [List.map_reverse, List.map_reverse, zip_snd (by omega), zip_snd (by omega)]
        exact (flat_reps h4 r1).rev
    · exact h1.elim⟩
end
end Ly
set_option Elab.async false
set_option linter.all false
set_option maxRecDepth 100000
namespace Ly
open PySem PySem.Spec L2
open PyProof.Rows hiding St
theorem walk_ofL {l : PySem.W.OpenLaw} {n k : Nat} {q : Program} {loose : List Str} {XP : (Str → Option Value) → Heap → Prop} {YP : World → Heap → Prop} {d : DefRec} {CX : World → CXT} {x : Str}
    (hn : l.most = some n) (hn2 : n ≤ sizeLine) (hdf : d.params.defaults = []) (hr : Room k callerA)
    (F : ∀ (w : World) (mg : Str → Option Value) (fa : Addr) (h : Heap), YP w h → h.Ns mainGlobals mg → mg d.name = some (.ref fa) →
      ∃ (K : PySem.W.Frag) (fd : FuncData) (sp : Sp), K.In h ∧ (∀ (s : Shared) (u : Value), BindsTo s fd ⟨[u], []⟩ [(x, u)]) ∧
        (∀ (H : Hp) (a : Addr) (ns : List Int), ns.length ≤ n → (∀ z ∈ ns, Builtin.Int.intBits z ≤ 1048576) → Only H → SqL K H a (ns.map V.int) → sp [.ref a] H (fun v _ => v = .bl true) fun _ _ _ => False) ∧
        ∀ base : Heap, K.In base → base.Ns mainGlobals mg → FnOk l.prog w K mg base (CX w) k fa fd [x] sp)
    (hCX : ∀ (w : World) (H : Hp) (s : Shared) (e : Value) (s' : Shared), CX w [] H s (fun _ _ _ => False) e s' → False) :
    PySem.W.WalkO q loose XP YP l.row.toRowW d [] (fun f vs => PySem.call f vs) := by
  refine Att.attach_callB hn hdf fun w s₀ s₁ mg mb fa o pm cd doc a vs ns G Y ho hd hcd hmg hobj hints hlen hbits hg => ?_
  obtain ⟨K, fd, sp, KX, hb, hsp, hF⟩ := F w mg fa _ Y G.T.g hmg
  exact law_call KX G.T.g G.T.b G.T.builtins G.T.nolimit hg hobj hints (Nat.le_trans hlen hn2) hr hF hb (fun H hO hS => hsp H a ns hlen hbits hO hS) fun H e s' => hCX w H s₁ e s'
def oV (K : PySem.W.Frag) (x : Str) : Option (List (Option V)) := match PySem.W.nsIn K mainGlobals x with
  | some (some u) => some [absV u]
  | _ => none
def oT (K : PySem.W.Frag) (a : Addr) : Option (List (Option V)) := match K.lookup a with
  | some ⟨.type c, _, .seq its _, _⟩ => (match decide (c = "tuple") with
    | true => some (its.toList.map absV)
    | false => none)
  | _ => none
section
variable {K : PySem.W.Frag} {a : Addr} {x : Str} {w : World} {mg : Str → Option Value} {h : Heap}
theorem oV_ok {c : Option V} (e : oV K x = some [c]) : ∃ u, PySem.W.nsIn K mainGlobals x = some (some u) ∧ absV u = c := by
  unfold oV at e
  split at e
  · rename_i u q
    exact ⟨u, q, by injection Option.some.inj e⟩
  · cases e
theorem oT_ok {L : List (Option V)} (e : oT K a = some L) : ∃ od its n sl, K.lookup a = some ⟨.type "tuple", od, .seq its n, sl⟩ ∧ its.toList.map absV = L := by
  unfold oT at e
  split at e
  · rename_i c od its n sl q
    split at e
    · rename_i hc
      have := of_decide_eq_true hc
      subst this
      exact ⟨od, its, n, sl, q, Option.some.inj e⟩
    · cases e
  · cases e
end
abbrev AlA : Type := Bool × List (Option (List (Option (Str × Int)))) × List (Option (List (Option V))) × Bool
abbrev FnVC : Type := Option (Str × Str × Arguments × FuncBody × Scope × Addr × List Str × Value × Addr)
def fnObsC (K : PySem.W.Frag) (p : Str × Option Str) : FnVC := match K.lookup (He.fAd K p) with
  | some ⟨_, _, .func fd, _⟩ => some (fd.name, fd.qualname, fd.params, fd.body, fd.scope, fd.globals, fd.closure.map (·.1), fd.defaults, fd.builtins)
  | _ => none
def valC (d : He.FnD) : FnVC := some (d.name, d.qual, d.params, .stmts d.body, d.scope, mainGlobals, ["__class__"], .none, builtinsNs)
abbrev AlB : Type := Bool × List He.FnV × List FnVC
structure Lk where
  fa : List He.Fa
  fn : List He.FnD
  ts : List He.Tab
  xo : List ((PySem.W.Frag → Option (List (Option V))) × List (Option V))
  xb : List (PySem.W.Frag → Bool)
  fc : List He.FnD
def obsA (L : Lk) (K : PySem.W.Frag) : AlA := (L.fa.all fun f => f.ok K, L.ts.map fun t => He.dicW K (t.1 K), L.xo.map fun t => t.1 K, L.xb.all fun f => f K)
def obsB (L : Lk) (K : PySem.W.Frag) : AlB := ((L.fn.all fun d => (He.Fa.code d.at_ d.qual).ok K) && L.fc.all fun d => (He.Fa.code d.at_ d.qual).ok K, L.fn.map fun d => He.fnObs K d.at_, L.fc.map fun d => fnObsC K d.at_)
def valA (L : Lk) (w : World) : AlA := (true, L.ts.map fun t => some (He.keysIn w.params t.2), L.xo.map fun t => some t.2, true)
def valB (L : Lk) : AlB := (true, L.fn.map He.FnD.val, L.fc.map valC)
def SaysL (L : Lk) (w : World) (K : PySem.W.Frag) : Prop := obsA L K = valA L w ∧ obsB L K = valB L
def frL (g : Addr → Option Obj) (n : Nat) : PySem.W.Frag := He.frG g (mainGlobals :: cStatics :: List.range' 10 (n - 10))
def hookL (L : Lk) : PySem.W.Hook where
  α := AlA × AlB
  obs := fun s => (obsA L (frL s.heap.get? s.heap.objs.size), obsB L (frL s.heap.get? s.heap.objs.size))
  val := fun w => (valA L w, valB L)
  says := fun w h => ∃ K : PySem.W.Frag, K.In h ∧ SaysL L w K
  of := fun _ _ e => ⟨_, He.frG_in, congrArg (fun z : AlA × AlB => z.1) e, congrArg (fun z : AlA × AlB => z.2) e⟩
  keeps := fun _ _ _ ⟨K, hK, c⟩ k => ⟨K, PySem.W.Frag.In.keeps hK k, c⟩
noncomputable section
def obA (L : Lk) (s : PySem.W.SharedT) : AlA := obsA L (frL (HandSHeadRun.getT s) s.n)
def obB (L : Lk) (s : PySem.W.SharedT) : AlB := obsB L (frL (HandSHeadRun.getT s) s.n)
theorem obL_eq {L : Lk} (s : PySem.W.SharedT) : (obA L s, obB L s) = (hookL L).obs s.abs := by
  have e : HandSHeadRun.getT s = s.abs.heap.get? := funext (HandSHeadRun.getT_eq s)
  have n : s.abs.heap.objs.size = s.n := PySem.W.absHeap_size _ _ _
  show _ = (obsA L (frL s.abs.heap.get? s.abs.heap.objs.size), obsB L (frL s.abs.heap.get? s.abs.heap.objs.size))
  rw [n, ← e]; rfl
open HandSHeadRun PySem.W PySem.Calls in
def RunA (r : PySem.W.OpenRow) (q : Program) (L : Lk) (M : Nat) (loose : List Str) (w : World) : Prop :=
  ∀ os : OsState, (endF (stepQ (denQ tabQ) r.prog w) M r.prog w os).map (fun s => (looksF r.prog (boot_heap w.params) s.abs, HandSHeadRun.seenQ q loose (importedModules r.prog.main.body) (fun s => PySem.W.xlAt q [] s && PySem.W.recOk r.toRowW.records s) s.abs, obA L s)) = some (true, PySem.W.openGood q loose, valA L w)
open HandSHeadRun PySem.W PySem.Calls in
def RunB (r : PySem.W.OpenRow) (L : Lk) (M : Nat) (w : World) : Prop :=
  ∀ os : OsState, (endF (stepQ (denQ tabQ) r.prog w) M r.prog w os).map (obB L) = some (valB L)
theorem run_ab {r : PySem.W.OpenRow} {q : Program} {L : Lk} {M : Nat} {loose : List Str} {w : World} (a : RunA r q L M loose w) (b : RunB r L M w) : HandSHeadRun.RunEq r q (hookL L) (fun s => (obA L s, obB L s)) M loose w := by
  intro os
  obtain ⟨s, hs, e⟩ := Option.map_eq_some_iff.mp (a os)
  obtain ⟨s2, hs2, e2⟩ := Option.map_eq_some_iff.mp (b os)
  rw [hs] at hs2
  cases hs2
  obtain ⟨e3, e4⟩ := Prod.mk.inj e
  obtain ⟨e5, e6⟩ := Prod.mk.inj e4
  rw [hs]
  show some (_, _, obA L s, obB L s) = some (true, PySem.W.openGood q loose, valA L w, valB L)
  rw [e3, e5, e6, e2]
end
section
variable {L : Lk} {w : World} {K : PySem.W.Frag}
theorem SaysL.fact (c : SaysL L w K) (f : He.Fa) (i : Nat) (h : L.fa[i]? = some f := by rfl) : f.ok K = true :=
  List.all_eq_true.mp (show (L.fa.all fun f => f.ok K) = true from congrArg (fun z : AlA => z.1) c.1) f (List.mem_of_getElem? h)
theorem SaysL.def_ (c : SaysL L w K) (i : Nat) {d : He.FnD} (h : L.fn[i]? = some d := by rfl) :
    ∃ oc od osl kV doc pm an cdv ct, K.lookup (He.fAd K d.at_) = some ⟨oc, od, .func (PySem.W.fnOf d.name d.qual d.params d.body d.scope .none kV doc pm an cdv ct), osl⟩ ∧ PySem.W.codeIn K cdv d.qual = true := by
  have c2 : (L.fn.all fun d => (He.Fa.code d.at_ d.qual).ok K) = true := (Bool.and_eq_true_iff.mp (congrArg (fun z : AlB => z.1) c.2)).1
  have e : L.fn.map (fun d => He.fnObs K d.at_) = L.fn.map He.FnD.val := congrArg (fun z : AlB => z.2.1) c.2
  have e2 : (L.fn.map fun d => He.fnObs K d.at_)[i]? = (L.fn.map He.FnD.val)[i]? := by rw [e]
  rw [List.getElem?_map, List.getElem?_map, h] at e2
  exact He.fn_ok (Option.some.inj e2) (List.all_eq_true.mp c2 d (List.mem_of_getElem? h))
theorem SaysL.defC (c : SaysL L w K) (i : Nat) {d : He.FnD} (h : L.fc[i]? = some d := by rfl) :
    ∃ oc od osl kV doc pm an cdv ct cc, K.lookup (He.fAd K d.at_) = some ⟨oc, od, .func (PySem.W.ksFn d.name d.qual d.params d.body d.scope .none kV doc pm an cdv ct cc), osl⟩ ∧ PySem.W.codeIn K cdv d.qual = true := by
  have c2 : (L.fc.all fun d => (He.Fa.code d.at_ d.qual).ok K) = true := (Bool.and_eq_true_iff.mp (congrArg (fun z : AlB => z.1) c.2)).2
  have e : L.fc.map (fun d => fnObsC K d.at_) = L.fc.map valC := congrArg (fun z : AlB => z.2.2) c.2
  have e2 : (L.fc.map fun d => fnObsC K d.at_)[i]? = (L.fc.map valC)[i]? := by rw [e]
  rw [List.getElem?_map, List.getElem?_map, h] at e2
  have e3 : fnObsC K d.at_ = valC d := Option.some.inj e2
  have c3 : (match K.lookup (He.fAd K d.at_) with
    | some ⟨_, _, .func fd, _⟩ => PySem.W.codeIn K fd.code d.qual
    | _ => false) = true := List.all_eq_true.mp c2 d (List.mem_of_getElem? h)
  unfold fnObsC at e3
  cases q : K.lookup (He.fAd K d.at_) with
  | none =>
    rw [q] at c3
    cases c3
  | some o =>
    obtain ⟨oc, od, dt, osl⟩ := o
    rw [q] at c3 e3
    cases dt with
    | func fd =>
      obtain ⟨n1, n2, n3, n4, n5, n6, n7, n8, n9, n10, n11, n12, n13, n14, n15⟩ := fd
      have e2 : @Eq FnVC (some (n1, n2, n3, n4, n5, n6, n7.map (fun q => q.1), n8, n15)) (some (d.name, d.qual, d.params, .stmts d.body, d.scope, mainGlobals, ["__class__"], .none, builtinsNs)) := e3
      simp only [Option.some.injEq, Prod.mk.injEq] at e2
      obtain ⟨h1, h2, h3, h4, h5, h6, h7, h8, h9⟩ := e2
      subst h1 h2 h3 h4 h5 h6 h8 h9
      match n7, h7 with
      | [(y, cc)], h7 =>
        have : y = "__class__" := by simpa using h7
        subst this
        exact ⟨oc, od, osl, n9, n10, n11, n12, n13, n14, cc, rfl, c3⟩
    | _ => cases c3
theorem SaysL.tab (c : SaysL L w K) (i : Nat) {t : He.Tab} (h : L.ts[i]? = some t := by rfl) : He.dicW K (t.1 K) = some (He.keysIn w.params t.2) := by
  have e : L.ts.map (fun t => He.dicW K (t.1 K)) = L.ts.map fun t => some (He.keysIn w.params t.2) := congrArg (fun z : AlA => z.2.1) c.1
  have e2 : (L.ts.map fun t => He.dicW K (t.1 K))[i]? = (L.ts.map fun t => some (He.keysIn w.params t.2))[i]? := by rw [e]
  rw [List.getElem?_map, List.getElem?_map, h] at e2
  exact Option.some.inj e2
theorem SaysL.val (c : SaysL L w K) (i : Nat) {t : (PySem.W.Frag → Option (List (Option V))) × List (Option V)} (h : L.xo[i]? = some t := by rfl) : t.1 K = some t.2 := by
  have e : L.xo.map (fun t => t.1 K) = L.xo.map fun t => some t.2 := congrArg (fun z : AlA => z.2.2.1) c.1
  have e2 : (L.xo.map fun t => t.1 K)[i]? = (L.xo.map fun t => some t.2)[i]? := by rw [e]
  rw [List.getElem?_map, List.getElem?_map, h] at e2
  exact Option.some.inj e2
theorem SaysL.chk (c : SaysL L w K) (i : Nat) {f : PySem.W.Frag → Bool} (h : L.xb[i]? = some f := by rfl) : f K = true := by
  have e : (L.xb.all fun f => f K) = true := congrArg (fun z : AlA => z.2.2.2) c.1
  exact List.all_eq_true.mp e f (List.mem_of_getElem? h)
end
end Ly
set_option Elab.async false
set_option linter.all false
set_option maxRecDepth 100000
set_option maxHeartbeats 4000000
namespace Ly
open PySem PySem.Spec L2
open PyProof.Rows hiding St
structure Er0 (K : PySem.W.Frag) (C : Addr) : Prop where
  ex : PySem.W.excIn K C He.veBase "ValueError.__new__" = true
  kp : PySem.W.keepIn K (.ref C) = true
  sb : PySem.W.subIn K (.ref C) (.type "BaseException") = some true
  ty : PySem.W.typeIn K (.ref C) = some (.type "type")
def ErI (P : Program) (w : World) (K : PySem.W.Frag) (mg : Str → Option Value) (base : Heap) (C : Addr) (fs : List Str) (ps : List Jp) : Prop :=
  ∃ (D f : Addr) (fd : FuncData), MkE K C f D fs ∧ FnOk P w K mg base (L2.CX P w) 1 f fd (SELF :: fs) (spI K D fs ps) ∧ Binds K fd (SELF :: fs) []
section
variable {P : Program} {w : World} {K : PySem.W.Frag} {mg : Str → Option Value} {base : Heap}
theorem pass_f {N : List Str} {qual : Str} {scope : Scope} {f : Addr} {cdv : Value} {A : Around} {outer : List Env} {s : Shared} {H : Hp} {E : XK} :
    Passes (L2.CX P w) (cxOf (L2.CX P w) P w K mg base N qual scope f cdv A outer s H E) (fun _ _ _ => False) := passes_call (takes_of rfl rfl rfl rfl) fun _ _ _ _ h => h.elim
end
section
variable {X : Cx} {x : Str} {p pos pos' : Pos} {C : Addr} {fs : List Str} {ps : List Jp} {E0 : XK} {e : Expr} {es : List Expr} {fl : ML}
theorem s_rzI (hc : X.calm = true) (tk : Takes X fun cls d _ H => E0 cls d H) (R : ErI X.prog X.w X.K X.mg X.base C fs ps) (gC : X.mg x = some (.ref C)) (hr : Room 2 X.A) (hx : Passes (L2.CX X.prog X.w) X (fun _ _ _ => False)) (ha : LM X (fun _ => E0) (e :: es) fl) (hg : Gl X x := by rfl)
    (hdb : (x == ("__debug__" : Str)) = false := by decide) (he : starEach (e :: es) X.env = (false, eval e X.env) :: starEach es X.env := by rfl) (hpl : (backTo pos (starEach es X.env)).any (·.1) = false := by rfl) :
    SM X (fun _ => E0) (.Raise (some (.Call (.Name x p) (e :: es) [] pos)) none pos') (mRaiseI C fs ps fl) := by
  obtain ⟨D, f, fd, M, F1, B⟩ := R
  exact s_raiseI hc tk M F1 hr B hg gC hx ha hdb he hpl
end
def oexB (K : PySem.W.Frag) (C : Addr) : Bool := match K.lookup C with
  | some ⟨.type "type", _, .cls cd, sl⟩ => (match cd.mro, sl.toList with
    | .ref C' :: bm, [_, _, _, _, some (.builtin n), _] => C' == C && n == "ValueError.__new__" && !cd.hasDel && cd.hasDict && PySem.HandSPX.refsVE bm
    | _, _ => false)
  | _ => false
def errB (K : PySem.W.Frag) (C : Addr) : Bool := oexB K C && (He.eqO (PySem.W.findIn K (.ref C) "__setattr__") (some (some (.builtin "object.__setattr__"))) && (decide (PySem.W.subIn K (.ref C) (.type "BaseException") = some true) && (decide (PySem.W.typeIn K (.ref C) = some (.type "type")) && PySem.W.keepIn K (.ref C))))
def supB (K : PySem.W.Frag) (C D : Addr) : Bool := decide (PySem.W.mroIn K C (.ref D) = some true) && (decide (PySem.W.ks_superIn K C D "__init__" = some (some (.builtin "ValueError.__init__"))) && (decide (PySem.W.subIn K (.ref C) (.type "ValueError") = some true) && decide (PySem.W.nsIn K cStatics "thirdparty.any" = some none)))
def mkeB (K : PySem.W.Frag) (C f D : Addr) (fs : List Str) : Bool := errB K C && (supB K C D && ((fs.all fun x => He.eqO (PySem.W.findIn K (.ref C) x) (some none)) && (He.eqO (PySem.W.findIn K (.ref C) "__init__") (some (some (.ref f))) && decide (PySem.W.typeIn K (.ref f) = some (.type "function")))))
def excCB (K : PySem.W.Frag) (D : Addr) : Bool := He.eqO (PySem.W.findIn K (.ref D) "__getattribute__") (some (some (.builtin "BaseException.__getattribute__"))) && (He.eqO (PySem.W.findIn K (.ref D) "__getattr__") (some none) && (decide (PySem.W.subIn K (.ref D) (.type "BaseException") = some true) && (PySem.W.hasDictIn K D &&
  (He.eqO (PySem.W.findIn K (.ref D) "__class__") (some (some (.builtin "object.__class__"))) && (He.eqO (PySem.W.specialIn K (.builtin "object.__class__") "__get__") (some (some (.builtin "getset_descriptor.__get__"))) && (decide (PySem.W.takesIn K (.builtin "object.__class__") = some true) && decide (PySem.W.mroIn K D (.type "object") = some true)))))))
def iniB (K : PySem.W.Frag) (p : Str × Option Str) (D : Addr) (file : Str) : Bool := match K.lookup (He.fAd K p) with
  | some ⟨_, _, .func fd, _⟩ => (match fd.closure with
      | [(_, cc)] => (match K.lookup cc with
        | some ⟨_, _, .cell (some (.ref D')), _⟩ => decide (D' = D)
        | _ => false)
      | _ => false) && ((match fd.code with
      | .ref cda => (match K.lookup cda with
        | some ⟨_, _, .fields vs, _⟩ => (match vs[2]? with
          | some (Value.str fl _) => file == fl
          | _ => false)
        | _ => false)
      | _ => false) && (PySem.W.clsIn K D).isSome)
  | _ => false
def exmB (K : PySem.W.Frag) (c : Addr) (tab : Tb) : Bool := tab.all fun q => decide (PySem.W.exmOne K (.ref q.1) (.ref c) = some q.2)
def isB (K : PySem.W.Frag) (c : Addr) (tab : Tb) : Bool := tab.all fun q => excCB K q.1 && decide (PySem.W.kitOne K (.ref q.1) (.ref c) = some q.2)
def isTB (K : PySem.W.Frag) (cs : List Addr) (tab : Tb) : Bool := tab.all fun q => excCB K q.1 && decide (PySem.W.kitAny K (.ref q.1) (cs.map Value.ref) = some q.2)
def fldB (K : PySem.W.Frag) (f : Str) (tab : Tb) : Bool := tab.all fun q => !q.2 || (xfB K q.1 && He.eqO (PySem.W.findIn K (.ref q.1) f) (some none))
section
variable {K : PySem.W.Frag} {C D f c : Addr} {fs : List Str} {tab : Tb} {cs : List Addr} {x : Str}
open He (ba eqO_ok)
theorem errB_ok (h : errB K C = true) : OexC K C := by
  obtain ⟨h1, h⟩ := ba h
  obtain ⟨h2, h⟩ := ba h
  obtain ⟨h3, h⟩ := ba h
  obtain ⟨h4, h5⟩ := ba h
  refine ⟨?_, eqO_ok h2, of_decide_eq_true h3, of_decide_eq_true h4, h5⟩
  unfold oexB at h1
  split at h1
  · rename_i dd cd sl ho
    split at h1
    · rename_i C' bm k0 k1 k2 k3 n k5 hm hs
      simp only [Bool.and_eq_true, beq_iff_eq, Bool.not_eq_true'] at h1
      obtain ⟨⟨⟨⟨rfl, rfl⟩, hdel⟩, hd⟩, ht⟩ := h1
      obtain ⟨nm, bs, mro, ns, qn, hd', sn, sub, ab, col, del⟩ := cd
      dsimp only at hm hdel hd
      subst hm hdel hd
      have hsl : sl = #[k0, k1, k2, k3, some (.builtin "ValueError.__new__"), k5] := by
        obtain ⟨l⟩ := sl
        simp only at hs
        rw [hs]
      subst hsl
      exact ⟨nm, qn, ns, bs, bm, sn, sub, ab, col, dd, k0, k1, k2, k3, k5, ho, ht⟩
    · cases h1
  · cases h1
theorem mkeB_ok (h : mkeB K C f D fs = true) : MkE K C f D fs := by
  obtain ⟨h1, h⟩ := ba h
  obtain ⟨h2, h⟩ := ba h
  obtain ⟨h3, h⟩ := ba h
  obtain ⟨h4, h5⟩ := ba h
  obtain ⟨a1, h2⟩ := ba h2
  obtain ⟨a2, h2⟩ := ba h2
  obtain ⟨a3, a4⟩ := ba h2
  exact ⟨errB_ok h1, ⟨errB_ok h1, of_decide_eq_true a1, of_decide_eq_true a2, of_decide_eq_true a3, of_decide_eq_true a4⟩, fun x hx => eqO_ok (List.all_eq_true.mp h3 x hx), eqO_ok h4, of_decide_eq_true h5⟩
theorem excCB_ok (h : excCB K D = true) : ExcC K D := by
  obtain ⟨h1, h⟩ := ba h
  obtain ⟨h2, h⟩ := ba h
  obtain ⟨h3, h⟩ := ba h
  obtain ⟨h4, h⟩ := ba h
  obtain ⟨h5, h⟩ := ba h
  obtain ⟨h6, h⟩ := ba h
  obtain ⟨h7, h8⟩ := ba h
  exact ⟨eqO_ok h1, eqO_ok h2, of_decide_eq_true h3, h4, eqO_ok h5, eqO_ok h6, of_decide_eq_true h7, of_decide_eq_true h8⟩
theorem exmB_ok (h : exmB K c tab = true) : ∀ q ∈ tab, PySem.W.exmOne K (.ref q.1) (.ref c) = some q.2 := fun q hq => of_decide_eq_true (List.all_eq_true.mp h q hq)
theorem isB_ok (h : isB K c tab = true) : ∀ q ∈ tab, ExcC K q.1 ∧ PySem.W.kitOne K (.ref q.1) (.ref c) = some q.2 := fun q hq => by
  obtain ⟨a, b⟩ := ba (List.all_eq_true.mp h q hq)
  exact ⟨excCB_ok a, of_decide_eq_true b⟩
theorem isTB_ok (h : isTB K cs tab = true) : ∀ q ∈ tab, ExcC K q.1 ∧ PySem.W.kitAny K (.ref q.1) (cs.map Value.ref) = some q.2 := fun q hq => by
  obtain ⟨a, b⟩ := ba (List.all_eq_true.mp h q hq)
  exact ⟨excCB_ok a, of_decide_eq_true b⟩
theorem fldB_ok (h : fldB K x tab = true) : ∀ q ∈ tab, q.2 = true → XfC K q.1 ∧ PySem.W.findIn K (.ref q.1) x = some none := fun q hq e => by
  have := List.all_eq_true.mp h q hq
  rw [e] at this
  obtain ⟨a, b⟩ := ba (by simpa using this)
  exact ⟨xfB_ok a, eqO_ok (by simpa using b)⟩
theorem ini_of {P : Program} {mg : Str → Option Value} {at_ : Str × Option Str} {qual : Str} {st : Stmt} {N : List Str} {oc : Value} {od : Option Addr} {osl : Array (Option Value)} {kV doc pm cdv ct : Value} {an : Option Addr} {cc : Addr} {file : Str}
    (lk : K.lookup (He.fAd K at_) = some ⟨oc, od, .func (PySem.W.ksFn "__init__" qual (defArgs st) (defBody st) (defScope st) .none kV doc pm an cdv ct cc), osl⟩) (hcd : PySem.W.codeIn K cdv qual = true) (h : iniB K at_ D file = true) (hf : P.main.file = file) (su : mg "super" = none)
    (top : (P.main.scope.names.lookup ("super" : Str)).isSome = false) (par : ∃ ar : Arg, ((defArgs st).posonlyargs ++ (defArgs st).args).head? = some ar ∧ ar.arg = "self")
    (sc : (defScope st).isCoroutine = false ∧ (defScope st).isGenerator = false ∧ (defScope st).kind = .function ∧ (∀ x ∈ (defScope st).names, x.2 ≠ .cell) ∧ (∀ y ∈ N, (defScope st).names.lookup y = some .local) ∧
    (∀ y, ((defScope st).names.lookup y = some .cell ∨ (defScope st).names.lookup y = some .free) → y = "__class__") ∧ (defScope st).names.lookup ("super" : Str) = some .globalImplicit ∧ (defScope st).names.lookup ("__class__" : Str) = some .free) (nd : N.Nodup) :
    IniAt K P mg qual st N (He.fAd K at_) D (PySem.W.ksFn "__init__" qual (defArgs st) (defBody st) (defScope st) .none kV doc pm an cdv ct cc) := by
  unfold iniB at h
  rw [lk] at h
  simp only [PySem.W.ksFn] at h
  obtain ⟨h1, h⟩ := ba h
  obtain ⟨h2, h3⟩ := ba h
  obtain ⟨cD, hD⟩ := Option.isSome_iff_exists.mp h3
  cases cdv with
  | ref cda =>
    refine ⟨⟨oc, od, kV, doc, pm, an, cda, cc, ct, osl, rfl, lk, hcd, ⟨⟨oc, od, osl, lk⟩, par, ?_, ?_, ⟨cD, hD⟩, su, top⟩⟩, sc, nd⟩
    · dsimp only at h2
      split at h2
      · rename_i a1 a2 vs a4 hc
        split at h2
        · rename_i fl tk hv
          exact ⟨_, _, vs, _, fl, tk, hc, hv, by rw [hf]; exact h2⟩
        · cases h2
      · cases h2
    · split at h1
      · rename_i a1 a2 D' a4 hc
        have := of_decide_eq_true h1
        subst this
        exact ⟨_, _, _, hc⟩
      · cases h1
  | _ => simp at h2
end
theorem erI_mk {P : Program} {w : World} {K : PySem.W.Frag} {mg : Str → Option Value} {base : Heap} {C D f : Addr} {fd : FuncData} {fs : List Str} {ps : List Jp} (M : MkE K C f D fs) (F1 : FnOk P w K mg base (L2.CX P w) 1 f fd (SELF :: fs) (spI K D fs ps)) (B : Binds K fd (SELF :: fs) []) :
    ErI P w K mg base C fs ps := ⟨D, f, fd, M, F1, B⟩
theorem lookup_memA {β : Type} {x : Str} {b : β} : ∀ {l : List (Str × β)}, l.lookup x = some b → (x, b) ∈ l
  | [], h => by cases h
  | (y, c) :: l, h => by
    simp only [List.lookup] at h
    split at h
    · rename_i e
      cases h
      have : x = y := by simpa using e
      subst this
      exact List.mem_cons_self
    · exact List.mem_cons_of_mem _ (lookup_memA h)
theorem free_only {l : List (Str × NameKind)} (h : (l.all fun x => !(x.2 == .cell || x.2 == .free) || x.1 == ("__class__" : Str)) = true) : ∀ y, (l.lookup y = some .cell ∨ l.lookup y = some .free) → y = "__class__" := fun y hy => by
  rcases hy with hy | hy
  · have := List.all_eq_true.mp h _ (lookup_memA hy)
    simpa using this
  · have := List.all_eq_true.mp h _ (lookup_memA hy)
    simpa using this
end Ly
set_option Elab.async false
set_option linter.all false
set_option maxRecDepth 100000
namespace Ly
open PySem PySem.Spec L2
open PyProof.Rows hiding St
def wsS : Str := "_0123456789abcdefghijklmnopqrstuvwxyzABCDEFGHIJKLMNOPQRSTUVWXYZ"
def digS : Str := "0123456789"
def letS : Str := "abcdefghijklmnopqrstuvwxyzABCDEFGHIJKLMNOPQRSTUVWXYZ"
def kwL : List Str := ["public", "secret", "array", "fn", "main", "return", "if", "else", "for", "to", "max", "out", "div", "mod"]
def longL : List Str := ["<=", "<<", ">>", "=="]
def shortL : List Str := ["{", "}", "(", ")", "[", "]", ",", ";", "=", "+", "-", "*", "&", "|", "^", "!", "?", ":", "<"]
def isWs (c : Nat) : Bool := decide (c ∈ wsS.cps.toList)
def isDig (c : Nat) : Bool := decide (c ∈ digS.cps.toList)
def isLet (c : Nat) : Bool := decide (c ∈ letS.cps.toList)
def wtS (xs : List Str) : D := .wt (xs.map .str)
theorem in_wtS {x : Str} {xs : List Str} {S : Hs} : oIn (.str x) (wtS xs) S = .ok (.bl (xs.any fun z => z == x)) S := by
  have h1 : (xs.map D.str).all flatD = true := by simp [flatD]
  have h2 : (xs.map D.str).any (fun z => eqF z (.str x)) = xs.any fun z => z == x := by
    rw [List.any_map]; rfl
  have h : cIn (.str x) (wtS xs) S = some (xs.any fun z => z == x) := by
    simp [cIn, wtS, flatD, h2]
  simp [oIn, h]
section bodies
def b_comment : MS := (mSeq (mSet 2 (mBM "str" oFind (mVar 0) (lCons (mC (.str "\n")) (lCons (mVar 1) lNil))))
    (mRet (mIf (mCmp oLt (mVar 2) (mC (.int 0))) (mCall bLen (lCons (mVar 0) lNil)) (mVar 2))))
def b_wordC : MB := (mAndB (mCmp oLt (mVar 2) (mCall bLen (lCons (mVar 0) lNil))) (mCmp oIn (mBin oIx (mVar 0) (mVar 2)) (mC (.str wsS))))
def b_wordB : MS := (mAug 2 oIAdd (mC (.int 1)))
noncomputable def b_word : MS := (mSeq (mSet 2 (mVar 1))
    (mSeq (mWhile b_wordC b_wordB)
    (mRet (mSl (mVar 0) (oSome (mVar 1)) (oSome (mVar 2))))))
def b_numB : MS := (mIfS (mCmp oNotIn (mVar 1) (mC (.str digS))) (mRet (mC (.bl false))) mPass)
noncomputable def b_num : MS := (mSeq (mIfS (mOrB (mCmp oGt (mCall bLen (lCons (mVar 0) lNil)) (mC (.int 10))) (mAndB (mCmp oGt (mCall bLen (lCons (mVar 0) lNil)) (mC (.int 1))) (mCmp oEq (mBin oIx (mVar 0) (mC (.int 0))) (mC (.str "0"))))) (mRet (mC (.bl false))) mPass)
    (mSeq (mFor (mIt (mVar 0)) (gN 1) b_numB)
    (mRet (mBin oLe (mCall bInt (lCons (mVar 0) lNil)) (mC (.int 4294967295))))))
noncomputable def b_token (r1 r2 : MS) : MS := (mSeq (mSet 4 (mBin oIx (mVar 0) (mVar 1)))
    (mSeq (mIfS (mCmp oIn (mVar 4) (mC (.str letS))) (mSeq (mSet 5 (mFn (mDef 2 1 b_word) (lCons (mVar 0) (lCons (mVar 1) lNil))))
    (mSeq (mSet 6 (mIf (mCmp oIn (mVar 5) (mC (wtS kwL))) (mC (.str "keyword")) (mC (.str "name"))))
    (mRet (mTup (lCons (mVar 6) (lCons (mVar 5) (lCons (mVar 2) (lCons (mVar 3) lNil)))))))) mPass)
    (mSeq (mIfS (mCmp oIn (mVar 4) (mC (.str digS))) (mSeq (mSet 5 (mFn (mDef 2 1 b_word) (lCons (mVar 0) (lCons (mVar 1) lNil))))
    (mSeq (mIfS (mNotB (mTru (mFn (mDef 1 1 b_num) (lCons (mVar 5) lNil)))) r1 mPass)
    (mRet (mTup (lCons (mC (.str "number")) (lCons (mVar 5) (lCons (mVar 2) (lCons (mVar 3) lNil)))))))) mPass)
    (mSeq (mSet 7 (mSl (mVar 0) (oSome (mVar 1)) (oSome (mBin oAdd (mVar 1) (mC (.int 2))))))
    (mSeq (mIfS (mCmp oIn (mVar 7) (mC (wtS longL))) (mRet (mTup (lCons (mC (.str "sign")) (lCons (mVar 7) (lCons (mVar 2) (lCons (mVar 3) lNil)))))) mPass)
    (mSeq (mIfS (mCmp oIn (mVar 4) (mC (wtS shortL))) (mRet (mTup (lCons (mC (.str "sign")) (lCons (mVar 4) (lCons (mVar 2) (lCons (mVar 3) lNil)))))) mPass)
    r2))))))
def b_toksC : MB := (mCmp oLt (mVar 2) (mCall bLen (lCons (mVar 0) lNil)))
noncomputable def b_toksB (r1 r2 : MS) : MS := (mSeq (mSet 5 (mBin oIx (mVar 0) (mVar 2)))
    (mIfS (mCmp oEq (mVar 5) (mC (.str "\n"))) (mSeq (mAug 2 oIAdd (mC (.int 1)))
    (mSeq (mAug 3 oIAdd (mC (.int 1)))
    (mSet 4 (mVar 2)))) (mIfS (mCmp oEq (mVar 5) (mC (.str " "))) (mAug 2 oIAdd (mC (.int 1))) (mIfS (mCmp oEq (mVar 5) (mC (.str "#"))) (mSet 2 (mFn (mDef 2 1 b_comment) (lCons (mVar 0) (lCons (mVar 2) lNil)))) (mSeq (mSet 6 (mFn (mDef 4 4 (b_token r1 r2)) (lCons (mVar 0) (lCons (mVar 2) (lCons (mVar 3) (lCons (mBin oAdd (mBin oSub (mVar 2) (mVar 4)) (mC (.int 1))) lNil))))))
    (mSeq (mExpr (mBM "list" oAppend (mVar 1) (lCons (mVar 6) lNil)))
    (mAug 2 oIAdd (mCall bLen (lCons (mBin oIx (mVar 6) (mC (.int 1))) lNil)))))))))
noncomputable def b_toks (r1 r2 : MS) : MS := (mSeq (mSet 1 (mLst lNil))
    (mSeq (mSet 2 (mC (.int 0)))
    (mSeq (mSet 3 (mC (.int 1)))
    (mSeq (mSet 4 (mC (.int 0)))
    (mSeq (mWhile b_toksC (b_toksB r1 r2))
    (mSeq (mExpr (mBM "list" oAppend (mVar 1) (lCons (mTup (lCons (mC (.str "end")) (lCons (mC (.str "")) (lCons (mVar 3) (lCons (mBin oAdd (mBin oSub (mVar 2) (mVar 4)) (mC (.int 1))) lNil))))) lNil)))
    (mRet (mVar 1))))))))
end bodies
section
theorem nlS : (("\n" : Str)) = ⟨#[10]⟩ := by decide +kernel
theorem spS : (("\n" : Str)) = tx [10] ∧ ((" " : Str)) = tx [32] ∧ (("#" : Str)) = tx [35] ∧ (("0" : Str)) = tx [48] := by decide +kernel
theorem len_tx {cs : List Nat} {S : Hs} (hl : cs.length ≤ sizeLine) : bLen [.str (tx cs)] S = .ok (.int (cs.length : Int)) S := by
  simp [mSeq, mSet, mRet, mBin, mCall, lCons, lNil, mVar, mC, mIfS, mCmp, mAndB, mOrB, mNotB, mTru, mIf, mAnd, mOr, mPass, mExpr, mBM, mAug, mAsg, gN, gT, gsC, gsN, mFn, mTup, mSl, oSome, mUn, mFor, mIt, mRng1, bLen, lenD, oLt, oLe, oGt, oGe, oAppend, oFind, hasTy, mDef, endOf, oIAdd, oSub, oIt, bLen, lenD, hl]
theorem in_list {c : Nat} {z : Str} {S : Hs} : oIn (.str (tx [c])) (.str z) S = .ok (.bl (decide (c ∈ z.cps.toList))) S := rfl
theorem word_loop {cs : List Nat} (hl : cs.length ≤ sizeLine) {S : Hs} {x1 : Option D} : ∀ (w pre rest : List Nat), cs = pre ++ w ++ rest → w.all isWs = true → (∀ c, rest.head? = some c → isWs c = false) →
    mWhile b_wordC b_wordB [some (.str (tx cs)), x1, some (.int (pre.length : Int))] S = .ok (.nx [some (.str (tx cs)), x1, some (.int ((pre.length + w.length : Nat) : Int))]) S
  | [], pre, rest, hc, _, hr => by
    have hC : b_wordC [some (.str (tx cs)), x1, some (.int (pre.length : Int))] S = .ok false S := by
      cases rest with
      | nil =>
        have : ¬ (pre.length : Int) < (cs.length : Int) := by rw [hc]; simp [mSeq, mSet, mRet, mBin, mCall, lCons, lNil, mVar, mC, mIfS, mCmp, mAndB, mOrB, mNotB, mTru, mIf, mAnd, mOr, mPass, mExpr, mBM, mAug, mAsg, gN, gT, gsC, gsN, mFn, mTup, mSl, oSome, mUn, mFor, mIt, mRng1, bLen, lenD, oLt, oLe, oGt, oGe, oAppend, oFind, hasTy, mDef, endOf, oIAdd, oSub, oIt]
        simp [mSeq, mSet, mRet, mBin, mCall, lCons, lNil, mVar, mC, mIfS, mCmp, mAndB, mOrB, mNotB, mTru, mIf, mAnd, mOr, mPass, mExpr, mBM, mAug, mAsg, gN, gT, gsC, gsN, mFn, mTup, mSl, oSome, mUn, mFor, mIt, mRng1, lenD, oLt, oLe, oGt, oGe, oAppend, oFind, hasTy, mDef, endOf, oIAdd, oSub, oIt, b_wordC, this, len_tx hl,]
      | cons c rest =>
        have hg : cs[pre.length]? = some c := by rw [hc]; simp [mSeq, mSet, mRet, mBin, mCall, lCons, lNil, mVar, mC, mIfS, mCmp, mAndB, mOrB, mNotB, mTru, mIf, mAnd, mOr, mPass, mExpr, mBM, mAug, mAsg, gN, gT, gsC, gsN, mFn, mTup, mSl, oSome, mUn, mFor, mIt, mRng1, bLen, lenD, oLt, oLe, oGt, oGe, oAppend, oFind, hasTy, mDef, endOf, oIAdd, oSub, oIt]
        have : (pre.length : Int) < (cs.length : Int) := by rw [hc]; simp [mSeq, mSet, mRet, mBin, mCall, lCons, lNil, mVar, mC, mIfS, mCmp, mAndB, mOrB, mNotB, mTru, mIf, mAnd, mOr, mPass, mExpr, mBM, mAug, mAsg, gN, gT, gsC, gsN, mFn, mTup, mSl, oSome, mUn, mFor, mIt, mRng1, bLen, lenD, oLt, oLe, oGt, oGe, oAppend, oFind, hasTy, mDef, endOf, oIAdd, oSub, oIt]; omega
        have hw : decide (c ∈ wsS.cps.toList) = false := hr c rfl
        simp [mSeq, mSet, mRet, mBin, mCall, lCons, lNil, mVar, mC, mIfS, mCmp, mAndB, mOrB, mNotB, mTru, mIf, mAnd, mOr, mPass, mExpr, mBM, mAug, mAsg, gN, gT, gsC, gsN, mFn, mTup, mSl, oSome, mUn, mFor, mIt, mRng1, lenD, oLt, oLe, oGt, oGe, oAppend, oFind, hasTy, mDef, endOf, oIAdd, oSub, oIt, b_wordC, this, len_tx hl, ix_tx hg hl, in_list, hw, -Array.mem_toList_iff, -decide_eq_false_iff_not]
    rw [mWhile_eq, hC]
    simp [mSeq, mSet, mRet, mBin, mCall, lCons, lNil, mVar, mC, mIfS, mCmp, mAndB, mOrB, mNotB, mTru, mIf, mAnd, mOr, mPass, mExpr, mBM, mAug, mAsg, gN, gT, gsC, gsN, mFn, mTup, mSl, oSome, mUn, mFor, mIt, mRng1, bLen, lenD, oLt, oLe, oGt, oGe, oAppend, oFind, hasTy, mDef, endOf, oIAdd, oSub, oIt]
  | c :: w, pre, rest, hc, hw, hr => by
    have hg : cs[pre.length]? = some c := by rw [hc]; simp [mSeq, mSet, mRet, mBin, mCall, lCons, lNil, mVar, mC, mIfS, mCmp, mAndB, mOrB, mNotB, mTru, mIf, mAnd, mOr, mPass, mExpr, mBM, mAug, mAsg, gN, gT, gsC, gsN, mFn, mTup, mSl, oSome, mUn, mFor, mIt, mRng1, bLen, lenD, oLt, oLe, oGt, oGe, oAppend, oFind, hasTy, mDef, endOf, oIAdd, oSub, oIt]
    have hlt : (pre.length : Int) < (cs.length : Int) := by rw [hc]; simp [mSeq, mSet, mRet, mBin, mCall, lCons, lNil, mVar, mC, mIfS, mCmp, mAndB, mOrB, mNotB, mTru, mIf, mAnd, mOr, mPass, mExpr, mBM, mAug, mAsg, gN, gT, gsC, gsN, mFn, mTup, mSl, oSome, mUn, mFor, mIt, mRng1, bLen, lenD, oLt, oLe, oGt, oGe, oAppend, oFind, hasTy, mDef, endOf, oIAdd, oSub, oIt]; omega
    simp only [List.all_cons, Bool.and_eq_true] at hw
    have hin : decide (c ∈ wsS.cps.toList) = true := hw.1
    have hC : b_wordC [some (.str (tx cs)), x1, some (.int (pre.length : Int))] S = .ok true S := by
      simp [mSeq, mSet, mRet, mBin, mCall, lCons, lNil, mVar, mC, mIfS, mCmp, mAndB, mOrB, mNotB, mTru, mIf, mAnd, mOr, mPass, mExpr, mBM, mAug, mAsg, gN, gT, gsC, gsN, mFn, mTup, mSl, oSome, mUn, mFor, mIt, mRng1, lenD, oLt, oLe, oGt, oGe, oAppend, oFind, hasTy, mDef, endOf, oIAdd, oSub, oIt, b_wordC, hlt, len_tx hl, ix_tx hg hl, in_list, hin, -Array.mem_toList_iff, -decide_eq_true_eq]
    have hB : b_wordB [some (.str (tx cs)), x1, some (.int (pre.length : Int))] S = .ok (.nx [some (.str (tx cs)), x1, some (.int ((pre ++ [c]).length : Int))]) S := by
      simp [mSeq, mSet, mRet, mBin, mCall, lCons, lNil, mVar, mC, mIfS, mCmp, mAndB, mOrB, mNotB, mTru, mIf, mAnd, mOr, mPass, mExpr, mBM, mAug, mAsg, gN, gT, gsC, gsN, mFn, mTup, mSl, oSome, mUn, mFor, mIt, mRng1, bLen, lenD, oLt, oLe, oGt, oGe, oAppend, oFind, hasTy, mDef, endOf, oIAdd, oSub, oIt, b_wordB]
    have ih := word_loop hl (S := S) (x1 := x1) w (pre ++ [c]) rest (by rw [hc]; simp [mSeq, mSet, mRet, mBin, mCall, lCons, lNil, mVar, mC, mIfS, mCmp, mAndB, mOrB, mNotB, mTru, mIf, mAnd, mOr, mPass, mExpr, mBM, mAug, mAsg, gN, gT, gsC, gsN, mFn, mTup, mSl, oSome, mUn, mFor, mIt, mRng1, bLen, lenD, oLt, oLe, oGt, oGe, oAppend, oFind, hasTy, mDef, endOf, oIAdd, oSub, oIt]) hw.2 hr
    rw [mWhile_eq, hC]
    simp only [R.bind_ok, if_true, hB, ih]
    simp [mSeq, mSet, mRet, mBin, mCall, lCons, lNil, mVar, mC, mIfS, mCmp, mAndB, mOrB, mNotB, mTru, mIf, mAnd, mOr, mPass, mExpr, mBM, mAug, mAsg, gN, gT, gsC, gsN, mFn, mTup, mSl, oSome, mUn, mFor, mIt, mRng1, bLen, lenD, oLt, oLe, oGt, oGe, oAppend, oFind, hasTy, mDef, endOf, oIAdd, oSub, oIt]
    omega
theorem word_ok {pre w rest : List Nat} {S : Hs} (hl : (pre ++ w ++ rest).length ≤ sizeLine) (hw : w.all isWs = true) (hr : ∀ c, rest.head? = some c → isWs c = false) :
    mDef 2 1 b_word [.str (tx (pre ++ w ++ rest)), .int (pre.length : Int)] S = .ok (.str (tx w)) S := by
  have h := word_loop hl (S := S) (x1 := some (.int (pre.length : Int))) w pre rest rfl hw hr
  have hs : oSl (.str (tx (pre ++ w ++ rest))) (some (pre.length : Int)) (some ((pre.length + w.length : Nat) : Int)) S = .ok (.str (tx w)) S := by
    rw [sl_tx (by omega) hl]
    simp [mSeq, mSet, mRet, mBin, mCall, lCons, lNil, mVar, mC, mIfS, mCmp, mAndB, mOrB, mNotB, mTru, mIf, mAnd, mOr, mPass, mExpr, mBM, mAug, mAsg, gN, gT, gsC, gsN, mFn, mTup, mSl, oSome, mUn, mFor, mIt, mRng1, bLen, lenD, oLt, oLe, oGt, oGe, oAppend, oFind, hasTy, mDef, endOf, oIAdd, oSub, oIt]
  simp [mSeq, mSet, mRet, mBin, mCall, lCons, lNil, mVar, mC, mIfS, mCmp, mAndB, mOrB, mNotB, mTru, mIf, mAnd, mOr, mPass, mExpr, mBM, mAug, mAsg, gN, gT, gsC, gsN, mFn, mTup, mSl, oSome, mUn, mFor, mIt, mRng1, bLen, lenD, oLt, oLe, oGt, oGe, oAppend, oFind, hasTy, mDef, endOf, oIAdd, oSub, oIt, -List.append_assoc, b_word, h]
  rw [← Int.natCast_add, hs]
  simp [mSeq, mSet, mRet, mBin, mCall, lCons, lNil, mVar, mC, mIfS, mCmp, mAndB, mOrB, mNotB, mTru, mIf, mAnd, mOr, mPass, mExpr, mBM, mAug, mAsg, gN, gT, gsC, gsN, mFn, mTup, mSl, oSome, mUn, mFor, mIt, mRng1, bLen, lenD, oLt, oLe, oGt, oGe, oAppend, oFind, hasTy, mDef, endOf, oIAdd, oSub, oIt]
theorem firstC_app (c : Nat) : ∀ (xs ys : List Nat) (a : Nat), c ∉ xs → firstC c (xs ++ ys) a = firstC c ys (a + xs.length)
  | [], ys, a, _ => by simp [mSeq, mSet, mRet, mBin, mCall, lCons, lNil, mVar, mC, mIfS, mCmp, mAndB, mOrB, mNotB, mTru, mIf, mAnd, mOr, mPass, mExpr, mBM, mAug, mAsg, gN, gT, gsC, gsN, mFn, mTup, mSl, oSome, mUn, mFor, mIt, mRng1, bLen, lenD, oLt, oLe, oGt, oGe, oAppend, oFind, hasTy, mDef, endOf, oIAdd, oSub, oIt]
  | x :: r, ys, a, h => by
    have hx : x ≠ c := fun e => h (by simp [mSeq, mSet, mRet, mBin, mCall, lCons, lNil, mVar, mC, mIfS, mCmp, mAndB, mOrB, mNotB, mTru, mIf, mAnd, mOr, mPass, mExpr, mBM, mAug, mAsg, gN, gT, gsC, gsN, mFn, mTup, mSl, oSome, mUn, mFor, mIt, mRng1, bLen, lenD, oLt, oLe, oGt, oGe, oAppend, oFind, hasTy, mDef, endOf, oIAdd, oSub, oIt, e])
    simp only [List.cons_append, firstC, if_neg hx, List.length_cons]
    rw [firstC_app c r ys (a + 1) (fun m => h (List.mem_cons_of_mem _ m)), Nat.add_assoc, Nat.add_comm 1]
theorem comment_ok {pre body rest : List Nat} {S : Hs} (hl : (pre ++ body ++ rest).length ≤ sizeLine) (hb : 10 ∉ body) (hr : rest = [] ∨ rest.head? = some 10) :
    mDef 2 1 b_comment [.str (tx (pre ++ body ++ rest)), .int (pre.length : Int)] S = .ok (.int ((pre.length + body.length : Nat) : Int)) S := by
  have hd : (pre ++ body ++ rest).drop pre.length = body ++ rest := by simp [mSeq, mSet, mRet, mBin, mCall, lCons, lNil, mVar, mC, mIfS, mCmp, mAndB, mOrB, mNotB, mTru, mIf, mAnd, mOr, mPass, mExpr, mBM, mAug, mAsg, gN, gT, gsC, gsN, mFn, mTup, mSl, oSome, mUn, mFor, mIt, mRng1, bLen, lenD, oLt, oLe, oGt, oGe, oAppend, oFind, hasTy, mDef, endOf, oIAdd, oSub, oIt]
  have hf := find3_tx (pre ++ body ++ rest) 10 pre.length (by simp [mSeq, mSet, mRet, mBin, mCall, lCons, lNil, mVar, mC, mIfS, mCmp, mAndB, mOrB, mNotB, mTru, mIf, mAnd, mOr, mPass, mExpr, mBM, mAug, mAsg, gN, gT, gsC, gsN, mFn, mTup, mSl, oSome, mUn, mFor, mIt, mRng1, bLen, lenD, oLt, oLe, oGt, oGe, oAppend, oFind, hasTy, mDef, endOf, oIAdd, oSub, oIt])
  rw [hd, firstC_app 10 body rest _ hb] at hf
  rcases hr with rfl | hr
  · have h1 : Txt.find3 (tx (pre ++ body ++ [])) "\n" (pre.length : Int) = -1 := by rw [nlS, hf]; rfl
    simp only [List.append_nil] at h1 hl ⊢
    simp [mSeq, mSet, mRet, mBin, mCall, lCons, lNil, mVar, mC, mIfS, mCmp, mAndB, mOrB, mNotB, mTru, mIf, mAnd, mOr, mPass, mExpr, mBM, mAug, mAsg, gN, gT, gsC, gsN, mFn, mTup, mSl, oSome, mUn, mFor, mIt, mRng1, lenD, oLt, oLe, oGt, oGe, oAppend, oFind, hasTy, mDef, endOf, oIAdd, oSub, oIt, b_comment, h1, len_tx hl,]
  · cases rest with
    | nil => cases hr
    | cons c rest =>
      simp only [List.head?_cons, Option.some.injEq] at hr
      subst hr
      have h1 : Txt.find3 (tx (pre ++ body ++ 10 :: rest)) "\n" (pre.length : Int) = ((pre.length + body.length : Nat) : Int) := by rw [nlS, hf]; simp [mSeq, mSet, mRet, mBin, mCall, lCons, lNil, mVar, mC, mIfS, mCmp, mAndB, mOrB, mNotB, mTru, mIf, mAnd, mOr, mPass, mExpr, mBM, mAug, mAsg, gN, gT, gsC, gsN, mFn, mTup, mSl, oSome, mUn, mFor, mIt, mRng1, bLen, lenD, oLt, oLe, oGt, oGe, oAppend, oFind, hasTy, mDef, endOf, oIAdd, oSub, oIt, firstC]
      have h2 : ¬ (((pre.length + body.length : Nat) : Int) < 0) := by omega
      generalize tx (pre ++ body ++ 10 :: rest) = t at h1 ⊢
      generalize ((pre.length + body.length : Nat) : Int) = v at h1 h2 ⊢
      simp [mSeq, mSet, mRet, mBin, mCall, lCons, lNil, mVar, mC, mIfS, mCmp, mAndB, mOrB, mNotB, mTru, mIf, mAnd, mOr, mPass, mExpr, mBM, mAug, mAsg, gN, gT, gsC, gsN, mFn, mTup, mSl, oSome, mUn, mFor, mIt, mRng1, bLen, lenD, oLt, oLe, oGt, oGe, oAppend, oFind, hasTy, mDef, endOf, oIAdd, oSub, oIt, b_comment, h1, h2]
def numOk (w : List Nat) : Bool := decide (w.length ≤ 10) && !(decide (1 < w.length) && w.head? == some 48) && w.all isDig && (match intText? (tx w) with | some n => decide (n ≤ 4294967295) | none => false)
theorem num_loop {w : List Nat} {S : Hs} : ∀ (m k : Nat) (x1 : Option D), k + m = w.length → (w.all isDig = true) → ∃ x1', fLoop (.str (tx w)) (gN 1) b_numB k [some (.str (tx w)), x1] S = .ok (.nx [some (.str (tx w)), x1']) S
  | 0, k, x1, h, _ => by
    refine ⟨x1, ?_⟩
    rw [fLoop_eq]
    have : (tx w).cps[k]? = none := by
      rw [← Array.getElem?_toList, tx_list, List.getElem?_eq_none (by omega)]
    simp [mSeq, mSet, mRet, mBin, mCall, lCons, lNil, mVar, mC, mIfS, mCmp, mAndB, mOrB, mNotB, mTru, mIf, mAnd, mOr, mPass, mExpr, mBM, mAug, mAsg, gN, gT, gsC, gsN, mFn, mTup, mSl, oSome, mUn, mFor, mIt, mRng1, bLen, lenD, oLt, oLe, oGt, oGe, oAppend, oFind, hasTy, mDef, endOf, oIAdd, oSub, oIt, itGo, this]
  | m + 1, k, x1, h, ha => by
    have hk : k < w.length := by omega
    obtain ⟨x1', ih⟩ := num_loop (S := S) m (k + 1) (some (.str (tx [w[k]]))) (by omega) ha
    refine ⟨x1', ?_⟩
    rw [fLoop_eq]
    have hg : (tx w).cps[k]? = some w[k] := by
      rw [← Array.getElem?_toList, tx_list, List.getElem?_eq_getElem hk]
    have hd : decide (w[k] ∈ digS.cps.toList) = true := List.all_eq_true.mp ha _ (List.getElem_mem hk)
    have e : oNotIn (.str (tx [w[k]])) (.str digS) S = .ok (.bl false) S := by
      have h1 : oNotIn (.str (tx [w[k]])) (.str digS) S = .ok (.bl (!decide (w[k] ∈ digS.cps.toList))) S := rfl
      rw [h1, hd]; rfl
    have hB : b_numB [some (.str (tx w)), some (.str (tx [w[k]]))] S = .ok (.nx [some (.str (tx w)), some (.str (tx [w[k]]))]) S := by
      simp [mSeq, mSet, mRet, mBin, mCall, lCons, lNil, mVar, mC, mIfS, mCmp, mAndB, mOrB, mNotB, mTru, mIf, mAnd, mOr, mPass, mExpr, mBM, mAug, mAsg, gN, gT, gsC, gsN, mFn, mTup, mSl, oSome, mUn, mFor, mIt, mRng1, bLen, lenD, oLt, oLe, oGt, oGe, oAppend, oFind, hasTy, mDef, endOf, oIAdd, oSub, oIt, b_numB, e]
    have hs : (⟨#[w[k]]⟩ : Str) = tx [w[k]] := rfl
    simp only [itGo, hg, Option.map_some, gN, R.bind_ok, List.set_cons_succ, List.set_cons_zero, hs, hB, ih]
theorem num_ok {w : List Nat} {S : Hs} (h : numOk w = true) : mDef 1 1 b_num [.str (tx w)] S = .ok (.bl true) S := by
  simp only [numOk, Bool.and_eq_true, decide_eq_true_eq, Bool.not_eq_true'] at h
  obtain ⟨⟨⟨h1, h2⟩, h3⟩, h4⟩ := h
  have hz : w.length ≤ sizeLine := Nat.le_trans h1 (by decide)
  obtain ⟨x1', hL⟩ := num_loop (w := w) (S := S) w.length 0 none (by omega) h3
  split at h4
  · rename_i n hn
    have hn0 : n ≤ 4294967295 := by simpa using h4
    have hi : bInt [.str (tx w)] S = .ok (.int n) S := by
      have : (tx w).length ≤ 640 := by rw [tx_len]; omega
      simp only [bInt, hn]
      rw [if_pos this]
    have hc : (mOrB (mCmp oGt (mCall bLen (lCons (mVar 0) lNil)) (mC (.int 10))) (mAndB (mCmp oGt (mCall bLen (lCons (mVar 0) lNil)) (mC (.int 1))) (mCmp oEq (mBin oIx (mVar 0) (mC (.int 0))) (mC (.str "0"))))) [some (.str (tx w)), none] S = .ok false S := by
      have g1 : ¬ (10 : Int) < (w.length : Int) := by omega
      by_cases g2 : (1 : Int) < (w.length : Int)
      · cases w with
        | nil => simp [mSeq, mSet, mRet, mBin, mCall, lCons, lNil, mVar, mC, mIfS, mCmp, mAndB, mOrB, mNotB, mTru, mIf, mAnd, mOr, mPass, mExpr, mBM, mAug, mAsg, gN, gT, gsC, gsN, mFn, mTup, mSl, oSome, mUn, mFor, mIt, mRng1, bLen, lenD, oLt, oLe, oGt, oGe, oAppend, oFind, hasTy, mDef, endOf, oIAdd, oSub, oIt] at g2
        | cons c w =>
          have h48 : c ≠ 48 := by
            rintro rfl
            have g3 : 1 < (48 :: w).length := by omega
            have g4 : (decide (1 < (48 :: w).length) && (48 :: w).head? == some 48) = true := by rw [decide_eq_true g3]; rfl
            rw [h2] at g4
            cases g4
          have hx : oIx (.str (tx (c :: w))) (.int 0) S = .ok (.str (tx [c])) S := ix_tx (i := 0) rfl hz
          have he : cEqD (.str (tx [c])) (.str "0") S = some false := by
            rw [spS.2.2.2]
            simp [mSeq, mSet, mRet, mBin, mCall, lCons, lNil, mVar, mC, mIfS, mCmp, mAndB, mOrB, mNotB, mTru, mIf, mAnd, mOr, mPass, mExpr, mBM, mAug, mAsg, gN, gT, gsC, gsN, mFn, mTup, mSl, oSome, mUn, mFor, mIt, mRng1, bLen, lenD, oLt, oLe, oGt, oGe, oAppend, oFind, hasTy, mDef, endOf, oIAdd, oSub, oIt, cEqD, cEqS, h48]
          have heq : oEq (.str (tx [c])) (.str "0") S = .ok (.bl false) S := by simp only [oEq, he]
          simp only [mOrB, mCmp, mCall, lCons, lNil, mVar, List.getElem?_cons_zero, R.bind_ok, len_tx hz, mC, oGt, g1, decide_false, mAndB, g2, decide_true, if_true, mBin, hx, heq]
          simp [mSeq, mSet, mRet, mBin, mCall, lCons, lNil, mVar, mC, mIfS, mCmp, mAndB, mOrB, mNotB, mTru, mIf, mAnd, mOr, mPass, mExpr, mBM, mAug, mAsg, gN, gT, gsC, gsN, mFn, mTup, mSl, oSome, mUn, mFor, mIt, mRng1, bLen, lenD, oLt, oLe, oGt, oGe, oAppend, oFind, hasTy, mDef, endOf, oIAdd, oSub, oIt]
      · simp only [mOrB, mCmp, mCall, lCons, lNil, mVar, List.getElem?_cons_zero, R.bind_ok, len_tx hz, mC, oGt, g1, decide_false, mAndB, g2]
        simp [mSeq, mSet, mRet, mBin, mCall, lCons, lNil, mVar, mC, mIfS, mCmp, mAndB, mOrB, mNotB, mTru, mIf, mAnd, mOr, mPass, mExpr, mBM, mAug, mAsg, gN, gT, gsC, gsN, mFn, mTup, mSl, oSome, mUn, mFor, mIt, mRng1, bLen, lenD, oLt, oLe, oGt, oGe, oAppend, oFind, hasTy, mDef, endOf, oIAdd, oSub, oIt]
    have hmk : ∀ (o : Option D), (mFor (mIt (mVar 0)) (gN 1) b_numB) [some (.str (tx w)), o] S = fLoop (.str (tx w)) (gN 1) b_numB 0 [some (.str (tx w)), o] S := fun o => by simp [mSeq, mSet, mRet, mBin, mCall, lCons, lNil, mVar, mC, mIfS, mCmp, mAndB, mOrB, mNotB, mTru, mIf, mAnd, mOr, mPass, mExpr, mBM, mAug, mAsg, gN, gT, gsC, gsN, mFn, mTup, mSl, oSome, mUn, mFor, mIt, mRng1, bLen, lenD, oLt, oLe, oGt, oGe, oAppend, oFind, hasTy, mDef, endOf, oIAdd, oSub, oIt]
    have hB : b_num [some (.str (tx w)), none] S = .ok (.rt (.bl true)) S := by
      simp only [b_num, mSeq, mIfS, hc, R.bind_ok, mPass, Bool.false_eq_true, if_false]
      rw [hmk, hL]
      simp only [R.bind_ok, mRet, mBin, mCall, lCons, lNil, mVar, List.getElem?_cons_zero, hi, mC, oLe, hn0, decide_true]
    have hd : mDef 1 1 b_num [.str (tx w)] S = endOf (b_num [some (.str (tx w)), none] S) := rfl
    rw [hd, hB]; rfl
  · cases h4
def tokS (kind : Str) (w : List Nat) : Bool := match w with
  | [] => false
  | c :: _ => if isLet c then w.all isWs && kind == (if kwL.any (fun z => z == tx w) then "keyword" else "name")
    else if isDig c then w.all isWs && numOk w && kind == "number"
    else kind == "sign" && (longL.any (fun z => z == tx w) || (w.length == 1 && shortL.any (fun z => z == tx w)))
def bnd (w : List Nat) (nx : Option Nat) : Bool := match w with
  | [] => false
  | c :: v => if isLet c || isDig c then nx.all (fun x => !isWs x) else (!v.isEmpty || !(longL.any (fun z => z == tx (c :: nx.toList))))
theorem long2 {w : List Nat} (h : longL.any (fun z => z == tx w) = true) : w.length = 2 := by
  rw [List.any_eq_true] at h
  obtain ⟨z, hz, e⟩ := h
  have e' : z = tx w := by simpa using e
  have hz2 : ∀ z ∈ longL, z.length = 2 := by decide +kernel
  have := hz2 z hz
  rw [e'] at this
  exact this
theorem token_ok {kind : Str} {pre w rest : List Nat} {S : Hs} {r c : D} {r1 r2 : MS} (hl : (pre ++ w ++ rest).length ≤ sizeLine) (hs : tokS kind w = true) (hb : bnd w rest.head? = true) :
    mDef 4 4 (b_token r1 r2) [.str (tx (pre ++ w ++ rest)), .int (pre.length : Int), r, c] S = .ok (.tup [.str kind, .str (tx w), r, c]) S := by
  cases w with
  | nil => cases hs
  | cons x v =>
    have hg : (pre ++ (x :: v) ++ rest)[pre.length]? = some x := by simp [mSeq, mSet, mRet, mBin, mCall, lCons, lNil, mVar, mC, mIfS, mCmp, mAndB, mOrB, mNotB, mTru, mIf, mAnd, mOr, mPass, mExpr, mBM, mAug, mAsg, gN, gT, gsC, gsN, mFn, mTup, mSl, oSome, mUn, mFor, mIt, mRng1, bLen, lenD, oLt, oLe, oGt, oGe, oAppend, oFind, hasTy, mDef, endOf, oIAdd, oSub, oIt]
    have hix := ix_tx (S := S) hg hl
    have hsl : oSl (.str (tx (pre ++ (x :: v) ++ rest))) (some (pre.length : Int)) (some ((pre.length : Int) + 2)) S = .ok (.str (tx ((v ++ rest).take 1 |> (x :: ·)))) S := by
      rw [show (pre.length : Int) + 2 = ((pre.length + 2 : Nat) : Int) by simp, sl_tx (by omega) hl]
      simp [mSeq, mSet, mRet, mBin, mCall, lCons, lNil, mVar, mC, mIfS, mCmp, mAndB, mOrB, mNotB, mTru, mIf, mAnd, mOr, mPass, mExpr, mBM, mAug, mAsg, gN, gT, gsC, gsN, mFn, mTup, mSl, oSome, mUn, mFor, mIt, mRng1, bLen, lenD, oLt, oLe, oGt, oGe, oAppend, oFind, hasTy, mDef, endOf, oIAdd, oSub, oIt]
    have hrest : (isLet x || isDig x) = true → ∀ y, rest.head? = some y → isWs y = false := by
      intro h y hy
      simp only [bnd, h, if_true, hy, Option.all_some, Bool.not_eq_true'] at hb
      exact hb
    have hwd : (isLet x || isDig x) = true → (x :: v).all isWs = true → mDef 2 1 b_word [.str (tx (pre ++ (x :: v) ++ rest)), .int (pre.length : Int)] S = .ok (.str (tx (x :: v))) S := fun h h2 => word_ok hl h2 (hrest h)
    have hin1 : oIn (.str (tx [x])) (.str letS) S = .ok (.bl (isLet x)) S := rfl
    have hin2 : oIn (.str (tx [x])) (.str digS) S = .ok (.bl (isDig x)) S := rfl
    have h4 : [(.str kind : D), .str (tx (x :: v)), r, c].length ≤ sizeLine := by show 4 ≤ sizeLine; decide
    have hd : ∀ t : Str, mDef 4 4 (b_token r1 r2) [.str t, .int (pre.length : Int), r, c] S = endOf (b_token r1 r2 [some (.str t), some (.int (pre.length : Int)), some r, some c, none, none, none, none] S) := fun t => rfl
    rw [hd]
    generalize htt : tx (pre ++ (x :: v) ++ rest) = t at hix hsl hwd
    have h4' : (4 : Nat) ≤ sizeLine := by decide
    simp only [tokS] at hs
    by_cases hL : isLet x = true
    · simp only [hL, if_true, Bool.and_eq_true, beq_iff_eq] at hs
      have hw := hwd (by simp [mSeq, mSet, mRet, mBin, mCall, lCons, lNil, mVar, mC, mIfS, mCmp, mAndB, mOrB, mNotB, mTru, mIf, mAnd, mOr, mPass, mExpr, mBM, mAug, mAsg, gN, gT, gsC, gsN, mFn, mTup, mSl, oSome, mUn, mFor, mIt, mRng1, bLen, lenD, oLt, oLe, oGt, oGe, oAppend, oFind, hasTy, mDef, endOf, oIAdd, oSub, oIt, hL]) hs.1
      have hk : mIf (mCmp oIn (mVar 5) (mC (wtS kwL))) (mC (.str "keyword")) (mC (.str "name")) [some (.str t), some (.int (pre.length : Int)), some r, some c, some (.str (tx [x])), some (.str (tx (x :: v))), none, none] S = .ok (.str kind) S := by
        rw [hs.2]
        cases hkk : kwL.any (fun z => z == tx (x :: v)) <;> simp [mSeq, mSet, mRet, mBin, mCall, lCons, lNil, mVar, mC, mIfS, mCmp, mAndB, mOrB, mNotB, mTru, mIf, mAnd, mOr, mPass, mExpr, mBM, mAug, mAsg, gN, gT, gsC, gsN, mFn, mTup, mSl, oSome, mUn, mFor, mIt, mRng1, bLen, lenD, oLt, oLe, oGt, oGe, oAppend, oFind, hasTy, mDef, endOf, oIAdd, oSub, oIt, in_wtS, hkk]
      simp only [b_token, mSeq, mSet, mBin, mVar, List.getElem?_cons_zero, List.getElem?_cons_succ, R.bind_ok, hix, List.set_cons_succ, List.set_cons_zero, mIfS, mCmp, mC, hin1, hL, if_true, mFn, lCons, lNil, hw, R.at_ok, hk, mRet, mTup, h4, List.length_cons, List.length_nil]
      simp [mSeq, mSet, mRet, mBin, mCall, lCons, lNil, mVar, mC, mIfS, mCmp, mAndB, mOrB, mNotB, mTru, mIf, mAnd, mOr, mPass, mExpr, mBM, mAug, mAsg, gN, gT, gsC, gsN, mFn, mTup, mSl, oSome, mUn, mFor, mIt, mRng1, bLen, lenD, oLt, oLe, oGt, oGe, oAppend, oFind, hasTy, mDef, endOf, oIAdd, oSub, oIt, h4']
    · simp only [Bool.not_eq_true] at hL
      simp only [hL, Bool.false_eq_true, if_false] at hs
      by_cases hD : isDig x = true
      · simp only [hD, if_true, Bool.and_eq_true, beq_iff_eq] at hs
        have hw := hwd (by simp [mSeq, mSet, mRet, mBin, mCall, lCons, lNil, mVar, mC, mIfS, mCmp, mAndB, mOrB, mNotB, mTru, mIf, mAnd, mOr, mPass, mExpr, mBM, mAug, mAsg, gN, gT, gsC, gsN, mFn, mTup, mSl, oSome, mUn, mFor, mIt, mRng1, bLen, lenD, oLt, oLe, oGt, oGe, oAppend, oFind, hasTy, mDef, endOf, oIAdd, oSub, oIt, hD]) hs.1.1
        have hn := num_ok (S := S) hs.1.2
        have hk := hs.2
        simp only [b_token, mSeq, mSet, mBin, mVar, List.getElem?_cons_zero, List.getElem?_cons_succ, R.bind_ok, hix, List.set_cons_succ, List.set_cons_zero, mIfS, mCmp, mC, hin1, hL, if_true, mFn, lCons, lNil, hw, R.at_ok, Bool.false_eq_true, if_false, mPass, hin2, hD, mNotB, mTru, hn, oTru, tru, Bool.not_true, mRet, mTup, List.length_cons, List.length_nil]
        simp [mSeq, mSet, mRet, mBin, mCall, lCons, lNil, mVar, mC, mIfS, mCmp, mAndB, mOrB, mNotB, mTru, mIf, mAnd, mOr, mPass, mExpr, mBM, mAug, mAsg, gN, gT, gsC, gsN, mFn, mTup, mSl, oSome, mUn, mFor, mIt, mRng1, bLen, lenD, oLt, oLe, oGt, oGe, oAppend, oFind, hasTy, mDef, endOf, oIAdd, oSub, oIt, h4', hk]
      · simp only [Bool.not_eq_true] at hD
        simp only [hD, Bool.false_eq_true, if_false, Bool.and_eq_true, beq_iff_eq, Bool.or_eq_true] at hs
        obtain ⟨hk, hs⟩ := hs
        subst hk
        cases v with
        | cons y v =>
          have hlong : longL.any (fun z => z == tx (x :: y :: v)) = true := by
            rcases hs with h | h
            · exact h
            · simp at h
          have hv : v = [] := by
            have := long2 hlong
            simpa using this
          subst hv
          have e1 : (([y] ++ rest).take 1 |> (x :: ·)) = [x, y] := by simp [mSeq, mSet, mRet, mBin, mCall, lCons, lNil, mVar, mC, mIfS, mCmp, mAndB, mOrB, mNotB, mTru, mIf, mAnd, mOr, mPass, mExpr, mBM, mAug, mAsg, gN, gT, gsC, gsN, mFn, mTup, mSl, oSome, mUn, mFor, mIt, mRng1, bLen, lenD, oLt, oLe, oGt, oGe, oAppend, oFind, hasTy, mDef, endOf, oIAdd, oSub, oIt]
          rw [e1] at hsl
          simp only [b_token, mSeq, mSet, mBin, mVar, List.getElem?_cons_zero, List.getElem?_cons_succ, R.bind_ok, hix, List.set_cons_succ, List.set_cons_zero, mIfS, mCmp, mC, hin1, hL, mPass, hin2, hD, Bool.false_eq_true, if_false, mSl, oSome, oAdd, hsl, in_wtS, hlong, if_true, mRet, mTup, lCons, lNil, List.length_cons, List.length_nil]
          simp [mSeq, mSet, mRet, mBin, mCall, lCons, lNil, mVar, mC, mIfS, mCmp, mAndB, mOrB, mNotB, mTru, mIf, mAnd, mOr, mPass, mExpr, mBM, mAug, mAsg, gN, gT, gsC, gsN, mFn, mTup, mSl, oSome, mUn, mFor, mIt, mRng1, bLen, lenD, oLt, oLe, oGt, oGe, oAppend, oFind, hasTy, mDef, endOf, oIAdd, oSub, oIt, h4']
        | nil =>
          have hnl : longL.any (fun z => z == tx [x]) = false := by
            cases e : longL.any (fun z => z == tx [x]) with
            | false => rfl
            | true => exact absurd (long2 e) (by simp [mSeq, mSet, mRet, mBin, mCall, lCons, lNil, mVar, mC, mIfS, mCmp, mAndB, mOrB, mNotB, mTru, mIf, mAnd, mOr, mPass, mExpr, mBM, mAug, mAsg, gN, gT, gsC, gsN, mFn, mTup, mSl, oSome, mUn, mFor, mIt, mRng1, bLen, lenD, oLt, oLe, oGt, oGe, oAppend, oFind, hasTy, mDef, endOf, oIAdd, oSub, oIt])
          have hsh : shortL.any (fun z => z == tx [x]) = true := by
            rcases hs with h | h
            · rw [hnl] at h; cases h
            · exact h.2
          have hnb : longL.any (fun z => z == tx (x :: rest.head?.toList)) = false := by
            simpa [bnd, hL, hD] using hb
          have e1 : (([] ++ rest).take 1 |> (x :: ·)) = x :: rest.head?.toList := by cases rest <;> simp [mSeq, mSet, mRet, mBin, mCall, lCons, lNil, mVar, mC, mIfS, mCmp, mAndB, mOrB, mNotB, mTru, mIf, mAnd, mOr, mPass, mExpr, mBM, mAug, mAsg, gN, gT, gsC, gsN, mFn, mTup, mSl, oSome, mUn, mFor, mIt, mRng1, bLen, lenD, oLt, oLe, oGt, oGe, oAppend, oFind, hasTy, mDef, endOf, oIAdd, oSub, oIt]
          rw [e1] at hsl
          simp only [b_token, mSeq, mSet, mBin, mVar, List.getElem?_cons_zero, List.getElem?_cons_succ, R.bind_ok, hix, List.set_cons_succ, List.set_cons_zero, mIfS, mCmp, mC, hin1, hL, mPass, hin2, hD, Bool.false_eq_true, if_false, mSl, oSome, oAdd, hsl, in_wtS, hnb, hsh, if_true, mRet, mTup, lCons, lNil, List.length_cons, List.length_nil]
          simp [mSeq, mSet, mRet, mBin, mCall, lCons, lNil, mVar, mC, mIfS, mCmp, mAndB, mOrB, mNotB, mTru, mIf, mAnd, mOr, mPass, mExpr, mBM, mAug, mAsg, gN, gT, gsC, gsN, mFn, mTup, mSl, oSome, mUn, mFor, mIt, mRng1, bLen, lenD, oLt, oLe, oGt, oGe, oAppend, oFind, hasTy, mDef, endOf, oIAdd, oSub, oIt, h4']
def rowD (pre : List Nat) : D := .int ((pre.count 10 : Int) + 1)
def colD (pre : List Nat) : D := .int ((pre.length : Int) - (behC 10 pre 0 0 : Int) + 1)
def begD (pre : List Nat) : D := .int (behC 10 pre 0 0 : Int)
def tokD (kind : Str) (w pre : List Nat) : D := .tup [.str kind, .str (tx w), rowD pre, colD pre]
inductive Lx : List Nat → List Nat → List D → Prop
  | done {pre : List Nat} : Lx pre [] []
  | nl {pre rest : List Nat} {ts : List D} : Lx (pre ++ [10]) rest ts → Lx pre (10 :: rest) ts
  | sp {pre rest : List Nat} {ts : List D} : Lx (pre ++ [32]) rest ts → Lx pre (32 :: rest) ts
  | com {pre rest : List Nat} {ts : List D} {body : List Nat} : 10 ∉ body → (rest = [] ∨ rest.head? = some 10) → Lx (pre ++ 35 :: body) rest ts → Lx pre (35 :: body ++ rest) ts
  | tok {pre rest w : List Nat} {kind : Str} {ts : List D} : tokS kind w = true → bnd w rest.head? = true → Lx (pre ++ w) rest ts → Lx pre (w ++ rest) (tokD kind w pre :: ts)
theorem signs_no : ∀ z ∈ longL ++ shortL, z.cps.toList.all (fun c => !(c == 10) && !(c == 32) && !(c == 35)) = true := by decide +kernel
theorem ws_no {c : Nat} (h : isWs c = true) : c ≠ 10 ∧ c ≠ 32 ∧ c ≠ 35 := by
  have h1 : isWs 10 = false := by decide +kernel
  have h2 : isWs 32 = false := by decide +kernel
  have h3 : isWs 35 = false := by decide +kernel
  refine ⟨?_, ?_, ?_⟩ <;> (rintro rfl; simp_all)
theorem tokS_no {kind : Str} {w : List Nat} (h : tokS kind w = true) : ∀ c ∈ w, c ≠ 10 ∧ c ≠ 32 ∧ c ≠ 35 := by
  cases w with
  | nil => cases h
  | cons x v =>
    have hsig : ∀ l : List Str, (∀ z ∈ l, z ∈ longL ++ shortL) → l.any (fun z => z == tx (x :: v)) = true → ∀ c ∈ x :: v, c ≠ 10 ∧ c ≠ 32 ∧ c ≠ 35 := by
      intro l hl ha c hc
      rw [List.any_eq_true] at ha
      obtain ⟨z, hz, e⟩ := ha
      have e' : z = tx (x :: v) := by simpa using e
      have := signs_no z (hl z hz)
      rw [e', tx_list, List.all_eq_true] at this
      have := this c hc
      simp only [Bool.and_eq_true, Bool.not_eq_true', beq_eq_false_iff_ne] at this
      exact ⟨this.1.1, this.1.2, this.2⟩
    simp only [tokS] at h
    split at h
    · simp only [Bool.and_eq_true] at h
      intro c hc
      exact ws_no (List.all_eq_true.mp h.1 c hc)
    · split at h
      · simp only [Bool.and_eq_true] at h
        intro c hc
        exact ws_no (List.all_eq_true.mp h.1.1 c hc)
      · simp only [Bool.and_eq_true, Bool.or_eq_true] at h
        rcases h.2 with h | h
        · exact hsig longL (fun z hz => List.mem_append_left _ hz) h
        · exact hsig shortL (fun z hz => List.mem_append_right _ hz) h.2
theorem behC_no (c : Nat) : ∀ (xs : List Nat) (a e : Nat), c ∉ xs → behC c xs a e = e
  | [], _, _, _ => rfl
  | x :: r, a, e, h => by
    have hx : x ≠ c := fun e => h (by simp [mSeq, mSet, mRet, mBin, mCall, lCons, lNil, mVar, mC, mIfS, mCmp, mAndB, mOrB, mNotB, mTru, mIf, mAnd, mOr, mPass, mExpr, mBM, mAug, mAsg, gN, gT, gsC, gsN, mFn, mTup, mSl, oSome, mUn, mFor, mIt, mRng1, bLen, lenD, oLt, oLe, oGt, oGe, oAppend, oFind, hasTy, mDef, endOf, oIAdd, oSub, oIt, e])
    simp only [behC, if_neg hx]
    exact behC_no c r (a + 1) e (fun m => h (List.mem_cons_of_mem _ m))
theorem beg_nl (pre : List Nat) : begD (pre ++ [10]) = .int ((pre.length : Int) + 1) := by
  simp [mSeq, mSet, mRet, mBin, mCall, lCons, lNil, mVar, mC, mIfS, mCmp, mAndB, mOrB, mNotB, mTru, mIf, mAnd, mOr, mPass, mExpr, mBM, mAug, mAsg, gN, gT, gsC, gsN, mFn, mTup, mSl, oSome, mUn, mFor, mIt, mRng1, bLen, lenD, oLt, oLe, oGt, oGe, oAppend, oFind, hasTy, mDef, endOf, oIAdd, oSub, oIt, begD, behC_app, behC]
theorem row_nl (pre : List Nat) : rowD (pre ++ [10]) = .int ((pre.count 10 : Int) + 1 + 1) := by
  simp [mSeq, mSet, mRet, mBin, mCall, lCons, lNil, mVar, mC, mIfS, mCmp, mAndB, mOrB, mNotB, mTru, mIf, mAnd, mOr, mPass, mExpr, mBM, mAug, mAsg, gN, gT, gsC, gsN, mFn, mTup, mSl, oSome, mUn, mFor, mIt, mRng1, bLen, lenD, oLt, oLe, oGt, oGe, oAppend, oFind, hasTy, mDef, endOf, oIAdd, oSub, oIt, rowD]
theorem beg_no {pre w : List Nat} (h : 10 ∉ w) : begD (pre ++ w) = begD pre := by
  simp [mSeq, mSet, mRet, mBin, mCall, lCons, lNil, mVar, mC, mIfS, mCmp, mAndB, mOrB, mNotB, mTru, mIf, mAnd, mOr, mPass, mExpr, mBM, mAug, mAsg, gN, gT, gsC, gsN, mFn, mTup, mSl, oSome, mUn, mFor, mIt, mRng1, bLen, lenD, oLt, oLe, oGt, oGe, oAppend, oFind, hasTy, mDef, endOf, oIAdd, oSub, oIt, begD, behC_app, behC_no 10 w _ _ h]
theorem row_no {pre w : List Nat} (h : 10 ∉ w) : rowD (pre ++ w) = rowD pre := by
  simp [mSeq, mSet, mRet, mBin, mCall, lCons, lNil, mVar, mC, mIfS, mCmp, mAndB, mOrB, mNotB, mTru, mIf, mAnd, mOr, mPass, mExpr, mBM, mAug, mAsg, gN, gT, gsC, gsN, mFn, mTup, mSl, oSome, mUn, mFor, mIt, mRng1, bLen, lenD, oLt, oLe, oGt, oGe, oAppend, oFind, hasTy, mDef, endOf, oIAdd, oSub, oIt, rowD, List.count_eq_zero_of_not_mem h]
theorem Lx.len {pre rest : List Nat} {ts : List D} (h : Lx pre rest ts) : ts.length ≤ rest.length := by
  induction h with
  | done => simp [mSeq, mSet, mRet, mBin, mCall, lCons, lNil, mVar, mC, mIfS, mCmp, mAndB, mOrB, mNotB, mTru, mIf, mAnd, mOr, mPass, mExpr, mBM, mAug, mAsg, gN, gT, gsC, gsN, mFn, mTup, mSl, oSome, mUn, mFor, mIt, mRng1, bLen, lenD, oLt, oLe, oGt, oGe, oAppend, oFind, hasTy, mDef, endOf, oIAdd, oSub, oIt]
  | nl _ ih => simp [mSeq, mSet, mRet, mBin, mCall, lCons, lNil, mVar, mC, mIfS, mCmp, mAndB, mOrB, mNotB, mTru, mIf, mAnd, mOr, mPass, mExpr, mBM, mAug, mAsg, gN, gT, gsC, gsN, mFn, mTup, mSl, oSome, mUn, mFor, mIt, mRng1, bLen, lenD, oLt, oLe, oGt, oGe, oAppend, oFind, hasTy, mDef, endOf, oIAdd, oSub, oIt]; omega
  | sp _ ih => simp [mSeq, mSet, mRet, mBin, mCall, lCons, lNil, mVar, mC, mIfS, mCmp, mAndB, mOrB, mNotB, mTru, mIf, mAnd, mOr, mPass, mExpr, mBM, mAug, mAsg, gN, gT, gsC, gsN, mFn, mTup, mSl, oSome, mUn, mFor, mIt, mRng1, bLen, lenD, oLt, oLe, oGt, oGe, oAppend, oFind, hasTy, mDef, endOf, oIAdd, oSub, oIt]; omega
  | com _ _ _ ih => simp [mSeq, mSet, mRet, mBin, mCall, lCons, lNil, mVar, mC, mIfS, mCmp, mAndB, mOrB, mNotB, mTru, mIf, mAnd, mOr, mPass, mExpr, mBM, mAug, mAsg, gN, gT, gsC, gsN, mFn, mTup, mSl, oSome, mUn, mFor, mIt, mRng1, bLen, lenD, oLt, oLe, oGt, oGe, oAppend, oFind, hasTy, mDef, endOf, oIAdd, oSub, oIt]; omega
  | @tok pre rest w kind ts hs _ _ ih =>
    have : w ≠ [] := by rintro rfl; cases hs
    have : 0 < w.length := List.length_pos_iff.mpr this
    simp [mSeq, mSet, mRet, mBin, mCall, lCons, lNil, mVar, mC, mIfS, mCmp, mAndB, mOrB, mNotB, mTru, mIf, mAnd, mOr, mPass, mExpr, mBM, mAug, mAsg, gN, gT, gsC, gsN, mFn, mTup, mSl, oSome, mUn, mFor, mIt, mRng1, bLen, lenD, oLt, oLe, oGt, oGe, oAppend, oFind, hasTy, mDef, endOf, oIAdd, oSub, oIt]; omega
theorem toks_loop {r1 r2 : MS} {pre rest : List Nat} {ts : List D} (h : Lx pre rest ts) : ∀ {cs : List Nat} {i : Nat} {S : Hs} {acc : List D} (o5 o6 : Option D), cs = pre ++ rest → cs.length < sizeLine → S[i]? = some (.lst acc) → acc.length ≤ pre.length →
    ∃ o5' o6', mWhile b_toksC (b_toksB r1 r2) [some (.str (tx cs)), some (.ref i), some (.int (pre.length : Int)), some (rowD pre), some (begD pre), o5, o6] S
      = .ok (.nx [some (.str (tx cs)), some (.ref i), some (.int (cs.length : Int)), some (rowD cs), some (begD cs), o5', o6']) (S.set i (.lst (acc ++ ts))) := by
  induction h with
  | @done pre =>
    intro cs i S acc o5 o6 hc hl hS ha
    refine ⟨o5, o6, ?_⟩
    have hc' : cs = pre := by simpa using hc
    subst hc'
    have hC : ∀ l, b_toksC ([some (.str (tx cs)), some (.ref i), some (.int (cs.length : Int))] ++ l) S = .ok false S := by
      intro l
      simp [mSeq, mSet, mRet, mBin, mCall, lCons, lNil, mVar, mC, mIfS, mCmp, mAndB, mOrB, mNotB, mTru, mIf, mAnd, mOr, mPass, mExpr, mBM, mAug, mAsg, gN, gT, gsC, gsN, mFn, mTup, mSl, oSome, mUn, mFor, mIt, mRng1, lenD, oLt, oLe, oGt, oGe, oAppend, oFind, hasTy, mDef, endOf, oIAdd, oSub, oIt, b_toksC, len_tx (Nat.le_of_lt hl)]
    have := hC [some (rowD cs), some (begD cs), o5, o6]
    simp only [List.cons_append, List.nil_append] at this
    rw [mWhile_eq, this]
    simp only [R.bind_ok, Bool.false_eq_true, if_false, List.append_nil]
    congr 1
    exact (set_same hS).symm
  | @nl pre rest ts h ih =>
    intro cs i S acc o5 o6 hc hl hS ha
    have hg : cs[pre.length]? = some 10 := by rw [hc]; simp [mSeq, mSet, mRet, mBin, mCall, lCons, lNil, mVar, mC, mIfS, mCmp, mAndB, mOrB, mNotB, mTru, mIf, mAnd, mOr, mPass, mExpr, mBM, mAug, mAsg, gN, gT, gsC, gsN, mFn, mTup, mSl, oSome, mUn, mFor, mIt, mRng1, bLen, lenD, oLt, oLe, oGt, oGe, oAppend, oFind, hasTy, mDef, endOf, oIAdd, oSub, oIt]
    have hlt : (pre.length : Int) < (cs.length : Int) := by rw [hc]; simp [mSeq, mSet, mRet, mBin, mCall, lCons, lNil, mVar, mC, mIfS, mCmp, mAndB, mOrB, mNotB, mTru, mIf, mAnd, mOr, mPass, mExpr, mBM, mAug, mAsg, gN, gT, gsC, gsN, mFn, mTup, mSl, oSome, mUn, mFor, mIt, mRng1, bLen, lenD, oLt, oLe, oGt, oGe, oAppend, oFind, hasTy, mDef, endOf, oIAdd, oSub, oIt]; omega
    have hC : b_toksC [some (.str (tx cs)), some (.ref i), some (.int (pre.length : Int)), some (rowD pre), some (begD pre), o5, o6] S = .ok true S := by
      simp [mSeq, mSet, mRet, mBin, mCall, lCons, lNil, mVar, mC, mIfS, mCmp, mAndB, mOrB, mNotB, mTru, mIf, mAnd, mOr, mPass, mExpr, mBM, mAug, mAsg, gN, gT, gsC, gsN, mFn, mTup, mSl, oSome, mUn, mFor, mIt, mRng1, lenD, oLt, oLe, oGt, oGe, oAppend, oFind, hasTy, mDef, endOf, oIAdd, oSub, oIt, b_toksC, len_tx (Nat.le_of_lt hl), hlt]
    have he : oEq (.str (tx [10])) (.str "\n") S = .ok (.bl true) S := by rw [spS.1]; simp [mSeq, mSet, mRet, mBin, mCall, lCons, lNil, mVar, mC, mIfS, mCmp, mAndB, mOrB, mNotB, mTru, mIf, mAnd, mOr, mPass, mExpr, mBM, mAug, mAsg, gN, gT, gsC, gsN, mFn, mTup, mSl, oSome, mUn, mFor, mIt, mRng1, bLen, lenD, oLt, oLe, oGt, oGe, oAppend, oFind, hasTy, mDef, endOf, oIAdd, oSub, oIt, oEq, cEqD, cEqS]
    have hB : b_toksB r1 r2 [some (.str (tx cs)), some (.ref i), some (.int (pre.length : Int)), some (rowD pre), some (begD pre), o5, o6] S = .ok (.nx [some (.str (tx cs)), some (.ref i), some (.int ((pre ++ [10]).length : Int)), some (rowD (pre ++ [10])), some (begD (pre ++ [10])), some (.str (tx [10])), o6]) S := by
      simp [mSeq, mSet, mRet, mBin, mCall, lCons, lNil, mVar, mC, mIfS, mCmp, mAndB, mOrB, mNotB, mTru, mIf, mAnd, mOr, mPass, mExpr, mBM, mAug, mAsg, gN, gT, gsC, gsN, mFn, mTup, mSl, oSome, mUn, mFor, mIt, mRng1, bLen, lenD, oLt, oLe, oGt, oGe, oAppend, oFind, hasTy, mDef, endOf, oIAdd, oSub, oIt, b_toksB, ix_tx hg (Nat.le_of_lt hl), he, beg_nl, row_nl]
      simp [mSeq, mSet, mRet, mBin, mCall, lCons, lNil, mVar, mC, mIfS, mCmp, mAndB, mOrB, mNotB, mTru, mIf, mAnd, mOr, mPass, mExpr, mBM, mAug, mAsg, gN, gT, gsC, gsN, mFn, mTup, mSl, oSome, mUn, mFor, mIt, mRng1, bLen, lenD, oLt, oLe, oGt, oGe, oAppend, oFind, hasTy, mDef, endOf, oIAdd, oSub, oIt, rowD]
    obtain ⟨o5', o6', e⟩ := ih (cs := cs) (i := i) (S := S) (acc := acc) (some (.str (tx [10]))) o6 (by rw [hc]; simp [mSeq, mSet, mRet, mBin, mCall, lCons, lNil, mVar, mC, mIfS, mCmp, mAndB, mOrB, mNotB, mTru, mIf, mAnd, mOr, mPass, mExpr, mBM, mAug, mAsg, gN, gT, gsC, gsN, mFn, mTup, mSl, oSome, mUn, mFor, mIt, mRng1, bLen, lenD, oLt, oLe, oGt, oGe, oAppend, oFind, hasTy, mDef, endOf, oIAdd, oSub, oIt]) hl hS (by simp [mSeq, mSet, mRet, mBin, mCall, lCons, lNil, mVar, mC, mIfS, mCmp, mAndB, mOrB, mNotB, mTru, mIf, mAnd, mOr, mPass, mExpr, mBM, mAug, mAsg, gN, gT, gsC, gsN, mFn, mTup, mSl, oSome, mUn, mFor, mIt, mRng1, bLen, lenD, oLt, oLe, oGt, oGe, oAppend, oFind, hasTy, mDef, endOf, oIAdd, oSub, oIt]; omega)
    refine ⟨o5', o6', ?_⟩
    rw [mWhile_eq, hC]
    simp only [R.bind_ok, if_true, hB, e]
  | @sp pre rest ts h ih =>
    intro cs i S acc o5 o6 hc hl hS ha
    have hg : cs[pre.length]? = some 32 := by rw [hc]; simp [mSeq, mSet, mRet, mBin, mCall, lCons, lNil, mVar, mC, mIfS, mCmp, mAndB, mOrB, mNotB, mTru, mIf, mAnd, mOr, mPass, mExpr, mBM, mAug, mAsg, gN, gT, gsC, gsN, mFn, mTup, mSl, oSome, mUn, mFor, mIt, mRng1, bLen, lenD, oLt, oLe, oGt, oGe, oAppend, oFind, hasTy, mDef, endOf, oIAdd, oSub, oIt]
    have hlt : (pre.length : Int) < (cs.length : Int) := by rw [hc]; simp [mSeq, mSet, mRet, mBin, mCall, lCons, lNil, mVar, mC, mIfS, mCmp, mAndB, mOrB, mNotB, mTru, mIf, mAnd, mOr, mPass, mExpr, mBM, mAug, mAsg, gN, gT, gsC, gsN, mFn, mTup, mSl, oSome, mUn, mFor, mIt, mRng1, bLen, lenD, oLt, oLe, oGt, oGe, oAppend, oFind, hasTy, mDef, endOf, oIAdd, oSub, oIt]; omega
    have hC : b_toksC [some (.str (tx cs)), some (.ref i), some (.int (pre.length : Int)), some (rowD pre), some (begD pre), o5, o6] S = .ok true S := by
      simp [mSeq, mSet, mRet, mBin, mCall, lCons, lNil, mVar, mC, mIfS, mCmp, mAndB, mOrB, mNotB, mTru, mIf, mAnd, mOr, mPass, mExpr, mBM, mAug, mAsg, gN, gT, gsC, gsN, mFn, mTup, mSl, oSome, mUn, mFor, mIt, mRng1, lenD, oLt, oLe, oGt, oGe, oAppend, oFind, hasTy, mDef, endOf, oIAdd, oSub, oIt, b_toksC, len_tx (Nat.le_of_lt hl), hlt]
    have he1 : oEq (.str (tx [32])) (.str "\n") S = .ok (.bl false) S := by rw [spS.1]; simp [mSeq, mSet, mRet, mBin, mCall, lCons, lNil, mVar, mC, mIfS, mCmp, mAndB, mOrB, mNotB, mTru, mIf, mAnd, mOr, mPass, mExpr, mBM, mAug, mAsg, gN, gT, gsC, gsN, mFn, mTup, mSl, oSome, mUn, mFor, mIt, mRng1, bLen, lenD, oLt, oLe, oGt, oGe, oAppend, oFind, hasTy, mDef, endOf, oIAdd, oSub, oIt, oEq, cEqD, cEqS]
    have he2 : oEq (.str (tx [32])) (.str " ") S = .ok (.bl true) S := by rw [spS.2.1]; simp [mSeq, mSet, mRet, mBin, mCall, lCons, lNil, mVar, mC, mIfS, mCmp, mAndB, mOrB, mNotB, mTru, mIf, mAnd, mOr, mPass, mExpr, mBM, mAug, mAsg, gN, gT, gsC, gsN, mFn, mTup, mSl, oSome, mUn, mFor, mIt, mRng1, bLen, lenD, oLt, oLe, oGt, oGe, oAppend, oFind, hasTy, mDef, endOf, oIAdd, oSub, oIt, oEq, cEqD, cEqS]
    have hB : b_toksB r1 r2 [some (.str (tx cs)), some (.ref i), some (.int (pre.length : Int)), some (rowD pre), some (begD pre), o5, o6] S = .ok (.nx [some (.str (tx cs)), some (.ref i), some (.int ((pre ++ [32]).length : Int)), some (rowD (pre ++ [32])), some (begD (pre ++ [32])), some (.str (tx [32])), o6]) S := by
      rw [row_no (by simp [mSeq, mSet, mRet, mBin, mCall, lCons, lNil, mVar, mC, mIfS, mCmp, mAndB, mOrB, mNotB, mTru, mIf, mAnd, mOr, mPass, mExpr, mBM, mAug, mAsg, gN, gT, gsC, gsN, mFn, mTup, mSl, oSome, mUn, mFor, mIt, mRng1, bLen, lenD, oLt, oLe, oGt, oGe, oAppend, oFind, hasTy, mDef, endOf, oIAdd, oSub, oIt]), beg_no (by simp [mSeq, mSet, mRet, mBin, mCall, lCons, lNil, mVar, mC, mIfS, mCmp, mAndB, mOrB, mNotB, mTru, mIf, mAnd, mOr, mPass, mExpr, mBM, mAug, mAsg, gN, gT, gsC, gsN, mFn, mTup, mSl, oSome, mUn, mFor, mIt, mRng1, bLen, lenD, oLt, oLe, oGt, oGe, oAppend, oFind, hasTy, mDef, endOf, oIAdd, oSub, oIt])]
      simp [mSeq, mSet, mRet, mBin, mCall, lCons, lNil, mVar, mC, mIfS, mCmp, mAndB, mOrB, mNotB, mTru, mIf, mAnd, mOr, mPass, mExpr, mBM, mAug, mAsg, gN, gT, gsC, gsN, mFn, mTup, mSl, oSome, mUn, mFor, mIt, mRng1, bLen, lenD, oLt, oLe, oGt, oGe, oAppend, oFind, hasTy, mDef, endOf, oIAdd, oSub, oIt, b_toksB, ix_tx hg (Nat.le_of_lt hl), he1, he2]
    obtain ⟨o5', o6', e⟩ := ih (cs := cs) (i := i) (S := S) (acc := acc) (some (.str (tx [32]))) o6 (by rw [hc]; simp [mSeq, mSet, mRet, mBin, mCall, lCons, lNil, mVar, mC, mIfS, mCmp, mAndB, mOrB, mNotB, mTru, mIf, mAnd, mOr, mPass, mExpr, mBM, mAug, mAsg, gN, gT, gsC, gsN, mFn, mTup, mSl, oSome, mUn, mFor, mIt, mRng1, bLen, lenD, oLt, oLe, oGt, oGe, oAppend, oFind, hasTy, mDef, endOf, oIAdd, oSub, oIt]) hl hS (by simp [mSeq, mSet, mRet, mBin, mCall, lCons, lNil, mVar, mC, mIfS, mCmp, mAndB, mOrB, mNotB, mTru, mIf, mAnd, mOr, mPass, mExpr, mBM, mAug, mAsg, gN, gT, gsC, gsN, mFn, mTup, mSl, oSome, mUn, mFor, mIt, mRng1, bLen, lenD, oLt, oLe, oGt, oGe, oAppend, oFind, hasTy, mDef, endOf, oIAdd, oSub, oIt]; omega)
    refine ⟨o5', o6', ?_⟩
    rw [mWhile_eq, hC]
    simp only [R.bind_ok, if_true, hB, e]
  | @com pre rest ts body hb hr h ih =>
    intro cs i S acc o5 o6 hc hl hS ha
    have hg : cs[pre.length]? = some 35 := by rw [hc]; simp [mSeq, mSet, mRet, mBin, mCall, lCons, lNil, mVar, mC, mIfS, mCmp, mAndB, mOrB, mNotB, mTru, mIf, mAnd, mOr, mPass, mExpr, mBM, mAug, mAsg, gN, gT, gsC, gsN, mFn, mTup, mSl, oSome, mUn, mFor, mIt, mRng1, bLen, lenD, oLt, oLe, oGt, oGe, oAppend, oFind, hasTy, mDef, endOf, oIAdd, oSub, oIt]
    have hlt : (pre.length : Int) < (cs.length : Int) := by rw [hc]; simp [mSeq, mSet, mRet, mBin, mCall, lCons, lNil, mVar, mC, mIfS, mCmp, mAndB, mOrB, mNotB, mTru, mIf, mAnd, mOr, mPass, mExpr, mBM, mAug, mAsg, gN, gT, gsC, gsN, mFn, mTup, mSl, oSome, mUn, mFor, mIt, mRng1, bLen, lenD, oLt, oLe, oGt, oGe, oAppend, oFind, hasTy, mDef, endOf, oIAdd, oSub, oIt]; omega
    have hC : b_toksC [some (.str (tx cs)), some (.ref i), some (.int (pre.length : Int)), some (rowD pre), some (begD pre), o5, o6] S = .ok true S := by
      simp [mSeq, mSet, mRet, mBin, mCall, lCons, lNil, mVar, mC, mIfS, mCmp, mAndB, mOrB, mNotB, mTru, mIf, mAnd, mOr, mPass, mExpr, mBM, mAug, mAsg, gN, gT, gsC, gsN, mFn, mTup, mSl, oSome, mUn, mFor, mIt, mRng1, lenD, oLt, oLe, oGt, oGe, oAppend, oFind, hasTy, mDef, endOf, oIAdd, oSub, oIt, b_toksC, len_tx (Nat.le_of_lt hl), hlt]
    have he1 : oEq (.str (tx [35])) (.str "\n") S = .ok (.bl false) S := by rw [spS.1]; simp [mSeq, mSet, mRet, mBin, mCall, lCons, lNil, mVar, mC, mIfS, mCmp, mAndB, mOrB, mNotB, mTru, mIf, mAnd, mOr, mPass, mExpr, mBM, mAug, mAsg, gN, gT, gsC, gsN, mFn, mTup, mSl, oSome, mUn, mFor, mIt, mRng1, bLen, lenD, oLt, oLe, oGt, oGe, oAppend, oFind, hasTy, mDef, endOf, oIAdd, oSub, oIt, oEq, cEqD, cEqS]
    have he2 : oEq (.str (tx [35])) (.str " ") S = .ok (.bl false) S := by rw [spS.2.1]; simp [mSeq, mSet, mRet, mBin, mCall, lCons, lNil, mVar, mC, mIfS, mCmp, mAndB, mOrB, mNotB, mTru, mIf, mAnd, mOr, mPass, mExpr, mBM, mAug, mAsg, gN, gT, gsC, gsN, mFn, mTup, mSl, oSome, mUn, mFor, mIt, mRng1, bLen, lenD, oLt, oLe, oGt, oGe, oAppend, oFind, hasTy, mDef, endOf, oIAdd, oSub, oIt, oEq, cEqD, cEqS]
    have he3 : oEq (.str (tx [35])) (.str "#") S = .ok (.bl true) S := by rw [spS.2.2.1]; simp [mSeq, mSet, mRet, mBin, mCall, lCons, lNil, mVar, mC, mIfS, mCmp, mAndB, mOrB, mNotB, mTru, mIf, mAnd, mOr, mPass, mExpr, mBM, mAug, mAsg, gN, gT, gsC, gsN, mFn, mTup, mSl, oSome, mUn, mFor, mIt, mRng1, bLen, lenD, oLt, oLe, oGt, oGe, oAppend, oFind, hasTy, mDef, endOf, oIAdd, oSub, oIt, oEq, cEqD, cEqS]
    have hb' : 10 ∉ 35 :: body := by simp [mSeq, mSet, mRet, mBin, mCall, lCons, lNil, mVar, mC, mIfS, mCmp, mAndB, mOrB, mNotB, mTru, mIf, mAnd, mOr, mPass, mExpr, mBM, mAug, mAsg, gN, gT, gsC, gsN, mFn, mTup, mSl, oSome, mUn, mFor, mIt, mRng1, bLen, lenD, oLt, oLe, oGt, oGe, oAppend, oFind, hasTy, mDef, endOf, oIAdd, oSub, oIt, hb]
    have hm : mDef 2 1 b_comment [.str (tx cs), .int (pre.length : Int)] S = .ok (.int ((pre ++ 35 :: body).length : Int)) S := by
      have hc2 : cs = pre ++ (35 :: body) ++ rest := by rw [hc]; simp [mSeq, mSet, mRet, mBin, mCall, lCons, lNil, mVar, mC, mIfS, mCmp, mAndB, mOrB, mNotB, mTru, mIf, mAnd, mOr, mPass, mExpr, mBM, mAug, mAsg, gN, gT, gsC, gsN, mFn, mTup, mSl, oSome, mUn, mFor, mIt, mRng1, bLen, lenD, oLt, oLe, oGt, oGe, oAppend, oFind, hasTy, mDef, endOf, oIAdd, oSub, oIt]
      have := comment_ok (pre := pre) (body := 35 :: body) (rest := rest) (S := S) (by rw [← hc2]; exact Nat.le_of_lt hl) hb' hr
      rw [← hc2] at this
      rw [this]; simp [mSeq, mSet, mRet, mBin, mCall, lCons, lNil, mVar, mC, mIfS, mCmp, mAndB, mOrB, mNotB, mTru, mIf, mAnd, mOr, mPass, mExpr, mBM, mAug, mAsg, gN, gT, gsC, gsN, mFn, mTup, mSl, oSome, mUn, mFor, mIt, mRng1, bLen, lenD, oLt, oLe, oGt, oGe, oAppend, oFind, hasTy, mDef, endOf, oIAdd, oSub, oIt]
    have hB : b_toksB r1 r2 [some (.str (tx cs)), some (.ref i), some (.int (pre.length : Int)), some (rowD pre), some (begD pre), o5, o6] S = .ok (.nx [some (.str (tx cs)), some (.ref i), some (.int ((pre ++ 35 :: body).length : Int)), some (rowD (pre ++ 35 :: body)), some (begD (pre ++ 35 :: body)), some (.str (tx [35])), o6]) S := by
      rw [row_no hb', beg_no hb']
      simp only [b_toksB, mSeq, mSet, mBin, mVar, List.getElem?_cons_zero, List.getElem?_cons_succ, R.bind_ok, ix_tx hg (Nat.le_of_lt hl), List.set_cons_succ, List.set_cons_zero, mIfS, mCmp, mC, he1, he2, he3, Bool.false_eq_true, if_false, if_true, mFn, lCons, lNil, hm, R.at_ok]
    obtain ⟨o5', o6', e⟩ := ih (cs := cs) (i := i) (S := S) (acc := acc) (some (.str (tx [35]))) o6 (by rw [hc]; simp [mSeq, mSet, mRet, mBin, mCall, lCons, lNil, mVar, mC, mIfS, mCmp, mAndB, mOrB, mNotB, mTru, mIf, mAnd, mOr, mPass, mExpr, mBM, mAug, mAsg, gN, gT, gsC, gsN, mFn, mTup, mSl, oSome, mUn, mFor, mIt, mRng1, bLen, lenD, oLt, oLe, oGt, oGe, oAppend, oFind, hasTy, mDef, endOf, oIAdd, oSub, oIt]) hl hS (by simp [mSeq, mSet, mRet, mBin, mCall, lCons, lNil, mVar, mC, mIfS, mCmp, mAndB, mOrB, mNotB, mTru, mIf, mAnd, mOr, mPass, mExpr, mBM, mAug, mAsg, gN, gT, gsC, gsN, mFn, mTup, mSl, oSome, mUn, mFor, mIt, mRng1, bLen, lenD, oLt, oLe, oGt, oGe, oAppend, oFind, hasTy, mDef, endOf, oIAdd, oSub, oIt]; omega)
    refine ⟨o5', o6', ?_⟩
    rw [mWhile_eq, hC]
    simp only [R.bind_ok, if_true, hB, e]
  | @tok pre rest w kind ts hs hb h ih =>
    intro cs i S acc o5 o6 hc hl hS ha
    have hno := tokS_no hs
    have h10 : 10 ∉ w := fun m => (hno 10 m).1 rfl
    have hlw : w.length ≤ sizeLine := by
      have : cs.length = pre.length + (w.length + rest.length) := by rw [hc]; simp [mSeq, mSet, mRet, mBin, mCall, lCons, lNil, mVar, mC, mIfS, mCmp, mAndB, mOrB, mNotB, mTru, mIf, mAnd, mOr, mPass, mExpr, mBM, mAug, mAsg, gN, gT, gsC, gsN, mFn, mTup, mSl, oSome, mUn, mFor, mIt, mRng1, bLen, lenD, oLt, oLe, oGt, oGe, oAppend, oFind, hasTy, mDef, endOf, oIAdd, oSub, oIt]
      omega
    have hwp : 0 < w.length := by
      cases w with
      | nil => cases hs
      | cons => simp [mSeq, mSet, mRet, mBin, mCall, lCons, lNil, mVar, mC, mIfS, mCmp, mAndB, mOrB, mNotB, mTru, mIf, mAnd, mOr, mPass, mExpr, mBM, mAug, mAsg, gN, gT, gsC, gsN, mFn, mTup, mSl, oSome, mUn, mFor, mIt, mRng1, bLen, lenD, oLt, oLe, oGt, oGe, oAppend, oFind, hasTy, mDef, endOf, oIAdd, oSub, oIt]
    have hlt : (pre.length : Int) < (cs.length : Int) := by rw [hc]; simp [mSeq, mSet, mRet, mBin, mCall, lCons, lNil, mVar, mC, mIfS, mCmp, mAndB, mOrB, mNotB, mTru, mIf, mAnd, mOr, mPass, mExpr, mBM, mAug, mAsg, gN, gT, gsC, gsN, mFn, mTup, mSl, oSome, mUn, mFor, mIt, mRng1, bLen, lenD, oLt, oLe, oGt, oGe, oAppend, oFind, hasTy, mDef, endOf, oIAdd, oSub, oIt]; omega
    have hC : b_toksC [some (.str (tx cs)), some (.ref i), some (.int (pre.length : Int)), some (rowD pre), some (begD pre), o5, o6] S = .ok true S := by
      simp [mSeq, mSet, mRet, mBin, mCall, lCons, lNil, mVar, mC, mIfS, mCmp, mAndB, mOrB, mNotB, mTru, mIf, mAnd, mOr, mPass, mExpr, mBM, mAug, mAsg, gN, gT, gsC, gsN, mFn, mTup, mSl, oSome, mUn, mFor, mIt, mRng1, lenD, oLt, oLe, oGt, oGe, oAppend, oFind, hasTy, mDef, endOf, oIAdd, oSub, oIt, b_toksC, len_tx (Nat.le_of_lt hl), hlt]
    have hm : ∀ (r c : D), mDef 4 4 (b_token r1 r2) [.str (tx cs), .int (pre.length : Int), r, c] S = .ok (.tup [.str kind, .str (tx w), r, c]) S := by
      intro r c
      have hc2 : cs = pre ++ w ++ rest := by rw [hc]; simp [mSeq, mSet, mRet, mBin, mCall, lCons, lNil, mVar, mC, mIfS, mCmp, mAndB, mOrB, mNotB, mTru, mIf, mAnd, mOr, mPass, mExpr, mBM, mAug, mAsg, gN, gT, gsC, gsN, mFn, mTup, mSl, oSome, mUn, mFor, mIt, mRng1, bLen, lenD, oLt, oLe, oGt, oGe, oAppend, oFind, hasTy, mDef, endOf, oIAdd, oSub, oIt]
      rw [hc2]
      exact token_ok (by rw [← hc2]; exact Nat.le_of_lt hl) hs hb
    obtain ⟨x, v, hxv⟩ : ∃ x v, w = x :: v := by
      cases w with
      | nil => simp at hwp
      | cons x v => exact ⟨x, v, rfl⟩
    have hg : cs[pre.length]? = some x := by rw [hc, hxv]; simp [mSeq, mSet, mRet, mBin, mCall, lCons, lNil, mVar, mC, mIfS, mCmp, mAndB, mOrB, mNotB, mTru, mIf, mAnd, mOr, mPass, mExpr, mBM, mAug, mAsg, gN, gT, gsC, gsN, mFn, mTup, mSl, oSome, mUn, mFor, mIt, mRng1, bLen, lenD, oLt, oLe, oGt, oGe, oAppend, oFind, hasTy, mDef, endOf, oIAdd, oSub, oIt]
    have hx := hno x (by rw [hxv]; simp [mSeq, mSet, mRet, mBin, mCall, lCons, lNil, mVar, mC, mIfS, mCmp, mAndB, mOrB, mNotB, mTru, mIf, mAnd, mOr, mPass, mExpr, mBM, mAug, mAsg, gN, gT, gsC, gsN, mFn, mTup, mSl, oSome, mUn, mFor, mIt, mRng1, bLen, lenD, oLt, oLe, oGt, oGe, oAppend, oFind, hasTy, mDef, endOf, oIAdd, oSub, oIt])
    have he1 : oEq (.str (tx [x])) (.str "\n") S = .ok (.bl false) S := by rw [spS.1]; simp [mSeq, mSet, mRet, mBin, mCall, lCons, lNil, mVar, mC, mIfS, mCmp, mAndB, mOrB, mNotB, mTru, mIf, mAnd, mOr, mPass, mExpr, mBM, mAug, mAsg, gN, gT, gsC, gsN, mFn, mTup, mSl, oSome, mUn, mFor, mIt, mRng1, bLen, lenD, oLt, oLe, oGt, oGe, oAppend, oFind, hasTy, mDef, endOf, oIAdd, oSub, oIt, oEq, cEqD, cEqS, hx.1]
    have he2 : oEq (.str (tx [x])) (.str " ") S = .ok (.bl false) S := by rw [spS.2.1]; simp [mSeq, mSet, mRet, mBin, mCall, lCons, lNil, mVar, mC, mIfS, mCmp, mAndB, mOrB, mNotB, mTru, mIf, mAnd, mOr, mPass, mExpr, mBM, mAug, mAsg, gN, gT, gsC, gsN, mFn, mTup, mSl, oSome, mUn, mFor, mIt, mRng1, bLen, lenD, oLt, oLe, oGt, oGe, oAppend, oFind, hasTy, mDef, endOf, oIAdd, oSub, oIt, oEq, cEqD, cEqS, hx.2.1]
    have he3 : oEq (.str (tx [x])) (.str "#") S = .ok (.bl false) S := by rw [spS.2.2.1]; simp [mSeq, mSet, mRet, mBin, mCall, lCons, lNil, mVar, mC, mIfS, mCmp, mAndB, mOrB, mNotB, mTru, mIf, mAnd, mOr, mPass, mExpr, mBM, mAug, mAsg, gN, gT, gsC, gsN, mFn, mTup, mSl, oSome, mUn, mFor, mIt, mRng1, bLen, lenD, oLt, oLe, oGt, oGe, oAppend, oFind, hasTy, mDef, endOf, oIAdd, oSub, oIt, oEq, cEqD, cEqS, hx.2.2]
    have hsz : acc.length < sizeLine := by
      have : cs.length = pre.length + (w.length + rest.length) := by rw [hc]; simp [mSeq, mSet, mRet, mBin, mCall, lCons, lNil, mVar, mC, mIfS, mCmp, mAndB, mOrB, mNotB, mTru, mIf, mAnd, mOr, mPass, mExpr, mBM, mAug, mAsg, gN, gT, gsC, gsN, mFn, mTup, mSl, oSome, mUn, mFor, mIt, mRng1, bLen, lenD, oLt, oLe, oGt, oGe, oAppend, oFind, hasTy, mDef, endOf, oIAdd, oSub, oIt]
      omega
    have hlen : ∀ S, bLen [.str (tx w)] S = .ok (.int (w.length : Int)) S := fun S => len_tx hlw
    have hat : ∀ (a b c d : D) S, oIx (.tup [a, b, c, d]) (.int 1) S = .ok b S := fun a b c d S => rfl
    have hB : b_toksB r1 r2 [some (.str (tx cs)), some (.ref i), some (.int (pre.length : Int)), some (rowD pre), some (begD pre), o5, o6] S = .ok (.nx [some (.str (tx cs)), some (.ref i), some (.int ((pre ++ w).length : Int)), some (rowD (pre ++ w)), some (begD (pre ++ w)), some (.str (tx [x])), some (tokD kind w pre)]) (S.set i (.lst (acc ++ [tokD kind w pre]))) := by
      rw [row_no h10, beg_no h10]
      have hcol : (begD pre) = .int (behC 10 pre 0 0 : Int) := rfl
      rw [hcol]
      simp only [b_toksB, mSeq, mSet, mBin, mVar, List.getElem?_cons_zero, List.getElem?_cons_succ, R.bind_ok, ix_tx hg (Nat.le_of_lt hl), List.set_cons_succ, List.set_cons_zero, mIfS, mCmp, mC, he1, he2, he3, Bool.false_eq_true, if_false, mFn, lCons, lNil, oSub, oAdd, hm, R.at_ok, mExpr, mBM, hasTy, hS, decide_true, if_true, oAppend, hsz, mAug, mCall, hat, hlen, oIAdd]
      simp [mSeq, mSet, mRet, mBin, mCall, lCons, lNil, mVar, mC, mIfS, mCmp, mAndB, mOrB, mNotB, mTru, mIf, mAnd, mOr, mPass, mExpr, mBM, mAug, mAsg, gN, gT, gsC, gsN, mFn, mTup, mSl, oSome, mUn, mFor, mIt, mRng1, bLen, lenD, oLt, oLe, oGt, oGe, oAppend, oFind, hasTy, mDef, endOf, oIAdd, oSub, oIt, tokD, colD]
    obtain ⟨o5', o6', e⟩ := ih (cs := cs) (i := i) (S := S.set i (.lst (acc ++ [tokD kind w pre]))) (acc := acc ++ [tokD kind w pre]) (some (.str (tx [x]))) (some (tokD kind w pre)) (by rw [hc]; simp [mSeq, mSet, mRet, mBin, mCall, lCons, lNil, mVar, mC, mIfS, mCmp, mAndB, mOrB, mNotB, mTru, mIf, mAnd, mOr, mPass, mExpr, mBM, mAug, mAsg, gN, gT, gsC, gsN, mFn, mTup, mSl, oSome, mUn, mFor, mIt, mRng1, bLen, lenD, oLt, oLe, oGt, oGe, oAppend, oFind, hasTy, mDef, endOf, oIAdd, oSub, oIt]) hl (get_put hS) (by simp [mSeq, mSet, mRet, mBin, mCall, lCons, lNil, mVar, mC, mIfS, mCmp, mAndB, mOrB, mNotB, mTru, mIf, mAnd, mOr, mPass, mExpr, mBM, mAug, mAsg, gN, gT, gsC, gsN, mFn, mTup, mSl, oSome, mUn, mFor, mIt, mRng1, bLen, lenD, oLt, oLe, oGt, oGe, oAppend, oFind, hasTy, mDef, endOf, oIAdd, oSub, oIt]; omega)
    refine ⟨o5', o6', ?_⟩
    rw [mWhile_eq, hC]
    simp only [R.bind_ok, if_true, hB, e, List.set_set, List.append_assoc, List.singleton_append]
def endD (cs : List Nat) : D := .tup [.str "end", .str "", rowD cs, colD cs]
theorem toks_ok {r1 r2 : MS} {cs : List Nat} {ts : List D} (h : Lx [] cs ts) (hl : cs.length < sizeLine) (S : Hs) : mDef 1 6 (b_toks r1 r2) [.str (tx cs)] S = .ok (.ref S.length) (S ++ [.lst (ts ++ [endD cs])]) := by
  obtain ⟨o5', o6', e⟩ := toks_loop (r1 := r1) (r2 := r2) h (cs := cs) (i := S.length) (S := S ++ [.lst []]) (acc := []) none none rfl hl get_end (Nat.zero_le _)
  rw [set_end, List.nil_append] at e
  have hts : ts.length < sizeLine := Nat.lt_of_le_of_lt h.len hl
  have e0 : mWhile b_toksC (b_toksB r1 r2) [some (.str (tx cs)), some (.ref S.length), some (.int 0), some (.int 1), some (.int 0), none, none] (S ++ [.lst []]) = .ok (.nx [some (.str (tx cs)), some (.ref S.length), some (.int (cs.length : Int)), some (rowD cs), some (begD cs), o5', o6']) (S ++ [.lst ts]) := e
  have hd : mDef 1 6 (b_toks r1 r2) [.str (tx cs)] S = endOf (b_toks r1 r2 [some (.str (tx cs)), none, none, none, none, none, none] S) := rfl
  have hcol : (begD cs) = .int (behC 10 cs 0 0 : Int) := rfl
  rw [hcol] at e0
  rw [hd]
  simp only [b_toks, mSeq, mSet, mLst_nil, R.bind_ok, List.set_cons_succ, List.set_cons_zero, mC, e0, mExpr, mBM, mVar, List.getElem?_cons_zero, List.getElem?_cons_succ, hasTy, get_end, decide_true, if_true, lCons, lNil, mTup, mBin, oSub, oAdd, oAppend, hts, List.length_cons, List.length_nil, show (4 : Nat) ≤ sizeLine by decide, show (0 + 1 + 1 + 1 + 1 : Nat) ≤ sizeLine by decide, set_end, mRet, endOf]
  rfl
def Skip (s : List Nat) : Prop := ∀ pre rest ts, Lx (pre ++ s) rest ts → Lx pre (s ++ rest) ts
def skB : Bool → List Nat → Bool
  | b, [] => !b
  | false, c :: r => if c = 10 ∨ c = 32 then skB false r else if c = 35 then skB true r else false
  | true, c :: r => if c = 10 then skB false r else skB true r
theorem skip_of : ∀ (s : List Nat), (skB false s = true → Skip s) ∧ (skB true s = true → ∀ body, 10 ∉ body → Skip (35 :: body ++ s))
  | [] => ⟨fun _ pre rest ts h => by simpa using h, fun h => by simp [skB] at h⟩
  | c :: r => by
    obtain ⟨h1, h2⟩ := skip_of r
    refine ⟨fun h pre rest ts hx => ?_, fun h body hb pre rest ts hx => ?_⟩
    · simp only [skB] at h
      split at h
      · rename_i hc
        have := h1 h (pre ++ [c]) rest ts (by simpa using hx)
        rcases hc with rfl | rfl
        · exact Lx.nl this
        · exact Lx.sp this
      · split at h
        · rename_i hc
          subst hc
          exact h2 h [] (by simp [mSeq, mSet, mRet, mBin, mCall, lCons, lNil, mVar, mC, mIfS, mCmp, mAndB, mOrB, mNotB, mTru, mIf, mAnd, mOr, mPass, mExpr, mBM, mAug, mAsg, gN, gT, gsC, gsN, mFn, mTup, mSl, oSome, mUn, mFor, mIt, mRng1, bLen, lenD, oLt, oLe, oGt, oGe, oAppend, oFind, hasTy, mDef, endOf, oIAdd, oSub, oIt]) pre rest ts (by simpa using hx)
        · cases h
    · simp only [skB] at h
      split at h
      · rename_i hc
        subst hc
        have h3 := h1 h (pre ++ 35 :: body ++ [10]) rest ts (by simpa using hx)
        have h4 := Lx.com (pre := pre) (body := body) (rest := 10 :: (r ++ rest)) hb (.inr rfl) (Lx.nl h3)
        simpa using h4
      · rename_i hc
        have := h2 h (body ++ [c]) (by simp [mSeq, mSet, mRet, mBin, mCall, lCons, lNil, mVar, mC, mIfS, mCmp, mAndB, mOrB, mNotB, mTru, mIf, mAnd, mOr, mPass, mExpr, mBM, mAug, mAsg, gN, gT, gsC, gsN, mFn, mTup, mSl, oSome, mUn, mFor, mIt, mRng1, bLen, lenD, oLt, oLe, oGt, oGe, oAppend, oFind, hasTy, mDef, endOf, oIAdd, oSub, oIt, hb]; omega) pre rest ts (by simpa using hx)
        simpa using this
def skE : Bool → List Nat → Bool
  | _, [] => true
  | false, c :: r => if c = 10 ∨ c = 32 then skE false r else if c = 35 then skE true r else false
  | true, c :: r => if c = 10 then skE false r else skE true r
theorem tail_of : ∀ (s : List Nat), (skE false s = true → ∀ pre, Lx pre s []) ∧ (skE true s = true → ∀ body pre, 10 ∉ body → Lx pre (35 :: body ++ s) [])
  | [] => ⟨fun _ pre => .done, fun _ body pre hb => Lx.com hb (.inl rfl) .done⟩
  | c :: r => by
    obtain ⟨h1, h2⟩ := tail_of r
    refine ⟨fun h pre => ?_, fun h body pre hb => ?_⟩
    · simp only [skE] at h
      split at h
      · rename_i hc
        rcases hc with rfl | rfl
        · exact Lx.nl (h1 h _)
        · exact Lx.sp (h1 h _)
      · split at h
        · rename_i hc
          subst hc
          exact h2 h [] pre (by simp [mSeq, mSet, mRet, mBin, mCall, lCons, lNil, mVar, mC, mIfS, mCmp, mAndB, mOrB, mNotB, mTru, mIf, mAnd, mOr, mPass, mExpr, mBM, mAug, mAsg, gN, gT, gsC, gsN, mFn, mTup, mSl, oSome, mUn, mFor, mIt, mRng1, bLen, lenD, oLt, oLe, oGt, oGe, oAppend, oFind, hasTy, mDef, endOf, oIAdd, oSub, oIt])
        · cases h
    · simp only [skE] at h
      split at h
      · rename_i hc
        subst hc
        exact Lx.com (pre := pre) (body := body) (rest := 10 :: r) hb (.inr rfl) (Lx.nl (h1 h _))
      · have := h2 h (body ++ [c]) pre (by simp [mSeq, mSet, mRet, mBin, mCall, lCons, lNil, mVar, mC, mIfS, mCmp, mAndB, mOrB, mNotB, mTru, mIf, mAnd, mOr, mPass, mExpr, mBM, mAug, mAsg, gN, gT, gsC, gsN, mFn, mTup, mSl, oSome, mUn, mFor, mIt, mRng1, bLen, lenD, oLt, oLe, oGt, oGe, oAppend, oFind, hasTy, mDef, endOf, oIAdd, oSub, oIt, hb]; omega)
        simpa using this
theorem bnd_blank {kind : Str} {w : List Nat} (h : tokS kind w = true) {nx : Option Nat} (hn : ∀ c, nx = some c → c = 10 ∨ c = 32 ∨ c = 35) : bnd w nx = true := by
  cases w with
  | nil => cases h
  | cons x v =>
    simp only [bnd]
    split
    · cases nx with
      | none => rfl
      | some c =>
        simp only [Option.all_some, Bool.not_eq_true']
        cases e : isWs c with
        | false => rfl
        | true =>
          have := ws_no e
          have := hn c rfl
          omega
    · cases nx with
      | none =>
        cases e : longL.any (fun z => z == tx (x :: (none : Option Nat).toList)) with
        | false => simp [mSeq, mSet, mRet, mBin, mCall, lCons, lNil, mVar, mC, mIfS, mCmp, mAndB, mOrB, mNotB, mTru, mIf, mAnd, mOr, mPass, mExpr, mBM, mAug, mAsg, gN, gT, gsC, gsN, mFn, mTup, mSl, oSome, mUn, mFor, mIt, mRng1, bLen, lenD, oLt, oLe, oGt, oGe, oAppend, oFind, hasTy, mDef, endOf, oIAdd, oSub, oIt]
        | true =>
          have := long2 e
          simp [mSeq, mSet, mRet, mBin, mCall, lCons, lNil, mVar, mC, mIfS, mCmp, mAndB, mOrB, mNotB, mTru, mIf, mAnd, mOr, mPass, mExpr, mBM, mAug, mAsg, gN, gT, gsC, gsN, mFn, mTup, mSl, oSome, mUn, mFor, mIt, mRng1, bLen, lenD, oLt, oLe, oGt, oGe, oAppend, oFind, hasTy, mDef, endOf, oIAdd, oSub, oIt] at this
      | some c =>
        cases e : longL.any (fun z => z == tx (x :: (some c).toList)) with
        | false => simp [mSeq, mSet, mRet, mBin, mCall, lCons, lNil, mVar, mC, mIfS, mCmp, mAndB, mOrB, mNotB, mTru, mIf, mAnd, mOr, mPass, mExpr, mBM, mAug, mAsg, gN, gT, gsC, gsN, mFn, mTup, mSl, oSome, mUn, mFor, mIt, mRng1, bLen, lenD, oLt, oLe, oGt, oGe, oAppend, oFind, hasTy, mDef, endOf, oIAdd, oSub, oIt]
        | true =>
          rw [List.any_eq_true] at e
          obtain ⟨z, hz, e⟩ := e
          have e' : z = tx [x, c] := by simpa using e
          have := signs_no z (List.mem_append_left _ hz)
          rw [e', tx_list] at this
          simp only [List.all_cons, List.all_nil, Bool.and_eq_true, Bool.not_eq_true', beq_eq_false_iff_ne] at this
          have h2 := hn c rfl
          have h3 := this.2.1
          omega
def Built (text : List Nat) (due : List D) (last : List Nat) : Prop := ∀ rest ts, bnd last rest.head? = true → Lx text rest ts → Lx [] (text ++ rest) (due ++ ts)
theorem Built.step {text last s w : List Nat} {due : List D} {kind : Str} (h : Built text due last) (hs : skB false s = true) (hw : tokS kind w = true) (hb : bnd last (s ++ w).head? = true) : Built (text ++ s ++ w) (due ++ [tokD kind w (text ++ s)]) w := by
  intro rest ts hr hx
  have h1 : Lx (text ++ s) (w ++ rest) (tokD kind w (text ++ s) :: ts) := Lx.tok hw hr hx
  have h2 := (skip_of s).1 hs _ _ _ h1
  have hne : s ++ w ≠ [] := by
    cases w with
    | nil => cases hw
    | cons => simp [mSeq, mSet, mRet, mBin, mCall, lCons, lNil, mVar, mC, mIfS, mCmp, mAndB, mOrB, mNotB, mTru, mIf, mAnd, mOr, mPass, mExpr, mBM, mAug, mAsg, gN, gT, gsC, gsN, mFn, mTup, mSl, oSome, mUn, mFor, mIt, mRng1, bLen, lenD, oLt, oLe, oGt, oGe, oAppend, oFind, hasTy, mDef, endOf, oIAdd, oSub, oIt]
  have hh : (s ++ (w ++ rest)).head? = (s ++ w).head? := by
    rw [← List.append_assoc]
    cases e : s ++ w with
    | nil => exact absurd e hne
    | cons => rfl
  have := h _ _ (by rw [hh]; exact hb) h2
  simpa using this
theorem Built.first {s : List Nat} (hs : skB false s = true) (last : List Nat) : Built s [] last := by
  intro rest ts _ hx
  have := (skip_of s).1 hs [] rest ts (by simpa using hx)
  simpa using this
theorem Built.all {text last tail : List Nat} {due : List D} {kind : Str} (h : Built text due last) (hb : bnd last tail.head? = true) (ht : skE false tail = true) : Lx [] (text ++ tail) due := by
  have := h tail [] hb ((tail_of tail).1 ht _)
  simpa using this
end
end Ly
set_option Elab.async false
set_option linter.all false
set_option maxRecDepth 100000
set_option maxHeartbeats 2000000
namespace Ly
open PySem PySem.Spec L2
open PyProof.Rows hiding St
def numB (w : List Nat) : Bool := decide (10 < w.length) || (decide (1 < w.length) && w.head? == some 48) || !(w.all isDig) || (match intText? (tx w) with | some n => decide (4294967295 < n) | none => false)
theorem num_loopB {w : List Nat} {S : Hs} : ∀ (m k : Nat) (x1 : Option D), k + m = w.length → ((w.drop k).all isDig = false) → fLoop (.str (tx w)) (gN 1) b_numB k [some (.str (tx w)), x1] S = .ok (.rt (.bl false)) S
  | 0, k, x1, h, ha => by
    rw [List.drop_eq_nil_of_le (by omega)] at ha
    cases ha
  | m + 1, k, x1, h, ha => by
    have hk : k < w.length := by omega
    have hg : (tx w).cps[k]? = some w[k] := by
      rw [← Array.getElem?_toList, tx_list, List.getElem?_eq_getElem hk]
    have e : oNotIn (.str (tx [w[k]])) (.str digS) S = .ok (.bl (!decide (w[k] ∈ digS.cps.toList))) S := rfl
    have hs : (⟨#[w[k]]⟩ : Str) = tx [w[k]] := rfl
    rw [List.drop_eq_getElem_cons hk, List.all_cons] at ha
    rw [fLoop_eq]
    cases hd : isDig w[k] with
    | true =>
      rw [hd, Bool.true_and] at ha
      have hd' : decide (w[k] ∈ digS.cps.toList) = true := hd
      rw [hd'] at e
      have ih := num_loopB (S := S) m (k + 1) (some (.str (tx [w[k]]))) (by omega) ha
      have hB : b_numB [some (.str (tx w)), some (.str (tx [w[k]]))] S = .ok (.nx [some (.str (tx w)), some (.str (tx [w[k]]))]) S := by
        simp [mSeq, mSet, mRet, mBin, mCall, lCons, lNil, mVar, mC, mIfS, mCmp, mAndB, mOrB, mNotB, mTru, mIf, mAnd, mOr, mPass, mExpr, mBM, mAug, mAsg, gN, gT, gsC, gsN, mFn, mTup, mSl, oSome, mUn, mFor, mIt, mRng1, bLen, lenD, oLt, oLe, oGt, oGe, oAppend, oFind, hasTy, mDef, endOf, oIAdd, oSub, oIt, b_numB, e]
      simp only [itGo, hg, Option.map_some, gN, R.bind_ok, List.set_cons_succ, List.set_cons_zero, hs, hB, ih]
    | false =>
      have hd' : decide (w[k] ∈ digS.cps.toList) = false := hd
      rw [hd'] at e
      have hB : b_numB [some (.str (tx w)), some (.str (tx [w[k]]))] S = .ok (.rt (.bl false)) S := by
        simp [mSeq, mSet, mRet, mBin, mCall, lCons, lNil, mVar, mC, mIfS, mCmp, mAndB, mOrB, mNotB, mTru, mIf, mAnd, mOr, mPass, mExpr, mBM, mAug, mAsg, gN, gT, gsC, gsN, mFn, mTup, mSl, oSome, mUn, mFor, mIt, mRng1, bLen, lenD, oLt, oLe, oGt, oGe, oAppend, oFind, hasTy, mDef, endOf, oIAdd, oSub, oIt, b_numB, e]
      simp only [itGo, hg, Option.map_some, gN, R.bind_ok, List.set_cons_succ, List.set_cons_zero, hs, hB]
theorem num_bad {w : List Nat} {S : Hs} (hl : w.length ≤ 600) (hne : w ≠ []) (h : numB w = true) : mDef 1 1 b_num [.str (tx w)] S = .ok (.bl false) S := by
  have hz : w.length ≤ sizeLine := Nat.le_trans hl (by decide)
  have hd : mDef 1 1 b_num [.str (tx w)] S = endOf (b_num [some (.str (tx w)), none] S) := rfl
  rw [hd]
  have early : (mOrB (mCmp oGt (mCall bLen (lCons (mVar 0) lNil)) (mC (.int 10))) (mAndB (mCmp oGt (mCall bLen (lCons (mVar 0) lNil)) (mC (.int 1))) (mCmp oEq (mBin oIx (mVar 0) (mC (.int 0))) (mC (.str "0"))))) [some (.str (tx w)), none] S = .ok true S → endOf (b_num [some (.str (tx w)), none] S) = .ok (.bl false) S := fun hc => by
    simp only [b_num, mSeq, mIfS, hc, R.bind_ok, if_true, mRet, mC]
    rfl
  by_cases g1 : 10 < w.length
  · refine early ?_
    have g1' : (10 : Int) < (w.length : Int) := by omega
    simp only [mOrB, mCmp, mCall, lCons, lNil, mVar, List.getElem?_cons_zero, R.bind_ok, len_tx hz, mC, oGt, g1', decide_true, if_true]
  cases w with
  | nil => exact absurd rfl hne
  | cons x v =>
    have hx : oIx (.str (tx (x :: v))) (.int 0) S = .ok (.str (tx [x])) S := ix_tx (i := 0) rfl hz
    have g1' : ¬ (10 : Int) < ((x :: v).length : Int) := by omega
    have he : cEqD (.str (tx [x])) (.str "0") S = some (decide (x = 48)) := by
      rw [spS.2.2.2]
      simp [mSeq, mSet, mRet, mBin, mCall, lCons, lNil, mVar, mC, mIfS, mCmp, mAndB, mOrB, mNotB, mTru, mIf, mAnd, mOr, mPass, mExpr, mBM, mAug, mAsg, gN, gT, gsC, gsN, mFn, mTup, mSl, oSome, mUn, mFor, mIt, mRng1, bLen, lenD, oLt, oLe, oGt, oGe, oAppend, oFind, hasTy, mDef, endOf, oIAdd, oSub, oIt, cEqD, cEqS]
    have heq : oEq (.str (tx [x])) (.str "0") S = .ok (.bl (decide (x = 48))) S := by simp only [oEq, he]
    by_cases g2 : (1 : Int) < ((x :: v).length : Int) ∧ x = 48
    · refine early ?_
      obtain ⟨g2, g3⟩ := g2
      have g4 : decide (x = 48) = true := by rw [g3]; rfl
      simp only [mOrB, mCmp, mCall, lCons, lNil, mVar, List.getElem?_cons_zero, R.bind_ok, len_tx hz, mC, oGt, g1', decide_false, mAndB, g2, decide_true, if_true, mBin, hx, heq, g4, Bool.false_eq_true, if_false]
    have hc : (mOrB (mCmp oGt (mCall bLen (lCons (mVar 0) lNil)) (mC (.int 10))) (mAndB (mCmp oGt (mCall bLen (lCons (mVar 0) lNil)) (mC (.int 1))) (mCmp oEq (mBin oIx (mVar 0) (mC (.int 0))) (mC (.str "0"))))) [some (.str (tx (x :: v))), none] S = .ok false S := by
      by_cases g3 : (1 : Int) < ((x :: v).length : Int)
      · have g4 : ¬ x = 48 := fun e => g2 ⟨g3, e⟩
        simp only [mOrB, mCmp, mCall, lCons, lNil, mVar, List.getElem?_cons_zero, R.bind_ok, len_tx hz, mC, oGt, g1', decide_false, mAndB, g3, decide_true, if_true, mBin, hx, heq, g4, Bool.false_eq_true, if_false]
      · simp only [mOrB, mCmp, mCall, lCons, lNil, mVar, List.getElem?_cons_zero, R.bind_ok, len_tx hz, mC, oGt, g1', decide_false, mAndB, g3, Bool.false_eq_true, if_false]
    have hmk : ∀ (o : Option D), (mFor (mIt (mVar 0)) (gN 1) b_numB) [some (.str (tx (x :: v))), o] S = fLoop (.str (tx (x :: v))) (gN 1) b_numB 0 [some (.str (tx (x :: v))), o] S := fun o => by simp [mSeq, mSet, mRet, mBin, mCall, lCons, lNil, mVar, mC, mIfS, mCmp, mAndB, mOrB, mNotB, mTru, mIf, mAnd, mOr, mPass, mExpr, mBM, mAug, mAsg, gN, gT, gsC, gsN, mFn, mTup, mSl, oSome, mUn, mFor, mIt, mRng1, bLen, lenD, oLt, oLe, oGt, oGe, oAppend, oFind, hasTy, mDef, endOf, oIAdd, oSub, oIt]
    have n2 : (decide (1 < (x :: v).length) && (x :: v).head? == some 48) = false := by
      cases e : decide (1 < (x :: v).length) && (x :: v).head? == some 48 with
      | false => rfl
      | true =>
        rw [Bool.and_eq_true, decide_eq_true_eq] at e
        have e2 : x = 48 := by simpa using e.2
        exact absurd ⟨by omega, e2⟩ g2
    simp only [numB, decide_eq_false g1, n2, Bool.false_or, Bool.or_eq_true, Bool.not_eq_true'] at h
    cases ha : (x :: v).all isDig with
    | false =>
      have hL := num_loopB (S := S) (w := x :: v) (x :: v).length 0 none (by omega) (by rw [List.drop_zero]; exact ha)
      simp only [b_num, mSeq, mIfS, hc, R.bind_ok, mPass, Bool.false_eq_true, if_false]
      rw [hmk, hL]
      rfl
    | true =>
      rw [ha] at h
      have h := h.resolve_left (by simp)
      obtain ⟨x1', hL⟩ := num_loop (w := x :: v) (S := S) (x :: v).length 0 none (by omega) ha
      split at h
      · rename_i n hn
        have hn0 : ¬ n ≤ 4294967295 := by
          have : 4294967295 < n := by simpa using h
          omega
        have hi : bInt [.str (tx (x :: v))] S = .ok (.int n) S := by
          have : (tx (x :: v)).length ≤ 640 := by rw [tx_len]; omega
          simp only [bInt, hn]
          rw [if_pos this]
        simp only [b_num, mSeq, mIfS, hc, R.bind_ok, mPass, Bool.false_eq_true, if_false]
        rw [hmk, hL]
        simp only [R.bind_ok, mRet, mBin, mCall, lCons, lNil, mVar, List.getElem?_cons_zero, hi, mC, oLe, hn0, decide_false]
        rfl
      · cases h
def badN (w : List Nat) : Bool := w.all isWs && (match w with | c :: _ => isDig c && !isLet c | [] => false) && numB w
def badC (w : List Nat) (nx : Option Nat) : Bool := match w with
  | x :: v => !isLet x && !isDig x && !(x == 10) && !(x == 32) && !(x == 35) && !(shortL.any fun z => z == tx [x]) && !(longL.any fun z => z == tx (x :: ((v ++ nx.toList).take 1)))
  | [] => false
section
variable {r1 r2 : MS} {e : V} {fs : Option (List (Str × D))} {S : Hs} {r c : D} {pre w rest : List Nat}
def Rz (m : MS) (r c : D) (e : V) (fs : Option (List (Str × D))) : Prop := ∀ (t0 : D) (t1 : D) (l : Ls) (S : Hs), ∃ l', m (some t0 :: some t1 :: some r :: some c :: l) S = .exc e fs l' S
theorem token_badN (hl : (pre ++ w ++ rest).length ≤ sizeLine) (hw : badN w = true) (hwl : w.length ≤ 600) (hb : ∀ y, rest.head? = some y → isWs y = false) (hr : Rz r1 r c e fs) :
    mDef 4 4 (b_token r1 r2) [.str (tx (pre ++ w ++ rest)), .int (pre.length : Int), r, c] S = .exc e fs [] S := by
  simp only [badN, Bool.and_eq_true] at hw
  obtain ⟨⟨h1, h2⟩, h3⟩ := hw
  cases w with
  | nil => cases h2
  | cons x v =>
    simp only [Bool.and_eq_true, Bool.not_eq_true'] at h2
    obtain ⟨hD, hL⟩ := h2
    have hg : (pre ++ (x :: v) ++ rest)[pre.length]? = some x := by simp [mSeq, mSet, mRet, mBin, mCall, lCons, lNil, mVar, mC, mIfS, mCmp, mAndB, mOrB, mNotB, mTru, mIf, mAnd, mOr, mPass, mExpr, mBM, mAug, mAsg, gN, gT, gsC, gsN, mFn, mTup, mSl, oSome, mUn, mFor, mIt, mRng1, bLen, lenD, oLt, oLe, oGt, oGe, oAppend, oFind, hasTy, mDef, endOf, oIAdd, oSub, oIt]
    have hix := ix_tx (S := S) hg hl
    have hwd := word_ok (S := S) hl h1 hb
    have hin1 : oIn (.str (tx [x])) (.str letS) S = .ok (.bl (isLet x)) S := rfl
    have hin2 : oIn (.str (tx [x])) (.str digS) S = .ok (.bl (isDig x)) S := rfl
    have hn := num_bad (S := S) hwl (by simp) h3
    have hd : ∀ t : Str, mDef 4 4 (b_token r1 r2) [.str t, .int (pre.length : Int), r, c] S = endOf (b_token r1 r2 [some (.str t), some (.int (pre.length : Int)), some r, some c, none, none, none, none] S) := fun t => rfl
    rw [hd]
    generalize htt : tx (pre ++ (x :: v) ++ rest) = t at hix hwd
    obtain ⟨l', e1⟩ := hr (.str t) (.int (pre.length : Int)) [some (.str (tx [x])), some (.str (tx (x :: v))), none, none] S
    simp only [b_token, mSeq, mSet, mBin, mVar, List.getElem?_cons_zero, List.getElem?_cons_succ, R.bind_ok, hix, List.set_cons_succ, List.set_cons_zero, mIfS, mCmp, mC, hin1, hL, if_true, mFn, lCons, lNil, hwd, R.at_ok, Bool.false_eq_true, if_false, mPass, hin2, hD, mNotB, mTru, hn, oTru, tru, Bool.not_false, e1, R.bind_exc, endOf]
theorem token_badC (hl : (pre ++ w ++ rest).length ≤ sizeLine) (hw : badC w rest.head? = true) (hr : Rz r2 r c e fs) :
    mDef 4 4 (b_token r1 r2) [.str (tx (pre ++ w ++ rest)), .int (pre.length : Int), r, c] S = .exc e fs [] S := by
  cases w with
  | nil => cases hw
  | cons x v =>
    simp only [badC, Bool.and_eq_true, Bool.not_eq_true'] at hw
    obtain ⟨⟨⟨⟨⟨⟨hL, hD⟩, _⟩, _⟩, _⟩, hsh⟩, hnb⟩ := hw
    have hg : (pre ++ (x :: v) ++ rest)[pre.length]? = some x := by simp [mSeq, mSet, mRet, mBin, mCall, lCons, lNil, mVar, mC, mIfS, mCmp, mAndB, mOrB, mNotB, mTru, mIf, mAnd, mOr, mPass, mExpr, mBM, mAug, mAsg, gN, gT, gsC, gsN, mFn, mTup, mSl, oSome, mUn, mFor, mIt, mRng1, bLen, lenD, oLt, oLe, oGt, oGe, oAppend, oFind, hasTy, mDef, endOf, oIAdd, oSub, oIt]
    have hix := ix_tx (S := S) hg hl
    have e0 : ((v ++ rest).take 1) = ((v ++ rest.head?.toList).take 1) := by
      cases v with
      | nil => cases rest <;> simp
      | cons y v => simp
    have hsl : oSl (.str (tx (pre ++ (x :: v) ++ rest))) (some (pre.length : Int)) (some ((pre.length : Int) + 2)) S = .ok (.str (tx (x :: (v ++ rest.head?.toList).take 1))) S := by
      rw [show (pre.length : Int) + 2 = ((pre.length + 2 : Nat) : Int) by simp, sl_tx (by omega) hl, ← e0]
      simp [mSeq, mSet, mRet, mBin, mCall, lCons, lNil, mVar, mC, mIfS, mCmp, mAndB, mOrB, mNotB, mTru, mIf, mAnd, mOr, mPass, mExpr, mBM, mAug, mAsg, gN, gT, gsC, gsN, mFn, mTup, mSl, oSome, mUn, mFor, mIt, mRng1, bLen, lenD, oLt, oLe, oGt, oGe, oAppend, oFind, hasTy, mDef, endOf, oIAdd, oSub, oIt]
    have hin1 : oIn (.str (tx [x])) (.str letS) S = .ok (.bl (isLet x)) S := rfl
    have hin2 : oIn (.str (tx [x])) (.str digS) S = .ok (.bl (isDig x)) S := rfl
    have hd : ∀ t : Str, mDef 4 4 (b_token r1 r2) [.str t, .int (pre.length : Int), r, c] S = endOf (b_token r1 r2 [some (.str t), some (.int (pre.length : Int)), some r, some c, none, none, none, none] S) := fun t => rfl
    rw [hd]
    generalize htt : tx (pre ++ (x :: v) ++ rest) = t at hix hsl
    obtain ⟨l', e1⟩ := hr (.str t) (.int (pre.length : Int)) [some (.str (tx [x])), none, none, some (.str (tx (x :: (v ++ rest.head?.toList).take 1)))] S
    simp only [b_token, mSeq, mSet, mBin, mVar, List.getElem?_cons_zero, List.getElem?_cons_succ, R.bind_ok, hix, List.set_cons_succ, List.set_cons_zero, mIfS, mCmp, mC, hin1, hL, mPass, hin2, hD, Bool.false_eq_true, if_false, mSl, oSome, oAdd, hsl, in_wtS, hnb, hsh, e1, R.bind_exc, endOf]
end
inductive Lq (rest' : List Nat) : List Nat → List Nat → List D → List Nat → Prop where
  | done {pre : List Nat} : Lq rest' pre rest' [] pre
  | nl {pre rest pre' : List Nat} {ts : List D} : Lq rest' (pre ++ [10]) rest ts pre' → Lq rest' pre (10 :: rest) ts pre'
  | sp {pre rest pre' : List Nat} {ts : List D} : Lq rest' (pre ++ [32]) rest ts pre' → Lq rest' pre (32 :: rest) ts pre'
  | com {pre rest pre' : List Nat} {ts : List D} {body : List Nat} : 10 ∉ body → (rest = [] ∨ rest.head? = some 10) → Lq rest' (pre ++ 35 :: body) rest ts pre' → Lq rest' pre (35 :: body ++ rest) ts pre'
  | tok {pre rest w pre' : List Nat} {kind : Str} {ts : List D} : tokS kind w = true → bnd w rest.head? = true → Lq rest' (pre ++ w) rest ts pre' → Lq rest' pre (w ++ rest) (tokD kind w pre :: ts) pre'
theorem Lq.trans {r1 r2 : List Nat} {a b c d : List Nat} {ts us : List D} (h : Lq r1 a b ts c) (g : Lq r2 c r1 us d) : Lq r2 a b (ts ++ us) d := by
  induction h with
  | done => exact g
  | nl _ ih => exact .nl (ih g)
  | sp _ ih => exact .sp (ih g)
  | com h1 h2 _ ih => exact .com h1 h2 (ih g)
  | tok h1 h2 _ ih => exact .tok h1 h2 (ih g)
theorem Lq.lx {a b c : List Nat} {ts : List D} (h : Lq [] a b ts c) : Lx a b ts := by
  induction h with
  | done => exact .done
  | nl _ ih => exact .nl ih
  | sp _ ih => exact .sp ih
  | com h1 h2 _ ih => exact .com h1 h2 ih
  | tok h1 h2 _ ih => exact .tok h1 h2 ih
theorem Lq.pre {r a b c : List Nat} {ts : List D} (h : Lq r a b ts c) : a ++ b = c ++ r := by
  induction h with
  | done => rfl
  | nl _ ih => rw [← ih]; simp
  | sp _ ih => rw [← ih]; simp
  | com _ _ _ ih => rw [← ih]; simp
  | tok _ _ _ ih => rw [← ih]; simp
theorem skipq : ∀ (s : List Nat), (skB false s = true → ∀ pre rest, Lq rest pre (s ++ rest) [] (pre ++ s)) ∧ (skB true s = true → ∀ body, 10 ∉ body → ∀ pre rest, Lq rest pre (35 :: body ++ (s ++ rest)) [] (pre ++ (35 :: body ++ s)))
  | [] => ⟨fun _ pre rest => by simpa using Lq.done, fun h => by simp [skB] at h⟩
  | c :: r => by
    obtain ⟨h1, h2⟩ := skipq r
    refine ⟨fun h pre rest => ?_, fun h body hb pre rest => ?_⟩
    · simp only [skB] at h
      split at h
      · rename_i hc
        have := h1 h (pre ++ [c]) rest
        rw [List.append_assoc] at this
        rcases hc with rfl | rfl
        · exact Lq.nl this
        · exact Lq.sp this
      · split at h
        · rename_i hc
          subst hc
          have := h2 h [] (by simp) pre rest
          simpa using this
        · cases h
    · simp only [skB] at h
      split at h
      · rename_i hc
        subst hc
        have h3 := h1 h (pre ++ 35 :: body ++ [10]) rest
        have h4 := Lq.com (pre := pre) (body := body) (rest := 10 :: (r ++ rest)) hb (.inr rfl) (Lq.nl h3)
        simpa using h4
      · rename_i hc
        have := h2 h (body ++ [c]) (by simp [hb]; omega) pre rest
        simpa using this
theorem q_loop {r1 r2 : MS} {rest' pre rest pre' : List Nat} {ts : List D} (h : Lq rest' pre rest ts pre') : ∀ {cs : List Nat} {i : Nat} {S : Hs} {acc : List D} (o5 o6 : Option D), cs = pre ++ rest → cs.length < sizeLine → S[i]? = some (.lst acc) → acc.length ≤ pre.length →
    ∃ o5' o6', mWhile b_toksC (b_toksB r1 r2) [some (.str (tx cs)), some (.ref i), some (.int (pre.length : Int)), some (rowD pre), some (begD pre), o5, o6] S
      = mWhile b_toksC (b_toksB r1 r2) [some (.str (tx cs)), some (.ref i), some (.int (pre'.length : Int)), some (rowD pre'), some (begD pre'), o5', o6'] (S.set i (.lst (acc ++ ts))) := by
  induction h with
  | @done pre =>
    intro cs i S acc o5 o6 hc hl hS ha
    refine ⟨o5, o6, ?_⟩
    rw [List.append_nil, set_same hS]
  | @nl pre rest pre' ts h ih =>
    intro cs i S acc o5 o6 hc hl hS ha
    have hg : cs[pre.length]? = some 10 := by rw [hc]; simp [mSeq, mSet, mRet, mBin, mCall, lCons, lNil, mVar, mC, mIfS, mCmp, mAndB, mOrB, mNotB, mTru, mIf, mAnd, mOr, mPass, mExpr, mBM, mAug, mAsg, gN, gT, gsC, gsN, mFn, mTup, mSl, oSome, mUn, mFor, mIt, mRng1, bLen, lenD, oLt, oLe, oGt, oGe, oAppend, oFind, hasTy, mDef, endOf, oIAdd, oSub, oIt]
    have hlt : (pre.length : Int) < (cs.length : Int) := by rw [hc]; simp [mSeq, mSet, mRet, mBin, mCall, lCons, lNil, mVar, mC, mIfS, mCmp, mAndB, mOrB, mNotB, mTru, mIf, mAnd, mOr, mPass, mExpr, mBM, mAug, mAsg, gN, gT, gsC, gsN, mFn, mTup, mSl, oSome, mUn, mFor, mIt, mRng1, bLen, lenD, oLt, oLe, oGt, oGe, oAppend, oFind, hasTy, mDef, endOf, oIAdd, oSub, oIt]; omega
    have hC : b_toksC [some (.str (tx cs)), some (.ref i), some (.int (pre.length : Int)), some (rowD pre), some (begD pre), o5, o6] S = .ok true S := by
      simp [mSeq, mSet, mRet, mBin, mCall, lCons, lNil, mVar, mC, mIfS, mCmp, mAndB, mOrB, mNotB, mTru, mIf, mAnd, mOr, mPass, mExpr, mBM, mAug, mAsg, gN, gT, gsC, gsN, mFn, mTup, mSl, oSome, mUn, mFor, mIt, mRng1, lenD, oLt, oLe, oGt, oGe, oAppend, oFind, hasTy, mDef, endOf, oIAdd, oSub, oIt, b_toksC, len_tx (Nat.le_of_lt hl), hlt]
    have he : oEq (.str (tx [10])) (.str "\n") S = .ok (.bl true) S := by rw [spS.1]; simp [mSeq, mSet, mRet, mBin, mCall, lCons, lNil, mVar, mC, mIfS, mCmp, mAndB, mOrB, mNotB, mTru, mIf, mAnd, mOr, mPass, mExpr, mBM, mAug, mAsg, gN, gT, gsC, gsN, mFn, mTup, mSl, oSome, mUn, mFor, mIt, mRng1, bLen, lenD, oLt, oLe, oGt, oGe, oAppend, oFind, hasTy, mDef, endOf, oIAdd, oSub, oIt, oEq, cEqD, cEqS]
    have hB : b_toksB r1 r2 [some (.str (tx cs)), some (.ref i), some (.int (pre.length : Int)), some (rowD pre), some (begD pre), o5, o6] S = .ok (.nx [some (.str (tx cs)), some (.ref i), some (.int ((pre ++ [10]).length : Int)), some (rowD (pre ++ [10])), some (begD (pre ++ [10])), some (.str (tx [10])), o6]) S := by
      simp [mSeq, mSet, mRet, mBin, mCall, lCons, lNil, mVar, mC, mIfS, mCmp, mAndB, mOrB, mNotB, mTru, mIf, mAnd, mOr, mPass, mExpr, mBM, mAug, mAsg, gN, gT, gsC, gsN, mFn, mTup, mSl, oSome, mUn, mFor, mIt, mRng1, bLen, lenD, oLt, oLe, oGt, oGe, oAppend, oFind, hasTy, mDef, endOf, oIAdd, oSub, oIt, b_toksB, ix_tx hg (Nat.le_of_lt hl), he, beg_nl, row_nl]
      simp [mSeq, mSet, mRet, mBin, mCall, lCons, lNil, mVar, mC, mIfS, mCmp, mAndB, mOrB, mNotB, mTru, mIf, mAnd, mOr, mPass, mExpr, mBM, mAug, mAsg, gN, gT, gsC, gsN, mFn, mTup, mSl, oSome, mUn, mFor, mIt, mRng1, bLen, lenD, oLt, oLe, oGt, oGe, oAppend, oFind, hasTy, mDef, endOf, oIAdd, oSub, oIt, rowD]
    obtain ⟨o5', o6', e⟩ := ih (cs := cs) (i := i) (S := S) (acc := acc) (some (.str (tx [10]))) o6 (by rw [hc]; simp [mSeq, mSet, mRet, mBin, mCall, lCons, lNil, mVar, mC, mIfS, mCmp, mAndB, mOrB, mNotB, mTru, mIf, mAnd, mOr, mPass, mExpr, mBM, mAug, mAsg, gN, gT, gsC, gsN, mFn, mTup, mSl, oSome, mUn, mFor, mIt, mRng1, bLen, lenD, oLt, oLe, oGt, oGe, oAppend, oFind, hasTy, mDef, endOf, oIAdd, oSub, oIt]) hl hS (by simp [mSeq, mSet, mRet, mBin, mCall, lCons, lNil, mVar, mC, mIfS, mCmp, mAndB, mOrB, mNotB, mTru, mIf, mAnd, mOr, mPass, mExpr, mBM, mAug, mAsg, gN, gT, gsC, gsN, mFn, mTup, mSl, oSome, mUn, mFor, mIt, mRng1, bLen, lenD, oLt, oLe, oGt, oGe, oAppend, oFind, hasTy, mDef, endOf, oIAdd, oSub, oIt]; omega)
    refine ⟨o5', o6', ?_⟩
    rw [mWhile_eq, hC]
    simp only [R.bind_ok, if_true, hB, e]
  | @sp pre rest pre' ts h ih =>
    intro cs i S acc o5 o6 hc hl hS ha
    have hg : cs[pre.length]? = some 32 := by rw [hc]; simp [mSeq, mSet, mRet, mBin, mCall, lCons, lNil, mVar, mC, mIfS, mCmp, mAndB, mOrB, mNotB, mTru, mIf, mAnd, mOr, mPass, mExpr, mBM, mAug, mAsg, gN, gT, gsC, gsN, mFn, mTup, mSl, oSome, mUn, mFor, mIt, mRng1, bLen, lenD, oLt, oLe, oGt, oGe, oAppend, oFind, hasTy, mDef, endOf, oIAdd, oSub, oIt]
    have hlt : (pre.length : Int) < (cs.length : Int) := by rw [hc]; simp [mSeq, mSet, mRet, mBin, mCall, lCons, lNil, mVar, mC, mIfS, mCmp, mAndB, mOrB, mNotB, mTru, mIf, mAnd, mOr, mPass, mExpr, mBM, mAug, mAsg, gN, gT, gsC, gsN, mFn, mTup, mSl, oSome, mUn, mFor, mIt, mRng1, bLen, lenD, oLt, oLe, oGt, oGe, oAppend, oFind, hasTy, mDef, endOf, oIAdd, oSub, oIt]; omega
    have hC : b_toksC [some (.str (tx cs)), some (.ref i), some (.int (pre.length : Int)), some (rowD pre), some (begD pre), o5, o6] S = .ok true S := by
      simp [mSeq, mSet, mRet, mBin, mCall, lCons, lNil, mVar, mC, mIfS, mCmp, mAndB, mOrB, mNotB, mTru, mIf, mAnd, mOr, mPass, mExpr, mBM, mAug, mAsg, gN, gT, gsC, gsN, mFn, mTup, mSl, oSome, mUn, mFor, mIt, mRng1, lenD, oLt, oLe, oGt, oGe, oAppend, oFind, hasTy, mDef, endOf, oIAdd, oSub, oIt, b_toksC, len_tx (Nat.le_of_lt hl), hlt]
    have he1 : oEq (.str (tx [32])) (.str "\n") S = .ok (.bl false) S := by rw [spS.1]; simp [mSeq, mSet, mRet, mBin, mCall, lCons, lNil, mVar, mC, mIfS, mCmp, mAndB, mOrB, mNotB, mTru, mIf, mAnd, mOr, mPass, mExpr, mBM, mAug, mAsg, gN, gT, gsC, gsN, mFn, mTup, mSl, oSome, mUn, mFor, mIt, mRng1, bLen, lenD, oLt, oLe, oGt, oGe, oAppend, oFind, hasTy, mDef, endOf, oIAdd, oSub, oIt, oEq, cEqD, cEqS]
    have he2 : oEq (.str (tx [32])) (.str " ") S = .ok (.bl true) S := by rw [spS.2.1]; simp [mSeq, mSet, mRet, mBin, mCall, lCons, lNil, mVar, mC, mIfS, mCmp, mAndB, mOrB, mNotB, mTru, mIf, mAnd, mOr, mPass, mExpr, mBM, mAug, mAsg, gN, gT, gsC, gsN, mFn, mTup, mSl, oSome, mUn, mFor, mIt, mRng1, bLen, lenD, oLt, oLe, oGt, oGe, oAppend, oFind, hasTy, mDef, endOf, oIAdd, oSub, oIt, oEq, cEqD, cEqS]
    have hB : b_toksB r1 r2 [some (.str (tx cs)), some (.ref i), some (.int (pre.length : Int)), some (rowD pre), some (begD pre), o5, o6] S = .ok (.nx [some (.str (tx cs)), some (.ref i), some (.int ((pre ++ [32]).length : Int)), some (rowD (pre ++ [32])), some (begD (pre ++ [32])), some (.str (tx [32])), o6]) S := by
      rw [row_no (by simp [mSeq, mSet, mRet, mBin, mCall, lCons, lNil, mVar, mC, mIfS, mCmp, mAndB, mOrB, mNotB, mTru, mIf, mAnd, mOr, mPass, mExpr, mBM, mAug, mAsg, gN, gT, gsC, gsN, mFn, mTup, mSl, oSome, mUn, mFor, mIt, mRng1, bLen, lenD, oLt, oLe, oGt, oGe, oAppend, oFind, hasTy, mDef, endOf, oIAdd, oSub, oIt]), beg_no (by simp [mSeq, mSet, mRet, mBin, mCall, lCons, lNil, mVar, mC, mIfS, mCmp, mAndB, mOrB, mNotB, mTru, mIf, mAnd, mOr, mPass, mExpr, mBM, mAug, mAsg, gN, gT, gsC, gsN, mFn, mTup, mSl, oSome, mUn, mFor, mIt, mRng1, bLen, lenD, oLt, oLe, oGt, oGe, oAppend, oFind, hasTy, mDef, endOf, oIAdd, oSub, oIt])]
      simp [mSeq, mSet, mRet, mBin, mCall, lCons, lNil, mVar, mC, mIfS, mCmp, mAndB, mOrB, mNotB, mTru, mIf, mAnd, mOr, mPass, mExpr, mBM, mAug, mAsg, gN, gT, gsC, gsN, mFn, mTup, mSl, oSome, mUn, mFor, mIt, mRng1, bLen, lenD, oLt, oLe, oGt, oGe, oAppend, oFind, hasTy, mDef, endOf, oIAdd, oSub, oIt, b_toksB, ix_tx hg (Nat.le_of_lt hl), he1, he2]
    obtain ⟨o5', o6', e⟩ := ih (cs := cs) (i := i) (S := S) (acc := acc) (some (.str (tx [32]))) o6 (by rw [hc]; simp [mSeq, mSet, mRet, mBin, mCall, lCons, lNil, mVar, mC, mIfS, mCmp, mAndB, mOrB, mNotB, mTru, mIf, mAnd, mOr, mPass, mExpr, mBM, mAug, mAsg, gN, gT, gsC, gsN, mFn, mTup, mSl, oSome, mUn, mFor, mIt, mRng1, bLen, lenD, oLt, oLe, oGt, oGe, oAppend, oFind, hasTy, mDef, endOf, oIAdd, oSub, oIt]) hl hS (by simp [mSeq, mSet, mRet, mBin, mCall, lCons, lNil, mVar, mC, mIfS, mCmp, mAndB, mOrB, mNotB, mTru, mIf, mAnd, mOr, mPass, mExpr, mBM, mAug, mAsg, gN, gT, gsC, gsN, mFn, mTup, mSl, oSome, mUn, mFor, mIt, mRng1, bLen, lenD, oLt, oLe, oGt, oGe, oAppend, oFind, hasTy, mDef, endOf, oIAdd, oSub, oIt]; omega)
    refine ⟨o5', o6', ?_⟩
    rw [mWhile_eq, hC]
    simp only [R.bind_ok, if_true, hB, e]
  | @com pre rest pre' ts body hb hr h ih =>
    intro cs i S acc o5 o6 hc hl hS ha
    have hg : cs[pre.length]? = some 35 := by rw [hc]; simp [mSeq, mSet, mRet, mBin, mCall, lCons, lNil, mVar, mC, mIfS, mCmp, mAndB, mOrB, mNotB, mTru, mIf, mAnd, mOr, mPass, mExpr, mBM, mAug, mAsg, gN, gT, gsC, gsN, mFn, mTup, mSl, oSome, mUn, mFor, mIt, mRng1, bLen, lenD, oLt, oLe, oGt, oGe, oAppend, oFind, hasTy, mDef, endOf, oIAdd, oSub, oIt]
    have hlt : (pre.length : Int) < (cs.length : Int) := by rw [hc]; simp [mSeq, mSet, mRet, mBin, mCall, lCons, lNil, mVar, mC, mIfS, mCmp, mAndB, mOrB, mNotB, mTru, mIf, mAnd, mOr, mPass, mExpr, mBM, mAug, mAsg, gN, gT, gsC, gsN, mFn, mTup, mSl, oSome, mUn, mFor, mIt, mRng1, bLen, lenD, oLt, oLe, oGt, oGe, oAppend, oFind, hasTy, mDef, endOf, oIAdd, oSub, oIt]; omega
    have hC : b_toksC [some (.str (tx cs)), some (.ref i), some (.int (pre.length : Int)), some (rowD pre), some (begD pre), o5, o6] S = .ok true S := by
      simp [mSeq, mSet, mRet, mBin, mCall, lCons, lNil, mVar, mC, mIfS, mCmp, mAndB, mOrB, mNotB, mTru, mIf, mAnd, mOr, mPass, mExpr, mBM, mAug, mAsg, gN, gT, gsC, gsN, mFn, mTup, mSl, oSome, mUn, mFor, mIt, mRng1, lenD, oLt, oLe, oGt, oGe, oAppend, oFind, hasTy, mDef, endOf, oIAdd, oSub, oIt, b_toksC, len_tx (Nat.le_of_lt hl), hlt]
    have he1 : oEq (.str (tx [35])) (.str "\n") S = .ok (.bl false) S := by rw [spS.1]; simp [mSeq, mSet, mRet, mBin, mCall, lCons, lNil, mVar, mC, mIfS, mCmp, mAndB, mOrB, mNotB, mTru, mIf, mAnd, mOr, mPass, mExpr, mBM, mAug, mAsg, gN, gT, gsC, gsN, mFn, mTup, mSl, oSome, mUn, mFor, mIt, mRng1, bLen, lenD, oLt, oLe, oGt, oGe, oAppend, oFind, hasTy, mDef, endOf, oIAdd, oSub, oIt, oEq, cEqD, cEqS]
    have he2 : oEq (.str (tx [35])) (.str " ") S = .ok (.bl false) S := by rw [spS.2.1]; simp [mSeq, mSet, mRet, mBin, mCall, lCons, lNil, mVar, mC, mIfS, mCmp, mAndB, mOrB, mNotB, mTru, mIf, mAnd, mOr, mPass, mExpr, mBM, mAug, mAsg, gN, gT, gsC, gsN, mFn, mTup, mSl, oSome, mUn, mFor, mIt, mRng1, bLen, lenD, oLt, oLe, oGt, oGe, oAppend, oFind, hasTy, mDef, endOf, oIAdd, oSub, oIt, oEq, cEqD, cEqS]
    have he3 : oEq (.str (tx [35])) (.str "#") S = .ok (.bl true) S := by rw [spS.2.2.1]; simp [mSeq, mSet, mRet, mBin, mCall, lCons, lNil, mVar, mC, mIfS, mCmp, mAndB, mOrB, mNotB, mTru, mIf, mAnd, mOr, mPass, mExpr, mBM, mAug, mAsg, gN, gT, gsC, gsN, mFn, mTup, mSl, oSome, mUn, mFor, mIt, mRng1, bLen, lenD, oLt, oLe, oGt, oGe, oAppend, oFind, hasTy, mDef, endOf, oIAdd, oSub, oIt, oEq, cEqD, cEqS]
    have hb' : 10 ∉ 35 :: body := by simp [mSeq, mSet, mRet, mBin, mCall, lCons, lNil, mVar, mC, mIfS, mCmp, mAndB, mOrB, mNotB, mTru, mIf, mAnd, mOr, mPass, mExpr, mBM, mAug, mAsg, gN, gT, gsC, gsN, mFn, mTup, mSl, oSome, mUn, mFor, mIt, mRng1, bLen, lenD, oLt, oLe, oGt, oGe, oAppend, oFind, hasTy, mDef, endOf, oIAdd, oSub, oIt, hb]
    have hm : mDef 2 1 b_comment [.str (tx cs), .int (pre.length : Int)] S = .ok (.int ((pre ++ 35 :: body).length : Int)) S := by
      have hc2 : cs = pre ++ (35 :: body) ++ rest := by rw [hc]; simp [mSeq, mSet, mRet, mBin, mCall, lCons, lNil, mVar, mC, mIfS, mCmp, mAndB, mOrB, mNotB, mTru, mIf, mAnd, mOr, mPass, mExpr, mBM, mAug, mAsg, gN, gT, gsC, gsN, mFn, mTup, mSl, oSome, mUn, mFor, mIt, mRng1, bLen, lenD, oLt, oLe, oGt, oGe, oAppend, oFind, hasTy, mDef, endOf, oIAdd, oSub, oIt]
      have := comment_ok (pre := pre) (body := 35 :: body) (rest := rest) (S := S) (by rw [← hc2]; exact Nat.le_of_lt hl) hb' hr
      rw [← hc2] at this
      rw [this]; simp [mSeq, mSet, mRet, mBin, mCall, lCons, lNil, mVar, mC, mIfS, mCmp, mAndB, mOrB, mNotB, mTru, mIf, mAnd, mOr, mPass, mExpr, mBM, mAug, mAsg, gN, gT, gsC, gsN, mFn, mTup, mSl, oSome, mUn, mFor, mIt, mRng1, bLen, lenD, oLt, oLe, oGt, oGe, oAppend, oFind, hasTy, mDef, endOf, oIAdd, oSub, oIt]
    have hB : b_toksB r1 r2 [some (.str (tx cs)), some (.ref i), some (.int (pre.length : Int)), some (rowD pre), some (begD pre), o5, o6] S = .ok (.nx [some (.str (tx cs)), some (.ref i), some (.int ((pre ++ 35 :: body).length : Int)), some (rowD (pre ++ 35 :: body)), some (begD (pre ++ 35 :: body)), some (.str (tx [35])), o6]) S := by
      rw [row_no hb', beg_no hb']
      simp only [b_toksB, mSeq, mSet, mBin, mVar, List.getElem?_cons_zero, List.getElem?_cons_succ, R.bind_ok, ix_tx hg (Nat.le_of_lt hl), List.set_cons_succ, List.set_cons_zero, mIfS, mCmp, mC, he1, he2, he3, Bool.false_eq_true, if_false, if_true, mFn, lCons, lNil, hm, R.at_ok]
    obtain ⟨o5', o6', e⟩ := ih (cs := cs) (i := i) (S := S) (acc := acc) (some (.str (tx [35]))) o6 (by rw [hc]; simp [mSeq, mSet, mRet, mBin, mCall, lCons, lNil, mVar, mC, mIfS, mCmp, mAndB, mOrB, mNotB, mTru, mIf, mAnd, mOr, mPass, mExpr, mBM, mAug, mAsg, gN, gT, gsC, gsN, mFn, mTup, mSl, oSome, mUn, mFor, mIt, mRng1, bLen, lenD, oLt, oLe, oGt, oGe, oAppend, oFind, hasTy, mDef, endOf, oIAdd, oSub, oIt]) hl hS (by simp [mSeq, mSet, mRet, mBin, mCall, lCons, lNil, mVar, mC, mIfS, mCmp, mAndB, mOrB, mNotB, mTru, mIf, mAnd, mOr, mPass, mExpr, mBM, mAug, mAsg, gN, gT, gsC, gsN, mFn, mTup, mSl, oSome, mUn, mFor, mIt, mRng1, bLen, lenD, oLt, oLe, oGt, oGe, oAppend, oFind, hasTy, mDef, endOf, oIAdd, oSub, oIt]; omega)
    refine ⟨o5', o6', ?_⟩
    rw [mWhile_eq, hC]
    simp only [R.bind_ok, if_true, hB, e]
  | @tok pre rest w pre' kind ts hs hb h ih =>
    intro cs i S acc o5 o6 hc hl hS ha
    have hno := tokS_no hs
    have h10 : 10 ∉ w := fun m => (hno 10 m).1 rfl
    have hlw : w.length ≤ sizeLine := by
      have : cs.length = pre.length + (w.length + rest.length) := by rw [hc]; simp [mSeq, mSet, mRet, mBin, mCall, lCons, lNil, mVar, mC, mIfS, mCmp, mAndB, mOrB, mNotB, mTru, mIf, mAnd, mOr, mPass, mExpr, mBM, mAug, mAsg, gN, gT, gsC, gsN, mFn, mTup, mSl, oSome, mUn, mFor, mIt, mRng1, bLen, lenD, oLt, oLe, oGt, oGe, oAppend, oFind, hasTy, mDef, endOf, oIAdd, oSub, oIt]
      omega
    have hwp : 0 < w.length := by
      cases w with
      | nil => cases hs
      | cons => simp [mSeq, mSet, mRet, mBin, mCall, lCons, lNil, mVar, mC, mIfS, mCmp, mAndB, mOrB, mNotB, mTru, mIf, mAnd, mOr, mPass, mExpr, mBM, mAug, mAsg, gN, gT, gsC, gsN, mFn, mTup, mSl, oSome, mUn, mFor, mIt, mRng1, bLen, lenD, oLt, oLe, oGt, oGe, oAppend, oFind, hasTy, mDef, endOf, oIAdd, oSub, oIt]
    have hlt : (pre.length : Int) < (cs.length : Int) := by rw [hc]; simp [mSeq, mSet, mRet, mBin, mCall, lCons, lNil, mVar, mC, mIfS, mCmp, mAndB, mOrB, mNotB, mTru, mIf, mAnd, mOr, mPass, mExpr, mBM, mAug, mAsg, gN, gT, gsC, gsN, mFn, mTup, mSl, oSome, mUn, mFor, mIt, mRng1, bLen, lenD, oLt, oLe, oGt, oGe, oAppend, oFind, hasTy, mDef, endOf, oIAdd, oSub, oIt]; omega
    have hC : b_toksC [some (.str (tx cs)), some (.ref i), some (.int (pre.length : Int)), some (rowD pre), some (begD pre), o5, o6] S = .ok true S := by
      simp [mSeq, mSet, mRet, mBin, mCall, lCons, lNil, mVar, mC, mIfS, mCmp, mAndB, mOrB, mNotB, mTru, mIf, mAnd, mOr, mPass, mExpr, mBM, mAug, mAsg, gN, gT, gsC, gsN, mFn, mTup, mSl, oSome, mUn, mFor, mIt, mRng1, lenD, oLt, oLe, oGt, oGe, oAppend, oFind, hasTy, mDef, endOf, oIAdd, oSub, oIt, b_toksC, len_tx (Nat.le_of_lt hl), hlt]
    have hm : ∀ (r c : D), mDef 4 4 (b_token r1 r2) [.str (tx cs), .int (pre.length : Int), r, c] S = .ok (.tup [.str kind, .str (tx w), r, c]) S := by
      intro r c
      have hc2 : cs = pre ++ w ++ rest := by rw [hc]; simp [mSeq, mSet, mRet, mBin, mCall, lCons, lNil, mVar, mC, mIfS, mCmp, mAndB, mOrB, mNotB, mTru, mIf, mAnd, mOr, mPass, mExpr, mBM, mAug, mAsg, gN, gT, gsC, gsN, mFn, mTup, mSl, oSome, mUn, mFor, mIt, mRng1, bLen, lenD, oLt, oLe, oGt, oGe, oAppend, oFind, hasTy, mDef, endOf, oIAdd, oSub, oIt]
      rw [hc2]
      exact token_ok (by rw [← hc2]; exact Nat.le_of_lt hl) hs hb
    obtain ⟨x, v, hxv⟩ : ∃ x v, w = x :: v := by
      cases w with
      | nil => simp at hwp
      | cons x v => exact ⟨x, v, rfl⟩
    have hg : cs[pre.length]? = some x := by rw [hc, hxv]; simp [mSeq, mSet, mRet, mBin, mCall, lCons, lNil, mVar, mC, mIfS, mCmp, mAndB, mOrB, mNotB, mTru, mIf, mAnd, mOr, mPass, mExpr, mBM, mAug, mAsg, gN, gT, gsC, gsN, mFn, mTup, mSl, oSome, mUn, mFor, mIt, mRng1, bLen, lenD, oLt, oLe, oGt, oGe, oAppend, oFind, hasTy, mDef, endOf, oIAdd, oSub, oIt]
    have hx := hno x (by rw [hxv]; simp [mSeq, mSet, mRet, mBin, mCall, lCons, lNil, mVar, mC, mIfS, mCmp, mAndB, mOrB, mNotB, mTru, mIf, mAnd, mOr, mPass, mExpr, mBM, mAug, mAsg, gN, gT, gsC, gsN, mFn, mTup, mSl, oSome, mUn, mFor, mIt, mRng1, bLen, lenD, oLt, oLe, oGt, oGe, oAppend, oFind, hasTy, mDef, endOf, oIAdd, oSub, oIt])
    have he1 : oEq (.str (tx [x])) (.str "\n") S = .ok (.bl false) S := by rw [spS.1]; simp [mSeq, mSet, mRet, mBin, mCall, lCons, lNil, mVar, mC, mIfS, mCmp, mAndB, mOrB, mNotB, mTru, mIf, mAnd, mOr, mPass, mExpr, mBM, mAug, mAsg, gN, gT, gsC, gsN, mFn, mTup, mSl, oSome, mUn, mFor, mIt, mRng1, bLen, lenD, oLt, oLe, oGt, oGe, oAppend, oFind, hasTy, mDef, endOf, oIAdd, oSub, oIt, oEq, cEqD, cEqS, hx.1]
    have he2 : oEq (.str (tx [x])) (.str " ") S = .ok (.bl false) S := by rw [spS.2.1]; simp [mSeq, mSet, mRet, mBin, mCall, lCons, lNil, mVar, mC, mIfS, mCmp, mAndB, mOrB, mNotB, mTru, mIf, mAnd, mOr, mPass, mExpr, mBM, mAug, mAsg, gN, gT, gsC, gsN, mFn, mTup, mSl, oSome, mUn, mFor, mIt, mRng1, bLen, lenD, oLt, oLe, oGt, oGe, oAppend, oFind, hasTy, mDef, endOf, oIAdd, oSub, oIt, oEq, cEqD, cEqS, hx.2.1]
    have he3 : oEq (.str (tx [x])) (.str "#") S = .ok (.bl false) S := by rw [spS.2.2.1]; simp [mSeq, mSet, mRet, mBin, mCall, lCons, lNil, mVar, mC, mIfS, mCmp, mAndB, mOrB, mNotB, mTru, mIf, mAnd, mOr, mPass, mExpr, mBM, mAug, mAsg, gN, gT, gsC, gsN, mFn, mTup, mSl, oSome, mUn, mFor, mIt, mRng1, bLen, lenD, oLt, oLe, oGt, oGe, oAppend, oFind, hasTy, mDef, endOf, oIAdd, oSub, oIt, oEq, cEqD, cEqS, hx.2.2]
    have hsz : acc.length < sizeLine := by
      have : cs.length = pre.length + (w.length + rest.length) := by rw [hc]; simp [mSeq, mSet, mRet, mBin, mCall, lCons, lNil, mVar, mC, mIfS, mCmp, mAndB, mOrB, mNotB, mTru, mIf, mAnd, mOr, mPass, mExpr, mBM, mAug, mAsg, gN, gT, gsC, gsN, mFn, mTup, mSl, oSome, mUn, mFor, mIt, mRng1, bLen, lenD, oLt, oLe, oGt, oGe, oAppend, oFind, hasTy, mDef, endOf, oIAdd, oSub, oIt]
      omega
    have hlen : ∀ S, bLen [.str (tx w)] S = .ok (.int (w.length : Int)) S := fun S => len_tx hlw
    have hat : ∀ (a b c d : D) S, oIx (.tup [a, b, c, d]) (.int 1) S = .ok b S := fun a b c d S => rfl
    have hB : b_toksB r1 r2 [some (.str (tx cs)), some (.ref i), some (.int (pre.length : Int)), some (rowD pre), some (begD pre), o5, o6] S = .ok (.nx [some (.str (tx cs)), some (.ref i), some (.int ((pre ++ w).length : Int)), some (rowD (pre ++ w)), some (begD (pre ++ w)), some (.str (tx [x])), some (tokD kind w pre)]) (S.set i (.lst (acc ++ [tokD kind w pre]))) := by
      rw [row_no h10, beg_no h10]
      have hcol : (begD pre) = .int (behC 10 pre 0 0 : Int) := rfl
      rw [hcol]
      simp only [b_toksB, mSeq, mSet, mBin, mVar, List.getElem?_cons_zero, List.getElem?_cons_succ, R.bind_ok, ix_tx hg (Nat.le_of_lt hl), List.set_cons_succ, List.set_cons_zero, mIfS, mCmp, mC, he1, he2, he3, Bool.false_eq_true, if_false, mFn, lCons, lNil, oSub, oAdd, hm, R.at_ok, mExpr, mBM, hasTy, hS, decide_true, if_true, oAppend, hsz, mAug, mCall, hat, hlen, oIAdd]
      simp [mSeq, mSet, mRet, mBin, mCall, lCons, lNil, mVar, mC, mIfS, mCmp, mAndB, mOrB, mNotB, mTru, mIf, mAnd, mOr, mPass, mExpr, mBM, mAug, mAsg, gN, gT, gsC, gsN, mFn, mTup, mSl, oSome, mUn, mFor, mIt, mRng1, bLen, lenD, oLt, oLe, oGt, oGe, oAppend, oFind, hasTy, mDef, endOf, oIAdd, oSub, oIt, tokD, colD]
    obtain ⟨o5', o6', e⟩ := ih (cs := cs) (i := i) (S := S.set i (.lst (acc ++ [tokD kind w pre]))) (acc := acc ++ [tokD kind w pre]) (some (.str (tx [x]))) (some (tokD kind w pre)) (by rw [hc]; simp [mSeq, mSet, mRet, mBin, mCall, lCons, lNil, mVar, mC, mIfS, mCmp, mAndB, mOrB, mNotB, mTru, mIf, mAnd, mOr, mPass, mExpr, mBM, mAug, mAsg, gN, gT, gsC, gsN, mFn, mTup, mSl, oSome, mUn, mFor, mIt, mRng1, bLen, lenD, oLt, oLe, oGt, oGe, oAppend, oFind, hasTy, mDef, endOf, oIAdd, oSub, oIt]) hl (get_put hS) (by simp [mSeq, mSet, mRet, mBin, mCall, lCons, lNil, mVar, mC, mIfS, mCmp, mAndB, mOrB, mNotB, mTru, mIf, mAnd, mOr, mPass, mExpr, mBM, mAug, mAsg, gN, gT, gsC, gsN, mFn, mTup, mSl, oSome, mUn, mFor, mIt, mRng1, bLen, lenD, oLt, oLe, oGt, oGe, oAppend, oFind, hasTy, mDef, endOf, oIAdd, oSub, oIt]; omega)
    refine ⟨o5', o6', ?_⟩
    rw [mWhile_eq, hC]
    simp only [R.bind_ok, if_true, hB, e, List.set_set, List.append_assoc, List.singleton_append]
def Qb (text : List Nat) (due : List D) : Prop := ∀ rest, Lq rest [] (text ++ rest) due text
theorem Qb.nil : Qb [] [] := fun rest => .done
theorem Qb.step {text w s : List Nat} {due : List D} {kind : Str} (h : Qb text due) (hw : tokS kind w = true) (hs : skB false s = true) (hb : ∀ rest, bnd w (s ++ rest).head? = true) : Qb (text ++ w ++ s) (due ++ [tokD kind w text]) := fun rest => by
  have h1 := h (w ++ (s ++ rest))
  have h2 : Lq rest text (w ++ (s ++ rest)) ([tokD kind w text] ++ []) (text ++ w ++ s) := Lq.tok hw (hb rest) ((skipq s).1 hs (text ++ w) rest)
  have h3 := h1.trans h2
  simpa using h3
theorem Qb.lx {text : List Nat} {due : List D} (h : Qb text due) : Lx [] text due := by
  have := (h []).lx
  simpa using this
theorem toks_bad {r1 r2 : MS} {text w rest : List Nat} {due : List D} {e : V} {fs : Option (List (Str × D))} (h : Qb text due) (hl : (text ++ w ++ rest).length < sizeLine) (hdl : due.length ≤ text.length) (x : Nat) (v : List Nat) (hxv : w = x :: v) (hx : x ≠ 10 ∧ x ≠ 32 ∧ x ≠ 35)
    (ht : ∀ S, mDef 4 4 (b_token r1 r2) [.str (tx (text ++ w ++ rest)), .int (text.length : Int), rowD text, colD text] S = .exc e fs [] S) (S : Hs) : mDef 1 6 (b_toks r1 r2) [.str (tx (text ++ w ++ rest))] S = .exc e fs [] (S ++ [.lst due]) := by
  obtain ⟨o5', o6', e1⟩ := q_loop (r1 := r1) (r2 := r2) (h (w ++ rest)) (cs := text ++ w ++ rest) (i := S.length) (S := S ++ [.lst []]) (acc := []) none none (by simp) hl get_end (Nat.zero_le _)
  rw [set_end, List.nil_append] at e1
  generalize hcs : text ++ w ++ rest = cs at *
  have e0 : mWhile b_toksC (b_toksB r1 r2) [some (.str (tx cs)), some (.ref S.length), some (.int 0), some (.int 1), some (.int 0), none, none] (S ++ [.lst []]) = mWhile b_toksC (b_toksB r1 r2) [some (.str (tx cs)), some (.ref S.length), some (.int (text.length : Int)), some (rowD text), some (begD text), o5', o6'] (S ++ [.lst due]) := e1
  have hlt : (text.length : Int) < (cs.length : Int) := by rw [← hcs, hxv]; simp; omega
  have hg : cs[text.length]? = some x := by rw [← hcs, hxv]; simp
  generalize hT : S ++ [.lst due] = T at e0
  have hC : b_toksC [some (.str (tx cs)), some (.ref S.length), some (.int (text.length : Int)), some (rowD text), some (begD text), o5', o6'] T = .ok true T := by
    simp [mSeq, mSet, mRet, mBin, mCall, lCons, lNil, mVar, mC, mIfS, mCmp, mAndB, mOrB, mNotB, mTru, mIf, mAnd, mOr, mPass, mExpr, mBM, mAug, mAsg, gN, gT, gsC, gsN, mFn, mTup, mSl, oSome, mUn, mFor, mIt, mRng1, lenD, oLt, oLe, oGt, oGe, oAppend, oFind, hasTy, mDef, endOf, oIAdd, oSub, oIt, b_toksC, len_tx (Nat.le_of_lt hl), hlt]
  have he1 : oEq (.str (tx [x])) (.str "\n") T = .ok (.bl false) T := by rw [spS.1]; simp [mSeq, mSet, mRet, mBin, mCall, lCons, lNil, mVar, mC, mIfS, mCmp, mAndB, mOrB, mNotB, mTru, mIf, mAnd, mOr, mPass, mExpr, mBM, mAug, mAsg, gN, gT, gsC, gsN, mFn, mTup, mSl, oSome, mUn, mFor, mIt, mRng1, bLen, lenD, oLt, oLe, oGt, oGe, oAppend, oFind, hasTy, mDef, endOf, oIAdd, oSub, oIt, oEq, cEqD, cEqS, hx.1]
  have he2 : oEq (.str (tx [x])) (.str " ") T = .ok (.bl false) T := by rw [spS.2.1]; simp [mSeq, mSet, mRet, mBin, mCall, lCons, lNil, mVar, mC, mIfS, mCmp, mAndB, mOrB, mNotB, mTru, mIf, mAnd, mOr, mPass, mExpr, mBM, mAug, mAsg, gN, gT, gsC, gsN, mFn, mTup, mSl, oSome, mUn, mFor, mIt, mRng1, bLen, lenD, oLt, oLe, oGt, oGe, oAppend, oFind, hasTy, mDef, endOf, oIAdd, oSub, oIt, oEq, cEqD, cEqS, hx.2.1]
  have he3 : oEq (.str (tx [x])) (.str "#") T = .ok (.bl false) T := by rw [spS.2.2.1]; simp [mSeq, mSet, mRet, mBin, mCall, lCons, lNil, mVar, mC, mIfS, mCmp, mAndB, mOrB, mNotB, mTru, mIf, mAnd, mOr, mPass, mExpr, mBM, mAug, mAsg, gN, gT, gsC, gsN, mFn, mTup, mSl, oSome, mUn, mFor, mIt, mRng1, bLen, lenD, oLt, oLe, oGt, oGe, oAppend, oFind, hasTy, mDef, endOf, oIAdd, oSub, oIt, oEq, cEqD, cEqS, hx.2.2]
  have hcol : (begD text) = .int (behC 10 text 0 0 : Int) := rfl
  have hcl : (D.int ((text.length : Int) - (behC 10 text 0 0 : Int) + 1)) = colD text := rfl
  have hB : b_toksB r1 r2 [some (.str (tx cs)), some (.ref S.length), some (.int (text.length : Int)), some (rowD text), some (begD text), o5', o6'] T = .exc e fs [some (.str (tx cs)), some (.ref S.length), some (.int (text.length : Int)), some (rowD text), some (begD text), some (.str (tx [x])), o6'] T := by
    rw [hcol]
    simp only [b_toksB, mSeq, mSet, mBin, mVar, List.getElem?_cons_zero, List.getElem?_cons_succ, R.bind_ok, ix_tx hg (Nat.le_of_lt hl), List.set_cons_succ, List.set_cons_zero, mIfS, mCmp, mC, he1, he2, he3, Bool.false_eq_true, if_false, mFn, lCons, lNil, oSub, oAdd, hcl, ht, R.at_exc, R.bind_exc]
  have e2 : mWhile b_toksC (b_toksB r1 r2) [some (.str (tx cs)), some (.ref S.length), some (.int (text.length : Int)), some (rowD text), some (begD text), o5', o6'] T = .exc e fs [some (.str (tx cs)), some (.ref S.length), some (.int (text.length : Int)), some (rowD text), some (begD text), some (.str (tx [x])), o6'] T := by
    rw [mWhile_eq, hC]
    simp only [R.bind_ok, if_true, hB]
    rfl
  rw [e2] at e0
  have hd : mDef 1 6 (b_toks r1 r2) [.str (tx cs)] S = endOf (b_toks r1 r2 [some (.str (tx cs)), none, none, none, none, none, none] S) := rfl
  rw [hd]
  simp only [b_toks, mSeq, mSet, mLst_nil, R.bind_ok, List.set_cons_succ, List.set_cons_zero, mC, e0, R.bind_exc, endOf]
end Ly
set_option Elab.async false
set_option linter.all false
set_option maxRecDepth 100000
namespace GK01
open PySem PySem.Spec L2 Ly
open PyProof.Rows hiding St
def ps_TextError : List Jp := [.inl "row ", .inr 0, .inl ", column ", .inr 1]
def tab_BadCharacter (cA : Nat → Addr) : Tb := [(cA 2, true), (cA 3, false)]
def tab_BadNumber (cA : Nat → Addr) : Tb := [(cA 2, false), (cA 3, true)]
def tab_TextError (cA : Nat → Addr) : Tb := [(cA 2, true), (cA 3, true)]
def tab_ClockError (cA : Nat → Addr) : Tb := [(cA 2, true), (cA 3, true)]
def tab_Unexpected (cA : Nat → Addr) : Tb := [(cA 2, false), (cA 3, false)]
def tab_BadNumber__Unexpected (cA : Nat → Addr) : Tb := [(cA 2, false), (cA 3, true)]
def d_WORD_SIGNS : D := (.str "_0123456789abcdefghijklmnopqrstuvwxyzABCDEFGHIJKLMNOPQRSTUVWXYZ")
def d_MOST_DIGITS : D := (.int 10)
def d_DIGITS : D := (.str "0123456789")
def d_GREATEST_WORD : D := (.int 4294967295)
def d_LETTERS : D := (.str "abcdefghijklmnopqrstuvwxyzABCDEFGHIJKLMNOPQRSTUVWXYZ")
def d_KEYWORDS : D := (.wt [(.str "public"), (.str "secret"), (.str "array"), (.str "fn"), (.str "main"), (.str "return"), (.str "if"), (.str "else"), (.str "for"), (.str "to"), (.str "max"), (.str "out"), (.str "div"), (.str "mod")])
def d_LONG_SIGNS : D := (.wt [(.str "<="), (.str "<<"), (.str ">>"), (.str "==")])
def d_SHORT_SIGNS : D := (.wt [(.str "{"), (.str "}"), (.str "("), (.str ")"), (.str "["), (.str "]"), (.str ","), (.str ";"), (.str "="), (.str "+"), (.str "-"), (.str "*"), (.str "&"), (.str "|"), (.str "^"), (.str "!"), (.str "?"), (.str ":"), (.str "<")])
noncomputable def b__law_mix : MS := (mSeq (mSet 2 (mBin oMod (mCall bInt (lCons (mBin oAdd (mBin oAdd (mBin oMul (mVar 0) (mC (.int 48271))) (mBin oMul (mVar 1) (mC (.int 69621)))) (mC (.int 11))) lNil)) (mC (.int 2147483647))))
    (mRet (mBin oMod (mBin oMod (mCall bInt (lCons (mBin oAdd (mBin oAdd (mBin oAdd (mBin oMul (mVar 2) (mVar 2)) (mBin oMul (mVar 0) (mC (.int 40692)))) (mBin oMul (mVar 1) (mC (.int 7)))) (mC (.int 3))) lNil)) (mC (.int 1000003))) (mC (.int 1000)))))
noncomputable def m__law_mix : MD := mDef 2 1 b__law_mix
theorem len__law_mix (ds : List D) (S : Hs) (h : ds.length ≠ 2) : S_mix ds S = .bad := len_mix ds S h
noncomputable def lb__law_stream_0 : MS := (mIfS (mAndB (mCmp oGt (mVar 4) (mC (.int 0))) (mCmp oLt (mCall bLen (lCons (mVar 2) lNil)) (mVar 1))) (mSeq (mExpr (mBM "list" oAppend (mVar 2) (lCons (mBin oMod (mCall bInt (lCons (mVar 4) lNil)) (mC (.int 1000))) lNil)))
    (mSet 4 (mBin oFdiv (mVar 4) (mC (.int 1000))))) mPass)
noncomputable def lb__law_stream_1 : MS := (mIfS (mCmp oLt (mCall bLen (lCons (mVar 2) lNil)) (mVar 1)) (mExpr (mBM "list" oAppend (mVar 2) (lCons (mFn S_mix (lCons (mVar 4) (lCons (mBin oAdd (mBin oMul (mC (.int 64)) (mVar 5)) (mVar 3)) lNil))) lNil))) mPass)
noncomputable def lb__law_stream_2 : MS := (mSeq (mSet 4 (mBin oIx (mVar 0) (mVar 3)))
    (mIfS (mCmp oGe (mVar 4) (mBin oPow (mC (.int 10)) (mC (.int 18)))) (mFor (mRng1 (lCons (mC (.int 60)) lNil)) (gN 5) lb__law_stream_0) (mFor (mRng1 (lCons (mC (.int 3)) lNil)) (gN 5) lb__law_stream_1)))
noncomputable def b__law_stream : MS := (mSeq (mSet 2 (mLst lNil))
    (mSeq (mFor (mRng1 (lCons (mCall bMin (lCons (mCall bLen (lCons (mVar 0) lNil)) (lCons (mC (.int 63)) lNil))) lNil)) (gN 3) lb__law_stream_2)
    (mRet (mDisp (dpCons (mC (.str "row")) (mVar 2) (dpCons (mC (.str "at")) (mC (.int 0)) (dpCons (mC (.str "seed")) (mCall bLen (lCons (mVar 2) lNil)) dpNil)))))))
noncomputable def m__law_stream : MD := mDef 2 4 b__law_stream
theorem len__law_stream (ds : List D) (S : Hs) (h : ds.length ≠ 2) : m__law_stream ds S = .bad := mDef_len ds S h
noncomputable def b__law_pick : MS := (mSeq (mSet 2 (mBin oIx (mVar 0) (mC (.str "at"))))
    (mSeq (mAsg (mBin oAdd (mVar 2) (mC (.int 1))) (gSb (mVar 0) (mC (.str "at"))))
    (mSeq (mSet 3 (mFn S_mix (lCons (mBin oIx (mVar 0) (mC (.str "seed"))) (lCons (mVar 2) lNil))))
    (mSeq (mIfS (mCmp oLt (mVar 2) (mCall bLen (lCons (mBin oIx (mVar 0) (mC (.str "row"))) lNil))) (mSet 3 (mBin oIx (mBin oIx (mVar 0) (mC (.str "row"))) (mVar 2))) mPass)
    (mRet (mBin oMod (mCall bInt (lCons (mVar 3) lNil)) (mVar 1)))))))
noncomputable def m__law_pick : MD := mDef 2 2 b__law_pick
theorem len__law_pick (ds : List D) (S : Hs) (h : ds.length ≠ 2) : S_pick ds S = .bad := len_pick ds S h
noncomputable def b__comment_end : MS := (mSeq (mSet 2 (mBM "str" oFind (mVar 0) (lCons (mC (.str "\n")) (lCons (mVar 1) lNil))))
    (mRet (mIf (mCmp oLt (mVar 2) (mC (.int 0))) (mCall bLen (lCons (mVar 0) lNil)) (mVar 2))))
noncomputable def m__comment_end : MD := mDef 2 1 b__comment_end
theorem len__comment_end (ds : List D) (S : Hs) (h : ds.length ≠ 2) : m__comment_end ds S = .bad := mDef_len ds S h
noncomputable def c__word_0 : MB := (mAndB (mCmp oLt (mVar 2) (mCall bLen (lCons (mVar 0) lNil))) (mCmp oIn (mBin oIx (mVar 0) (mVar 2)) (mC d_WORD_SIGNS)))
noncomputable def lb__word_1 : MS := (mAug 2 oIAdd (mC (.int 1)))
noncomputable def b__word : MS := (mSeq (mSet 2 (mVar 1))
    (mSeq (mWhile c__word_0 lb__word_1)
    (mRet (mSl (mVar 0) (oSome (mVar 1)) (oSome (mVar 2))))))
noncomputable def m__word : MD := mDef 2 1 b__word
theorem len__word (ds : List D) (S : Hs) (h : ds.length ≠ 2) : m__word ds S = .bad := mDef_len ds S h
noncomputable def lb__is_number_0 : MS := (mIfS (mCmp oNotIn (mVar 1) (mC d_DIGITS)) (mRet (mC (.bl false))) mPass)
noncomputable def b__is_number : MS := (mSeq (mIfS (mOrB (mCmp oGt (mCall bLen (lCons (mVar 0) lNil)) (mC d_MOST_DIGITS)) (mAndB (mCmp oGt (mCall bLen (lCons (mVar 0) lNil)) (mC (.int 1))) (mCmp oEq (mBin oIx (mVar 0) (mC (.int 0))) (mC (.str "0"))))) (mRet (mC (.bl false))) mPass)
    (mSeq (mFor (mIt (mVar 0)) (gN 1) lb__is_number_0)
    (mRet (mBin oLe (mCall bInt (lCons (mVar 0) lNil)) (mC d_GREATEST_WORD)))))
noncomputable def m__is_number : MD := mDef 1 1 b__is_number
theorem len__is_number (ds : List D) (S : Hs) (h : ds.length ≠ 1) : m__is_number ds S = .bad := mDef_len ds S h
noncomputable def b__token (cA : Nat → Addr) : MS := (mSeq (mSet 4 (mBin oIx (mVar 0) (mVar 1)))
    (mSeq (mIfS (mCmp oIn (mVar 4) (mC d_LETTERS)) (mSeq (mSet 5 (mFn m__word (lCons (mVar 0) (lCons (mVar 1) lNil))))
    (mSeq (mSet 6 (mIf (mCmp oIn (mVar 5) (mC d_KEYWORDS)) (mC (.str "keyword")) (mC (.str "name"))))
    (mRet (mTup (lCons (mVar 6) (lCons (mVar 5) (lCons (mVar 2) (lCons (mVar 3) lNil)))))))) mPass)
    (mSeq (mIfS (mCmp oIn (mVar 4) (mC d_DIGITS)) (mSeq (mSet 5 (mFn m__word (lCons (mVar 0) (lCons (mVar 1) lNil))))
    (mSeq (mIfS (mNotB (mTru (mFn m__is_number (lCons (mVar 5) lNil)))) (mRaiseI (cA 3) ["row", "column"] ps_TextError (lCons (mVar 2) (lCons (mVar 3) lNil))) mPass)
    (mRet (mTup (lCons (mC (.str "number")) (lCons (mVar 5) (lCons (mVar 2) (lCons (mVar 3) lNil)))))))) mPass)
    (mSeq (mSet 7 (mSl (mVar 0) (oSome (mVar 1)) (oSome (mBin oAdd (mVar 1) (mC (.int 2))))))
    (mSeq (mIfS (mCmp oIn (mVar 7) (mC d_LONG_SIGNS)) (mRet (mTup (lCons (mC (.str "sign")) (lCons (mVar 7) (lCons (mVar 2) (lCons (mVar 3) lNil)))))) mPass)
    (mSeq (mIfS (mCmp oIn (mVar 4) (mC d_SHORT_SIGNS)) (mRet (mTup (lCons (mC (.str "sign")) (lCons (mVar 4) (lCons (mVar 2) (lCons (mVar 3) lNil)))))) mPass)
    (mRaiseI (cA 2) ["row", "column"] ps_TextError (lCons (mVar 2) (lCons (mVar 3) lNil)))))))))
noncomputable def m__token (cA : Nat → Addr) : MD := mDef 4 4 (b__token cA)
theorem len__token {cA : Nat → Addr} (ds : List D) (S : Hs) (h : ds.length ≠ 4) : (m__token cA) ds S = .bad := mDef_len ds S h
noncomputable def c_tokens_0 (cA : Nat → Addr) : MB := (mCmp oLt (mVar 2) (mCall bLen (lCons (mVar 0) lNil)))
noncomputable def lb_tokens_1 (cA : Nat → Addr) : MS := (mSeq (mSet 5 (mBin oIx (mVar 0) (mVar 2)))
    (mIfS (mCmp oEq (mVar 5) (mC (.str "\n"))) (mSeq (mAug 2 oIAdd (mC (.int 1)))
    (mSeq (mAug 3 oIAdd (mC (.int 1)))
    (mSet 4 (mVar 2)))) (mIfS (mCmp oEq (mVar 5) (mC (.str " "))) (mAug 2 oIAdd (mC (.int 1))) (mIfS (mCmp oEq (mVar 5) (mC (.str "#"))) (mSet 2 (mFn m__comment_end (lCons (mVar 0) (lCons (mVar 2) lNil)))) (mSeq (mSet 6 (mFn (m__token cA) (lCons (mVar 0) (lCons (mVar 2) (lCons (mVar 3) (lCons (mBin oAdd (mBin oSub (mVar 2) (mVar 4)) (mC (.int 1))) lNil))))))
    (mSeq (mExpr (mBM "list" oAppend (mVar 1) (lCons (mVar 6) lNil)))
    (mAug 2 oIAdd (mCall bLen (lCons (mBin oIx (mVar 6) (mC (.int 1))) lNil)))))))))
noncomputable def b_tokens (cA : Nat → Addr) : MS := (mSeq (mSet 1 (mLst lNil))
    (mSeq (mSet 2 (mC (.int 0)))
    (mSeq (mSet 3 (mC (.int 1)))
    (mSeq (mSet 4 (mC (.int 0)))
    (mSeq (mWhile (c_tokens_0 cA) (lb_tokens_1 cA))
    (mSeq (mExpr (mBM "list" oAppend (mVar 1) (lCons (mTup (lCons (mC (.str "end")) (lCons (mC (.str "")) (lCons (mVar 3) (lCons (mBin oAdd (mBin oSub (mVar 2) (mVar 4)) (mC (.int 1))) lNil))))) lNil)))
    (mRet (mVar 1))))))))
noncomputable def m_tokens (cA : Nat → Addr) : MD := mDef 1 6 (b_tokens cA)
theorem len_tokens {cA : Nat → Addr} (ds : List D) (S : Hs) (h : ds.length ≠ 1) : (m_tokens cA) ds S = .bad := mDef_len ds S h
noncomputable def b__law_told (cA : Nat → Addr) : MS := (mTry (mRet (mTup (lCons (mC (.str "tokens")) (lCons (mCall bLen (lCons (mFn (m_tokens cA) (lCons (mVar 0) lNil)) lNil)) lNil)))) [⟨tab_BadCharacter cA, some 1, (uTup (uCons (fun _ _ _ => some (.str "character")) (uCons (uFld "row") (uCons (uFld "column") (uCons (uIs (tab_BadNumber__Unexpected cA)) (uCons (uIs (tab_TextError cA)) (fun _ _ _ => some [])))))))⟩, ⟨tab_BadNumber cA, some 1, (uTup (uCons (fun _ _ _ => some (.str "number")) (uCons (uFld "row") (uCons (uFld "column") (uCons (uIs (tab_Unexpected cA)) (uCons (uAnd (uIs (tab_TextError cA)) (uIs (tab_ClockError cA))) (fun _ _ _ => some [])))))))⟩])
noncomputable def m__law_told (cA : Nat → Addr) : MD := mDef 1 1 (b__law_told cA)
theorem len__law_told {cA : Nat → Addr} (ds : List D) (S : Hs) (h : ds.length ≠ 1) : (m__law_told cA) ds S = .bad := mDef_len ds S h
noncomputable def b__law_bad : MS := (mSeq (mIfS (mCmp oEq (mFn S_pick (lCons (mVar 0) (lCons (mC (.int 2)) lNil))) (mC (.int 0))) (mSeq (mSet 1 (mLst (lCons (mC (.str "_")) (lCons (mC (.str "'")) (lCons (mC (.str "$")) (lCons (mC (.str "~")) (lCons (mC (.str "@")) (lCons (mC (.str ">")) (lCons (mC (.str ">=")) (lCons (mC (.str ".")) (lCons (mC (.str "_a")) (lCons (mC (.str "`")) (lCons (mC (.str "`a")) (lCons (mC (.str "/")) (lCons (mC (.str "/x")) (lCons (mC (.str "'a'")) (lCons (mC (.str "@=")) (lCons (mC (.str "$1")) lNil))))))))))))))))))
    (mRet (mTup (lCons (mC (.str "character")) (lCons (mBin oIx (mVar 1) (mFn S_pick (lCons (mVar 0) (lCons (mC (.int 16)) lNil)))) lNil))))) mPass)
    (mSeq (mSet 2 (mLst (lCons (mC (.str "01")) (lCons (mC (.str "00")) (lCons (mC (.str "1a")) (lCons (mC (.str "2_")) (lCons (mC (.str "3_4")) (lCons (mC (.str "4294967296")) (lCons (mC (.str "99999999999999999999")) (lCons (mC (.str "0x")) (lCons (mC (.str "7A")) (lCons (mC (.str "10div")) lNil))))))))))))
    (mRet (mTup (lCons (mC (.str "number")) (lCons (mBin oIx (mVar 2) (mFn S_pick (lCons (mVar 0) (lCons (mC (.int 10)) lNil)))) lNil))))))
noncomputable def m__law_bad : MD := mDef 1 2 b__law_bad
theorem len__law_bad (ds : List D) (S : Hs) (h : ds.length ≠ 1) : m__law_bad ds S = .bad := mDef_len ds S h
noncomputable def b__law_between : MS := (mRet (mBin oIx (mLst (lCons (mC (.str " ")) (lCons (mC (.str "\n")) (lCons (mC (.str "  ")) (lCons (mC (.str "\n # _ 01 @ > !\n")) (lCons (mC (.str " #\n  ")) lNil)))))) (mFn S_pick (lCons (mVar 0) (lCons (mC (.int 5)) lNil)))))
noncomputable def m__law_between : MD := mDef 1 0 b__law_between
theorem len__law_between (ds : List D) (S : Hs) (h : ds.length ≠ 1) : m__law_between ds S = .bad := mDef_len ds S h
noncomputable def b__law_good : MS := (mSeq (mSet 1 (mLst (lCons (mC (.str "a")) (lCons (mC (.str "go_")) (lCons (mC (.str "10")) (lCons (mC (.str "public")) (lCons (mC (.str "return")) (lCons (mC (.str "==")) (lCons (mC (.str "<=")) (lCons (mC (.str "<<")) (lCons (mC (.str ">>")) (lCons (mC (.str "(")) (lCons (mC (.str "]")) (lCons (mC (.str ",")) (lCons (mC (.str "x_1")) (lCons (mC (.str "4294967295")) (lCons (mC (.str "0")) (lCons (mC (.str "!")) lNil))))))))))))))))))
    (mRet (mBin oIx (mVar 1) (mFn S_pick (lCons (mVar 0) (lCons (mC (.int 16)) lNil))))))
noncomputable def m__law_good : MD := mDef 1 1 b__law_good
theorem len__law_good (ds : List D) (S : Hs) (h : ds.length ≠ 1) : m__law_good ds S = .bad := mDef_len ds S h
noncomputable def lb_law_0 (cA : Nat → Addr) : MS := (mSet 2 (mBin oAdd (mBin oAdd (mVar 2) (mFn m__law_good (lCons (mVar 1) lNil))) (mFn m__law_between (lCons (mVar 1) lNil))))
noncomputable def lb_law_1 (cA : Nat → Addr) : MS := (mSet 10 (mBin oAdd (mBin oAdd (mVar 10) (mBin oIx (mLst (lCons (mC (.str " ")) (lCons (mC (.str "\n")) lNil))) (mFn S_pick (lCons (mVar 1) (lCons (mC (.int 2)) lNil))))) (mBin oIx (mLst (lCons (mFn m__law_good (lCons (mVar 1) lNil)) (lCons (mC (.str "$")) (lCons (mC (.str "02")) (lCons (mC (.str "_")) lNil))))) (mFn S_pick (lCons (mVar 1) (lCons (mC (.int 4)) lNil))))))
noncomputable def lb_law_2 (cA : Nat → Addr) : MS := (mSeq (mAsg (mFn m__law_bad (lCons (mVar 1) lNil)) (gT 2 (gsC (gN 6) (gsC (gN 7) gsN))))
    (mSeq (mSet 8 (mBin oAdd (mBM "str" oCount (mVar 2) (lCons (mC (.str "\n")) lNil)) (mC (.int 1))))
    (mSeq (mSet 9 (mBin oSub (mCall bLen (lCons (mVar 2) lNil)) (mBM "str" oRfind (mVar 2) (lCons (mC (.str "\n")) lNil))))
    (mSeq (mSet 10 (mC (.str "")))
    (mSeq (mFor (mRng1 (lCons (mFn S_pick (lCons (mVar 1) (lCons (mC (.int 4)) lNil))) lNil)) (gN 4) (lb_law_1 cA))
    (mIfS (mCmp oNe (mFn (m__law_told cA) (lCons (mBin oAdd (mBin oAdd (mVar 2) (mVar 7)) (mVar 10)) lNil)) (mTup (lCons (mVar 6) (lCons (mVar 8) (lCons (mVar 9) (lCons (mC (.bl false)) (lCons (mC (.bl true)) lNil))))))) (mRet (mC (.bl false))) mPass))))))
noncomputable def b_law (cA : Nat → Addr) : MS := (mSeq (mSet 1 (mFn m__law_stream (lCons (mVar 0) (lCons (mC (.int 200)) lNil))))
    (mSeq (mSet 2 (mC (.str "")))
    (mSeq (mSet 3 (mFn S_pick (lCons (mVar 1) (lCons (mC (.int 31)) lNil))))
    (mSeq (mFor (mRng1 (lCons (mVar 3) lNil)) (gN 4) (lb_law_0 cA))
    (mSeq (mIfS (mCmp oNe (mFn (m__law_told cA) (lCons (mVar 2) lNil)) (mTup (lCons (mC (.str "tokens")) (lCons (mBin oAdd (mVar 3) (mC (.int 1))) lNil)))) (mRet (mC (.bl false))) mPass)
    (mSeq (mFor (mRng1 (lCons (mC (.int 12)) lNil)) (gN 5) (lb_law_2 cA))
    (mRet (mC (.bl true)))))))))
noncomputable def m_law (cA : Nat → Addr) : MD := mDef 1 10 (b_law cA)
end GK01
set_option Elab.async false
set_option linter.all false
set_option maxRecDepth 100000
set_option maxHeartbeats 4000000
namespace GK01
open PySem PySem.Spec L2 Ly
open PyProof.Rows hiding St
def top (i : Nat) : Stmt := PySem.Challenge.pw_sameclock_k01_programs_with_a_bad_place.main.body.getD i (.Pass ⟨0, 0, 0, 0⟩)
abbrev s__law_mix : Stmt := top 21
abbrev s__law_stream : Stmt := top 22
abbrev s__law_pick : Stmt := top 23
abbrev s__comment_end : Stmt := top 16
abbrev s__word : Stmt := top 18
abbrev s__is_number : Stmt := top 19
abbrev s__token : Stmt := top 17
abbrev s_tokens : Stmt := top 15
abbrev s__law_told : Stmt := top 27
abbrev s__law_bad : Stmt := top 25
abbrev s__law_between : Stmt := top 26
abbrev s__law_good : Stmt := top 24
abbrev s_law : Stmt := top 28
abbrev s_TextError_ini : Stmt := (C8.clsBody (top 2)).getD 0 (.Pass ⟨0, 0, 0, 0⟩)
section
variable {P : Program} {w : World} {K : PySem.W.Frag} {mg : Str → Option Value} {base : Heap}
theorem iniok_TextError {qual : Str} {f D : Addr} {fd : FuncData} (I : IniAt K P mg qual s_TextError_ini (SELF :: ["row", "column"]) f D fd) : FnOk P w K mg base (L2.CX P w) 1 f fd (SELF :: ["row", "column"]) (spI K D ["row", "column"] ps_TextError) :=
  fn_init (k := 0) I rfl rfl (.str (.fmt (i := 0) rfl rfl rfl (.str (.fmt (i := 1) rfl rfl rfl .nil)))) (fun env => ⟨_, rfl⟩) (fun X hN hK hv => rest_two rfl rfl rfl rfl  X hN hK hv)
theorem sc__law_mix : FnScope ["cell", "k", "low"] ["cell", "k"] (defScope s__law_mix) := ⟨rfl, rfl, rfl, by decide +kernel, rfl, by decide +kernel, by decide +kernel⟩
theorem ok__law_mix {f__law_mix : Addr} {fd__law_mix : FuncData} (D__law_mix : DefAt K mg "_law_mix" s__law_mix ["cell", "k"] f__law_mix fd__law_mix) (z_int : mg "int" = none) : FnOk P w K mg base (L2.CX P w) 1 f__law_mix fd__law_mix ["cell", "k"] (spM K 2 (m__law_mix)) := by
  have sc := sc__law_mix
  refine fn_def (m := b__law_mix) D__law_mix.F sc rfl rfl fun cdv A outer s H E hr => ?_
  unfold b__law_mix
  exact (SMs.cons (s_set (i := 2) sc.nd (e_mod (c_int z_int (l_cons (e_add (e_add (e_mul (e_v 0) e_int) (e_mul (e_v 1) e_int)) e_int) l_nil)) e_int))
    (SMs.one (s_ret (e_mod (e_mod (c_int z_int (l_cons (e_add (e_add (e_add (e_mul (e_v 2) (e_v 2)) (e_mul (e_v 0) e_int)) (e_mul (e_v 1) e_int)) e_int) l_nil)) e_int) e_int))))
theorem sc__law_stream : FnScope ["script", "most", "row", "k", "rest", "j"] ["script", "most"] (defScope s__law_stream) := ⟨rfl, rfl, rfl, by decide +kernel, rfl, by decide +kernel, by decide +kernel⟩
theorem ok__law_stream {f__law_stream : Addr} {fd__law_stream : FuncData} {f__law_mix : Addr} {fd__law_mix : FuncData} (D__law_stream : DefAt K mg "_law_stream" s__law_stream ["script", "most"] f__law_stream fd__law_stream) (D__law_mix : DefAt K mg "_law_mix" s__law_mix ["cell", "k"] f__law_mix fd__law_mix) (G__law_mix : FnOk P w K mg base (L2.CX P w) 1 f__law_mix fd__law_mix ["cell", "k"] (spM K 2 S_mix)) (z_range : mg "range" = none) (z_min : mg "min" = none) (z_len : mg "len" = none) (z_int : mg "int" = none) : FnOk P w K mg base (L2.CX P w) 2 f__law_stream fd__law_stream ["script", "most"] (spM K 2 (m__law_stream)) := by
  have sc := sc__law_stream
  refine fn_def (m := b__law_stream) D__law_stream.F sc rfl rfl fun cdv A outer s H E hr => ?_
  unfold b__law_stream
  exact (SMs.cons (s_set (i := 2) sc.nd (e_lst l_nil))
    (SMs.cons (s_for (passes_of rfl) rfl (i_rng1 z_range (l_cons (c_min rfl z_min (l_cons (c_len z_len (l_cons (e_v 0) l_nil)) (l_cons e_int l_nil))) l_nil)) (g_n (i := 3) sc.nd) (SMs.cons (s_set (i := 4) sc.nd (e_ix (hu_of hr) (e_v 0) (e_v 3)))
    (SMs.one (s_if (b_cmp op_ge ok_ge (e_v 4) (e_pow e_int e_int) (nomark _)) (SMs.one (s_for (passes_of rfl) rfl (i_rng1 z_range (l_cons e_int l_nil)) (g_n (i := 5) sc.nd) (SMs.one (s_if (b_of (w_and (b_cmp op_gt ok_gt (e_v 4) e_int (nomark _)) (w_and1 (b_cmp op_lt ok_lt (c_len z_len (l_cons (e_v 2) l_nil)) (e_v 1) (nomark _))))) (SMs.cons (s_expr (e_bm PySem.F.plainAttrs_list PySem.F.slot_list_append PySem.F.type_list_append mt_append ok_append (e_v 2) (l_cons (e_mod (c_int z_int (l_cons (e_v 4) l_nil)) e_int) l_nil)))
    (SMs.one (s_set (i := 4) sc.nd (e_fdiv (e_v 4) e_int)))) SMs.nil)))) (SMs.one (s_for (passes_of rfl) rfl (i_rng1 z_range (l_cons e_int l_nil)) (g_n (i := 5) sc.nd) (SMs.one (s_if (b_cmp op_lt ok_lt (c_len z_len (l_cons (e_v 2) l_nil)) (e_v 1) (nomark _)) (SMs.one (s_expr (e_bm PySem.F.plainAttrs_list PySem.F.slot_list_append PySem.F.type_list_append mt_append ok_append (e_v 2) (l_cons (e_fn G__law_mix len__law_mix (hr.mono (by decide)) (by rfl) D__law_mix.g D__law_mix.F.kp D__law_mix.b (fun _ => Passes.at pass_def _) (l_cons (e_v 4) (l_cons (e_add (e_mul e_int (e_v 5)) (e_v 3)) l_nil))) l_nil)))) SMs.nil))))))))
    (SMs.one (s_ret (e_disp (dp_cons e_str (e_v 2) (dp_cons e_str e_int (dp_cons e_str (c_len z_len (l_cons (e_v 2) l_nil)) dp_nil))))))))
theorem sc__law_pick : FnScope ["draws", "many", "at", "number"] ["draws", "many"] (defScope s__law_pick) := ⟨rfl, rfl, rfl, by decide +kernel, rfl, by decide +kernel, by decide +kernel⟩
theorem ok__law_pick {f__law_pick : Addr} {fd__law_pick : FuncData} {f__law_mix : Addr} {fd__law_mix : FuncData} (D__law_pick : DefAt K mg "_law_pick" s__law_pick ["draws", "many"] f__law_pick fd__law_pick) (D__law_mix : DefAt K mg "_law_mix" s__law_mix ["cell", "k"] f__law_mix fd__law_mix) (G__law_mix : FnOk P w K mg base (L2.CX P w) 1 f__law_mix fd__law_mix ["cell", "k"] (spM K 2 S_mix)) (z_len : mg "len" = none) (z_int : mg "int" = none) : FnOk P w K mg base (L2.CX P w) 2 f__law_pick fd__law_pick ["draws", "many"] (spM K 2 (m__law_pick)) := by
  have sc := sc__law_pick
  refine fn_def (m := b__law_pick) D__law_pick.F sc rfl rfl fun cdv A outer s H E hr => ?_
  unfold b__law_pick
  exact (SMs.cons (s_set (i := 2) sc.nd (e_ix (hu_of hr) (e_v 0) e_str))
    (SMs.cons (s_sub (hu_of hr) (e_add (e_v 2) e_int) (e_v 0) e_str)
    (SMs.cons (s_set (i := 3) sc.nd (e_fn G__law_mix len__law_mix (hr.mono (by decide)) (by rfl) D__law_mix.g D__law_mix.F.kp D__law_mix.b (fun _ => Passes.at pass_def _) (l_cons (e_ix (hu_of hr) (e_v 0) e_str) (l_cons (e_v 2) l_nil))))
    (SMs.cons (s_if (b_cmp op_lt ok_lt (e_v 2) (c_len z_len (l_cons (e_ix (hu_of hr) (e_v 0) e_str) l_nil)) (nomark _)) (SMs.one (s_set (i := 3) sc.nd (e_ix (hu_of hr) (e_ix (hu_of hr) (e_v 0) e_str) (e_v 2)))) SMs.nil)
    (SMs.one (s_ret (e_mod (c_int z_int (l_cons (e_v 3) l_nil)) (e_v 1))))))))
theorem sc__comment_end : FnScope ["text", "at", "end"] ["text", "at"] (defScope s__comment_end) := ⟨rfl, rfl, rfl, by decide +kernel, rfl, by decide +kernel, by decide +kernel⟩
theorem ok__comment_end {f__comment_end : Addr} {fd__comment_end : FuncData} (D__comment_end : DefAt K mg "_comment_end" s__comment_end ["text", "at"] f__comment_end fd__comment_end) (z_len : mg "len" = none) : FnOk P w K mg base (L2.CX P w) 1 f__comment_end fd__comment_end ["text", "at"] (spM K 2 (m__comment_end)) := by
  have sc := sc__comment_end
  refine fn_def (m := b__comment_end) D__comment_end.F sc rfl rfl fun cdv A outer s H E hr => ?_
  unfold b__comment_end
  exact (SMs.cons (s_set (i := 2) sc.nd (e_bm PySem.F.plainAttrs_str PySem.F.slot_str_find PySem.F.type_str_find mt_findA ok_find (e_v 0) (l_cons e_str (l_cons (e_v 1) l_nil))))
    (SMs.one (s_ret (e_if (b_cmp op_lt ok_lt (e_v 2) e_int (nomark _)) (c_len z_len (l_cons (e_v 0) l_nil)) (e_v 2)))))
theorem sc__word : FnScope ["text", "at", "end"] ["text", "at"] (defScope s__word) := ⟨rfl, rfl, rfl, by decide +kernel, rfl, by decide +kernel, by decide +kernel⟩
theorem ok__word {f__word : Addr} {fd__word : FuncData} (D__word : DefAt K mg "_word" s__word ["text", "at"] f__word fd__word) (g_WORD_SIGNS : GV K mg "WORD_SIGNS" d_WORD_SIGNS) (z_len : mg "len" = none) : FnOk P w K mg base (L2.CX P w) 1 f__word fd__word ["text", "at"] (spM K 2 (m__word)) := by
  have sc := sc__word
  refine fn_def (m := b__word) D__word.F sc rfl rfl fun cdv A outer s H E hr => ?_
  unfold b__word
  exact (SMs.cons (s_set (i := 2) sc.nd (e_v 1))
    (SMs.cons (s_while (passes_of rfl) (b_of (w_and (b_cmp op_lt ok_lt (e_v 2) (c_len z_len (l_cons (e_v 0) l_nil)) (nomark _)) (w_and1 (b_cmp (or_inAll hr) ok_in (e_ix (hu_of hr) (e_v 0) (e_v 2)) (e_g g_WORD_SIGNS) (by rfl))))) (SMs.one (s_iadd (i := 2) sc.nd e_int)))
    (SMs.one (s_ret (e_slice (e_v 0) (o_some (e_v 1)) (o_some (e_v 2)))))))
theorem sc__is_number : FnScope ["word", "char"] ["word"] (defScope s__is_number) := ⟨rfl, rfl, rfl, by decide +kernel, rfl, by decide +kernel, by decide +kernel⟩
theorem ok__is_number {f__is_number : Addr} {fd__is_number : FuncData} (D__is_number : DefAt K mg "_is_number" s__is_number ["word"] f__is_number fd__is_number) (g_MOST_DIGITS : GV K mg "MOST_DIGITS" d_MOST_DIGITS) (g_DIGITS : GV K mg "DIGITS" d_DIGITS) (g_GREATEST_WORD : GV K mg "GREATEST_WORD" d_GREATEST_WORD) (z_len : mg "len" = none) (z_int : mg "int" = none) : FnOk P w K mg base (L2.CX P w) 1 f__is_number fd__is_number ["word"] (spM K 1 (m__is_number)) := by
  have sc := sc__is_number
  refine fn_def (m := b__is_number) D__is_number.F sc rfl rfl fun cdv A outer s H E hr => ?_
  unfold b__is_number
  exact (SMs.cons (s_if (b_of (w_or (b_cmp op_gt ok_gt (c_len z_len (l_cons (e_v 0) l_nil)) (e_g g_MOST_DIGITS) (nomark _)) (w_or1 (b_of (w_and (b_cmp op_gt ok_gt (c_len z_len (l_cons (e_v 0) l_nil)) e_int (nomark _)) (w_and1 (b_cmp (or_eqA hr) ok_eq (e_ix (hu_of hr) (e_v 0) e_int) e_str (nomark _)))))))) (SMs.one (s_ret e_bl)) SMs.nil)
    (SMs.cons (s_for (passes_of rfl) rfl (i_it (e_v 0)) (g_n (i := 1) sc.nd) (SMs.one (s_if (b_cmp (or_notinAll hr) ok_notin (e_v 1) (e_g g_DIGITS) (by rfl)) (SMs.one (s_ret e_bl)) SMs.nil)))
    (SMs.one (s_ret (e_cmp op_le ok_le (c_int z_int (l_cons (e_v 0) l_nil)) (e_g g_GREATEST_WORD) (nomark _))))))
theorem sc__token : FnScope ["text", "at", "row", "column", "char", "word", "kind", "pair"] ["text", "at", "row", "column"] (defScope s__token) := ⟨rfl, rfl, rfl, by decide +kernel, rfl, by decide +kernel, by decide +kernel⟩
theorem ok__token {f__token : Addr} {fd__token : FuncData} {f__word : Addr} {fd__word : FuncData} {f__is_number : Addr} {fd__is_number : FuncData} {cA : Nat → Addr} (D__token : DefAt K mg "_token" s__token ["text", "at", "row", "column"] f__token fd__token) (D__word : DefAt K mg "_word" s__word ["text", "at"] f__word fd__word) (D__is_number : DefAt K mg "_is_number" s__is_number ["word"] f__is_number fd__is_number) (G__word : FnOk P w K mg base (L2.CX P w) 1 f__word fd__word ["text", "at"] (spM K 2 m__word)) (G__is_number : FnOk P w K mg base (L2.CX P w) 1 f__is_number fd__is_number ["word"] (spM K 1 m__is_number)) (g_LETTERS : GV K mg "LETTERS" d_LETTERS) (g_KEYWORDS : GV K mg "KEYWORDS" d_KEYWORDS) (g_DIGITS : GV K mg "DIGITS" d_DIGITS) (g_LONG_SIGNS : GV K mg "LONG_SIGNS" d_LONG_SIGNS) (g_SHORT_SIGNS : GV K mg "SHORT_SIGNS" d_SHORT_SIGNS) (N_BadNumber : mg "BadNumber" = some (.ref (cA 3))) (N_BadCharacter : mg "BadCharacter" = some (.ref (cA 2))) (R_BadNumber : ErI P w K mg base (cA 3) ["row", "column"] ps_TextError) (R_BadCharacter : ErI P w K mg base (cA 2) ["row", "column"] ps_TextError) : FnOk P w K mg base (L2.CX P w) 3 f__token fd__token ["text", "at", "row", "column"] (spM K 4 (m__token cA)) := by
  have sc := sc__token
  refine fn_def (m := b__token cA) D__token.F sc rfl rfl fun cdv A outer s H E hr => ?_
  unfold b__token
  exact (SMs.cons (s_set (i := 4) sc.nd (e_ix (hu_of hr) (e_v 0) (e_v 1)))
    (SMs.cons (s_if (b_cmp (or_inAll hr) ok_in (e_v 4) (e_g g_LETTERS) (by rfl)) (SMs.cons (s_set (i := 5) sc.nd (e_fn G__word len__word (hr.mono (by decide)) (by rfl) D__word.g D__word.F.kp D__word.b (fun _ => Passes.at pass_def _) (l_cons (e_v 0) (l_cons (e_v 1) l_nil))))
    (SMs.cons (s_set (i := 6) sc.nd (e_if (b_cmp (or_inAll hr) ok_in (e_v 5) (e_g g_KEYWORDS) (by rfl)) e_str e_str))
    (SMs.one (s_ret (e_tup (l_cons (e_v 6) (l_cons (e_v 5) (l_cons (e_v 2) (l_cons (e_v 3) l_nil))))))))) SMs.nil)
    (SMs.cons (s_if (b_cmp (or_inAll hr) ok_in (e_v 4) (e_g g_DIGITS) (by rfl)) (SMs.cons (s_set (i := 5) sc.nd (e_fn G__word len__word (hr.mono (by decide)) (by rfl) D__word.g D__word.F.kp D__word.b (fun _ => Passes.at pass_def _) (l_cons (e_v 0) (l_cons (e_v 1) l_nil))))
    (SMs.cons (s_if (b_not (b_tru (e_fn G__is_number len__is_number (hr.mono (by decide)) (by rfl) D__is_number.g D__is_number.F.kp D__is_number.b (fun _ => Passes.at pass_def _) (l_cons (e_v 5) l_nil)))) (SMs.one (s_rzI rfl take_def R_BadNumber N_BadNumber (hr.mono (by decide)) pass_f (l_cons (e_v 2) (l_cons (e_v 3) l_nil)))) SMs.nil)
    (SMs.one (s_ret (e_tup (l_cons e_str (l_cons (e_v 5) (l_cons (e_v 2) (l_cons (e_v 3) l_nil))))))))) SMs.nil)
    (SMs.cons (s_set (i := 7) sc.nd (e_slice (e_v 0) (o_some (e_v 1)) (o_some (e_add (e_v 1) e_int))))
    (SMs.cons (s_if (b_cmp (or_inAll hr) ok_in (e_v 7) (e_g g_LONG_SIGNS) (by rfl)) (SMs.one (s_ret (e_tup (l_cons e_str (l_cons (e_v 7) (l_cons (e_v 2) (l_cons (e_v 3) l_nil))))))) SMs.nil)
    (SMs.cons (s_if (b_cmp (or_inAll hr) ok_in (e_v 4) (e_g g_SHORT_SIGNS) (by rfl)) (SMs.one (s_ret (e_tup (l_cons e_str (l_cons (e_v 4) (l_cons (e_v 2) (l_cons (e_v 3) l_nil))))))) SMs.nil)
    (SMs.one (s_rzI rfl take_def R_BadCharacter N_BadCharacter (hr.mono (by decide)) pass_f (l_cons (e_v 2) (l_cons (e_v 3) l_nil))))))))))
theorem sc_tokens : FnScope ["text", "found", "at", "row", "row_begin", "char", "token"] ["text"] (defScope s_tokens) := ⟨rfl, rfl, rfl, by decide +kernel, rfl, by decide +kernel, by decide +kernel⟩
theorem ok_tokens {f_tokens : Addr} {fd_tokens : FuncData} {f__comment_end : Addr} {fd__comment_end : FuncData} {f__token : Addr} {fd__token : FuncData} {cA : Nat → Addr} (D_tokens : DefAt K mg "tokens" s_tokens ["text"] f_tokens fd_tokens) (D__comment_end : DefAt K mg "_comment_end" s__comment_end ["text", "at"] f__comment_end fd__comment_end) (D__token : DefAt K mg "_token" s__token ["text", "at", "row", "column"] f__token fd__token) (G__comment_end : FnOk P w K mg base (L2.CX P w) 1 f__comment_end fd__comment_end ["text", "at"] (spM K 2 m__comment_end)) (G__token : FnOk P w K mg base (L2.CX P w) 3 f__token fd__token ["text", "at", "row", "column"] (spM K 4 (m__token cA))) (z_len : mg "len" = none) : FnOk P w K mg base (L2.CX P w) 4 f_tokens fd_tokens ["text"] (spM K 1 (m_tokens cA)) := by
  have sc := sc_tokens
  refine fn_def (m := b_tokens cA) D_tokens.F sc rfl rfl fun cdv A outer s H E hr => ?_
  unfold b_tokens
  exact (SMs.cons (s_set (i := 1) sc.nd (e_lst l_nil))
    (SMs.cons (s_set (i := 2) sc.nd e_int)
    (SMs.cons (s_set (i := 3) sc.nd e_int)
    (SMs.cons (s_set (i := 4) sc.nd e_int)
    (SMs.cons (s_while (passes_of rfl) (b_cmp op_lt ok_lt (e_v 2) (c_len z_len (l_cons (e_v 0) l_nil)) (nomark _)) (SMs.cons (s_set (i := 5) sc.nd (e_ix (hu_of hr) (e_v 0) (e_v 2)))
    (SMs.one (s_if (b_cmp (or_eqA hr) ok_eq (e_v 5) e_str (nomark _)) (SMs.cons (s_iadd (i := 2) sc.nd e_int)
    (SMs.cons (s_iadd (i := 3) sc.nd e_int)
    (SMs.one (s_set (i := 4) sc.nd (e_v 2))))) (SMs.one (s_if (b_cmp (or_eqA hr) ok_eq (e_v 5) e_str (nomark _)) (SMs.one (s_iadd (i := 2) sc.nd e_int)) (SMs.one (s_if (b_cmp (or_eqA hr) ok_eq (e_v 5) e_str (nomark _)) (SMs.one (s_set (i := 2) sc.nd (e_fn G__comment_end len__comment_end (hr.mono (by decide)) (by rfl) D__comment_end.g D__comment_end.F.kp D__comment_end.b (fun _ => Passes.at pass_def _) (l_cons (e_v 0) (l_cons (e_v 2) l_nil))))) (SMs.cons (s_set (i := 6) sc.nd (e_fn G__token len__token (hr.mono (by decide)) (by rfl) D__token.g D__token.F.kp D__token.b (fun _ => Passes.at pass_def _) (l_cons (e_v 0) (l_cons (e_v 2) (l_cons (e_v 3) (l_cons (e_add (e_sub (e_v 2) (e_v 4)) e_int) l_nil))))))
    (SMs.cons (s_expr (e_bm PySem.F.plainAttrs_list PySem.F.slot_list_append PySem.F.type_list_append mt_append ok_append (e_v 1) (l_cons (e_v 6) l_nil)))
    (SMs.one (s_iadd (i := 2) sc.nd (c_len z_len (l_cons (e_ix (hu_of hr) (e_v 6) e_int) l_nil))))))))))))))
    (SMs.cons (s_expr (e_bm PySem.F.plainAttrs_list PySem.F.slot_list_append PySem.F.type_list_append mt_append ok_append (e_v 1) (l_cons (e_tup (l_cons e_str (l_cons e_str (l_cons (e_v 3) (l_cons (e_add (e_sub (e_v 2) (e_v 4)) e_int) l_nil))))) l_nil)))
    (SMs.one (s_ret (e_v 1)))))))))
theorem sc__law_told : FnScope ["text", "e"] ["text"] (defScope s__law_told) := ⟨rfl, rfl, rfl, by decide +kernel, rfl, by decide +kernel, by decide +kernel⟩
theorem ok__law_told {f__law_told : Addr} {fd__law_told : FuncData} {f_tokens : Addr} {fd_tokens : FuncData} {cA : Nat → Addr} (D__law_told : DefAt K mg "_law_told" s__law_told ["text"] f__law_told fd__law_told) (D_tokens : DefAt K mg "tokens" s_tokens ["text"] f_tokens fd_tokens) (G_tokens : FnOk P w K mg base (L2.CX P w) 4 f_tokens fd_tokens ["text"] (spM K 1 (m_tokens cA))) (z_len : mg "len" = none) (z_isinstance : mg "isinstance" = none) (N_BadCharacter : mg "BadCharacter" = some (.ref (cA 2))) (N_TextError : mg "TextError" = some (.ref (cA 1))) (N_BadNumber : mg "BadNumber" = some (.ref (cA 3))) (N_Unexpected : mg "Unexpected" = some (.ref (cA 4))) (N_ClockError : mg "ClockError" = some (.ref (cA 0))) (T_BadCharacter : ∀ q ∈ tab_BadCharacter cA, PySem.W.exmOne K (.ref q.1) (.ref (cA 2)) = some q.2) (T_BadNumber : ∀ q ∈ tab_BadNumber cA, PySem.W.exmOne K (.ref q.1) (.ref (cA 3)) = some q.2) (I_TextError : ∀ q ∈ tab_TextError cA, ExcC K q.1 ∧ PySem.W.kitOne K (.ref q.1) (.ref (cA 1)) = some q.2) (I_ClockError : ∀ q ∈ tab_ClockError cA, ExcC K q.1 ∧ PySem.W.kitOne K (.ref q.1) (.ref (cA 0)) = some q.2) (I_Unexpected : ∀ q ∈ tab_Unexpected cA, ExcC K q.1 ∧ PySem.W.kitOne K (.ref q.1) (.ref (cA 4)) = some q.2) (J_BadNumber__Unexpected : ∀ q ∈ tab_BadNumber__Unexpected cA, ExcC K q.1 ∧ PySem.W.kitAny K (.ref q.1) ([cA 3, cA 4].map Value.ref) = some q.2) (Q_BadCharacter_column : ∀ q ∈ tab_BadCharacter cA, q.2 = true → XfC K q.1 ∧ PySem.W.findIn K (.ref q.1) "column" = some none) (Q_BadCharacter_row : ∀ q ∈ tab_BadCharacter cA, q.2 = true → XfC K q.1 ∧ PySem.W.findIn K (.ref q.1) "row" = some none) (Q_BadNumber_column : ∀ q ∈ tab_BadNumber cA, q.2 = true → XfC K q.1 ∧ PySem.W.findIn K (.ref q.1) "column" = some none) (Q_BadNumber_row : ∀ q ∈ tab_BadNumber cA, q.2 = true → XfC K q.1 ∧ PySem.W.findIn K (.ref q.1) "row" = some none) : FnOk P w K mg base (L2.CX P w) 5 f__law_told fd__law_told ["text"] (spM K 1 (m__law_told cA)) := by
  have sc := sc__law_told
  refine fn_def (m := b__law_told cA) D__law_told.F sc rfl rfl fun cdv A outer s H E hr => ?_
  unfold b__law_told
  exact (SMs.one (s_try rfl rfl sc.nd take_def (fun W pn xe tk po => (SMs.one (s_ret (e_tup (l_cons e_str (l_cons (c_len z_len (l_cons (e_fn G_tokens len_tokens (hr.mono (by decide)) (by rfl) D_tokens.g D_tokens.F.kp D_tokens.b (fun σ => passAt tk σ) (l_cons (e_v 0) l_nil)) l_nil)) l_nil)))))) (HdsM.as ⟨rfl, by decide, .inl N_BadCharacter⟩ rfl rfl T_BadCharacter (fun a oe cls d pn hz hf => (ss_ret (se_tup (ses_cons se_str (ses_cons (se_fld Q_BadCharacter_row hz hf) (ses_cons (se_fld Q_BadCharacter_column hz hf) (ses_cons (se_isT J_BadNumber__Unexpected z_isinstance (pcs_cons N_BadNumber (pcs_cons N_Unexpected pcs_nil)) (Nat.le_of_ble_eq_true rfl) hz hf) (ses_cons (se_is I_TextError z_isinstance N_TextError hz hf) ses_nil)))))))) (HdsM.as ⟨rfl, by decide, .inl N_BadNumber⟩ rfl rfl T_BadNumber (fun a oe cls d pn hz hf => (ss_ret (se_tup (ses_cons se_str (ses_cons (se_fld Q_BadNumber_row hz hf) (ses_cons (se_fld Q_BadNumber_column hz hf) (ses_cons (se_is I_Unexpected z_isinstance N_Unexpected hz hf) (ses_cons (se_and (se_is I_TextError z_isinstance N_TextError hz hf) (se_is I_ClockError z_isinstance N_ClockError hz hf)) ses_nil)))))))) HdsM.nil))))
theorem sc__law_bad : FnScope ["draws", "signs", "words"] ["draws"] (defScope s__law_bad) := ⟨rfl, rfl, rfl, by decide +kernel, rfl, by decide +kernel, by decide +kernel⟩
theorem ok__law_bad {f__law_bad : Addr} {fd__law_bad : FuncData} {f__law_pick : Addr} {fd__law_pick : FuncData} (D__law_bad : DefAt K mg "_law_bad" s__law_bad ["draws"] f__law_bad fd__law_bad) (D__law_pick : DefAt K mg "_law_pick" s__law_pick ["draws", "many"] f__law_pick fd__law_pick) (G__law_pick : FnOk P w K mg base (L2.CX P w) 2 f__law_pick fd__law_pick ["draws", "many"] (spM K 2 S_pick)) : FnOk P w K mg base (L2.CX P w) 3 f__law_bad fd__law_bad ["draws"] (spM K 1 (m__law_bad)) := by
  have sc := sc__law_bad
  refine fn_def (m := b__law_bad) D__law_bad.F sc rfl rfl fun cdv A outer s H E hr => ?_
  unfold b__law_bad
  exact (SMs.cons (s_if (b_cmp (or_eqA hr) ok_eq (e_fn G__law_pick len__law_pick (hr.mono (by decide)) (by rfl) D__law_pick.g D__law_pick.F.kp D__law_pick.b (fun _ => Passes.at pass_def _) (l_cons (e_v 0) (l_cons e_int l_nil))) e_int (nomark _)) (SMs.cons (s_set (i := 1) sc.nd (e_lst (l_cons e_str (l_cons e_str (l_cons e_str (l_cons e_str (l_cons e_str (l_cons e_str (l_cons e_str (l_cons e_str (l_cons e_str (l_cons e_str (l_cons e_str (l_cons e_str (l_cons e_str (l_cons e_str (l_cons e_str (l_cons e_str l_nil))))))))))))))))))
    (SMs.one (s_ret (e_tup (l_cons e_str (l_cons (e_ix (hu_of hr) (e_v 1) (e_fn G__law_pick len__law_pick (hr.mono (by decide)) (by rfl) D__law_pick.g D__law_pick.F.kp D__law_pick.b (fun _ => Passes.at pass_def _) (l_cons (e_v 0) (l_cons e_int l_nil)))) l_nil)))))) SMs.nil)
    (SMs.cons (s_set (i := 2) sc.nd (e_lst (l_cons e_str (l_cons e_str (l_cons e_str (l_cons e_str (l_cons e_str (l_cons e_str (l_cons e_str (l_cons e_str (l_cons e_str (l_cons e_str l_nil))))))))))))
    (SMs.one (s_ret (e_tup (l_cons e_str (l_cons (e_ix (hu_of hr) (e_v 2) (e_fn G__law_pick len__law_pick (hr.mono (by decide)) (by rfl) D__law_pick.g D__law_pick.F.kp D__law_pick.b (fun _ => Passes.at pass_def _) (l_cons (e_v 0) (l_cons e_int l_nil)))) l_nil)))))))
theorem sc__law_between : FnScope ["draws"] ["draws"] (defScope s__law_between) := ⟨rfl, rfl, rfl, by decide +kernel, rfl, by decide +kernel, by decide +kernel⟩
theorem ok__law_between {f__law_between : Addr} {fd__law_between : FuncData} {f__law_pick : Addr} {fd__law_pick : FuncData} (D__law_between : DefAt K mg "_law_between" s__law_between ["draws"] f__law_between fd__law_between) (D__law_pick : DefAt K mg "_law_pick" s__law_pick ["draws", "many"] f__law_pick fd__law_pick) (G__law_pick : FnOk P w K mg base (L2.CX P w) 2 f__law_pick fd__law_pick ["draws", "many"] (spM K 2 S_pick)) : FnOk P w K mg base (L2.CX P w) 3 f__law_between fd__law_between ["draws"] (spM K 1 (m__law_between)) := by
  have sc := sc__law_between
  refine fn_def (m := b__law_between) D__law_between.F sc rfl rfl fun cdv A outer s H E hr => ?_
  unfold b__law_between
  exact (SMs.one (s_ret (e_ix (hu_of hr) (e_lst (l_cons e_str (l_cons e_str (l_cons e_str (l_cons e_str (l_cons e_str l_nil)))))) (e_fn G__law_pick len__law_pick (hr.mono (by decide)) (by rfl) D__law_pick.g D__law_pick.F.kp D__law_pick.b (fun _ => Passes.at pass_def _) (l_cons (e_v 0) (l_cons e_int l_nil))))))
theorem sc__law_good : FnScope ["draws", "words"] ["draws"] (defScope s__law_good) := ⟨rfl, rfl, rfl, by decide +kernel, rfl, by decide +kernel, by decide +kernel⟩
theorem ok__law_good {f__law_good : Addr} {fd__law_good : FuncData} {f__law_pick : Addr} {fd__law_pick : FuncData} (D__law_good : DefAt K mg "_law_good" s__law_good ["draws"] f__law_good fd__law_good) (D__law_pick : DefAt K mg "_law_pick" s__law_pick ["draws", "many"] f__law_pick fd__law_pick) (G__law_pick : FnOk P w K mg base (L2.CX P w) 2 f__law_pick fd__law_pick ["draws", "many"] (spM K 2 S_pick)) : FnOk P w K mg base (L2.CX P w) 3 f__law_good fd__law_good ["draws"] (spM K 1 (m__law_good)) := by
  have sc := sc__law_good
  refine fn_def (m := b__law_good) D__law_good.F sc rfl rfl fun cdv A outer s H E hr => ?_
  unfold b__law_good
  exact (SMs.cons (s_set (i := 1) sc.nd (e_lst (l_cons e_str (l_cons e_str (l_cons e_str (l_cons e_str (l_cons e_str (l_cons e_str (l_cons e_str (l_cons e_str (l_cons e_str (l_cons e_str (l_cons e_str (l_cons e_str (l_cons e_str (l_cons e_str (l_cons e_str (l_cons e_str l_nil))))))))))))))))))
    (SMs.one (s_ret (e_ix (hu_of hr) (e_v 1) (e_fn G__law_pick len__law_pick (hr.mono (by decide)) (by rfl) D__law_pick.g D__law_pick.F.kp D__law_pick.b (fun _ => Passes.at pass_def _) (l_cons (e_v 0) (l_cons e_int l_nil)))))))
theorem sc_law : FnScope ["script", "draws", "text", "many", "k", "turn", "kind", "word", "row", "column", "rest"] ["script"] (defScope s_law) := ⟨rfl, rfl, rfl, by decide +kernel, rfl, by decide +kernel, by decide +kernel⟩
theorem ok_law {f_law : Addr} {fd_law : FuncData} {f__law_stream : Addr} {fd__law_stream : FuncData} {f__law_pick : Addr} {fd__law_pick : FuncData} {f__law_good : Addr} {fd__law_good : FuncData} {f__law_between : Addr} {fd__law_between : FuncData} {f__law_told : Addr} {fd__law_told : FuncData} {f__law_bad : Addr} {fd__law_bad : FuncData} {cA : Nat → Addr} (D_law : DefAt K mg "law" s_law ["script"] f_law fd_law) (D__law_stream : DefAt K mg "_law_stream" s__law_stream ["script", "most"] f__law_stream fd__law_stream) (D__law_pick : DefAt K mg "_law_pick" s__law_pick ["draws", "many"] f__law_pick fd__law_pick) (D__law_good : DefAt K mg "_law_good" s__law_good ["draws"] f__law_good fd__law_good) (D__law_between : DefAt K mg "_law_between" s__law_between ["draws"] f__law_between fd__law_between) (D__law_told : DefAt K mg "_law_told" s__law_told ["text"] f__law_told fd__law_told) (D__law_bad : DefAt K mg "_law_bad" s__law_bad ["draws"] f__law_bad fd__law_bad) (G__law_stream : FnOk P w K mg base (L2.CX P w) 2 f__law_stream fd__law_stream ["script", "most"] (spM K 2 m__law_stream)) (G__law_pick : FnOk P w K mg base (L2.CX P w) 2 f__law_pick fd__law_pick ["draws", "many"] (spM K 2 S_pick)) (G__law_good : FnOk P w K mg base (L2.CX P w) 3 f__law_good fd__law_good ["draws"] (spM K 1 m__law_good)) (G__law_between : FnOk P w K mg base (L2.CX P w) 3 f__law_between fd__law_between ["draws"] (spM K 1 m__law_between)) (G__law_told : FnOk P w K mg base (L2.CX P w) 5 f__law_told fd__law_told ["text"] (spM K 1 (m__law_told cA))) (G__law_bad : FnOk P w K mg base (L2.CX P w) 3 f__law_bad fd__law_bad ["draws"] (spM K 1 m__law_bad)) (z_range : mg "range" = none) (z_len : mg "len" = none) : FnOk P w K mg base (L2.CX P w) 6 f_law fd_law ["script"] (spM K 1 (m_law cA)) := by
  have sc := sc_law
  refine fn_def (m := b_law cA) D_law.F sc rfl rfl fun cdv A outer s H E hr => ?_
  unfold b_law
  exact (SMs.cons (s_set (i := 1) sc.nd (e_fn G__law_stream len__law_stream (hr.mono (by decide)) (by rfl) D__law_stream.g D__law_stream.F.kp D__law_stream.b (fun _ => Passes.at pass_def _) (l_cons (e_v 0) (l_cons e_int l_nil))))
    (SMs.cons (s_set (i := 2) sc.nd e_str)
    (SMs.cons (s_set (i := 3) sc.nd (e_fn G__law_pick len__law_pick (hr.mono (by decide)) (by rfl) D__law_pick.g D__law_pick.F.kp D__law_pick.b (fun _ => Passes.at pass_def _) (l_cons (e_v 1) (l_cons e_int l_nil))))
    (SMs.cons (s_for (passes_of rfl) rfl (i_rng1 z_range (l_cons (e_v 3) l_nil)) (g_n (i := 4) sc.nd) (SMs.one (s_set (i := 2) sc.nd (e_add (e_add (e_v 2) (e_fn G__law_good len__law_good (hr.mono (by decide)) (by rfl) D__law_good.g D__law_good.F.kp D__law_good.b (fun _ => Passes.at pass_def _) (l_cons (e_v 1) l_nil))) (e_fn G__law_between len__law_between (hr.mono (by decide)) (by rfl) D__law_between.g D__law_between.F.kp D__law_between.b (fun _ => Passes.at pass_def _) (l_cons (e_v 1) l_nil))))))
    (SMs.cons (s_if (b_cmp (or_neA hr) ok_ne (e_fn G__law_told len__law_told (hr.mono (by decide)) (by rfl) D__law_told.g D__law_told.F.kp D__law_told.b (fun _ => Passes.at pass_def _) (l_cons (e_v 2) l_nil)) (e_tup (l_cons e_str (l_cons (e_add (e_v 3) e_int) l_nil))) (nomark _)) (SMs.one (s_ret e_bl)) SMs.nil)
    (SMs.cons (s_for (passes_of rfl) rfl (i_rng1 z_range (l_cons e_int l_nil)) (g_n (i := 5) sc.nd) (SMs.cons (s_asg (e_fn G__law_bad len__law_bad (hr.mono (by decide)) (by rfl) D__law_bad.g D__law_bad.F.kp D__law_bad.b (fun _ => Passes.at pass_def _) (l_cons (e_v 1) l_nil)) (g_tup rfl (gs_cons (g_n (i := 6) sc.nd) (gs_cons (g_n (i := 7) sc.nd) gs_nil))))
    (SMs.cons (s_set (i := 8) sc.nd (e_add (e_bm PySem.F.plainAttrs_str PySem.F.slot_str_count PySem.F.type_str_count mt_count ok_count (e_v 2) (l_cons e_str l_nil)) e_int))
    (SMs.cons (s_set (i := 9) sc.nd (e_sub (c_len z_len (l_cons (e_v 2) l_nil)) (e_bm PySem.F.plainAttrs_str PySem.F.slot_str_rfind PySem.F.type_str_rfind mt_rfind ok_rfind (e_v 2) (l_cons e_str l_nil))))
    (SMs.cons (s_set (i := 10) sc.nd e_str)
    (SMs.cons (s_for (passes_of rfl) rfl (i_rng1 z_range (l_cons (e_fn G__law_pick len__law_pick (hr.mono (by decide)) (by rfl) D__law_pick.g D__law_pick.F.kp D__law_pick.b (fun _ => Passes.at pass_def _) (l_cons (e_v 1) (l_cons e_int l_nil))) l_nil)) (g_n (i := 4) sc.nd) (SMs.one (s_set (i := 10) sc.nd (e_add (e_add (e_v 10) (e_ix (hu_of hr) (e_lst (l_cons e_str (l_cons e_str l_nil))) (e_fn G__law_pick len__law_pick (hr.mono (by decide)) (by rfl) D__law_pick.g D__law_pick.F.kp D__law_pick.b (fun _ => Passes.at pass_def _) (l_cons (e_v 1) (l_cons e_int l_nil))))) (e_ix (hu_of hr) (e_lst (l_cons (e_fn G__law_good len__law_good (hr.mono (by decide)) (by rfl) D__law_good.g D__law_good.F.kp D__law_good.b (fun _ => Passes.at pass_def _) (l_cons (e_v 1) l_nil)) (l_cons e_str (l_cons e_str (l_cons e_str l_nil))))) (e_fn G__law_pick len__law_pick (hr.mono (by decide)) (by rfl) D__law_pick.g D__law_pick.F.kp D__law_pick.b (fun _ => Passes.at pass_def _) (l_cons (e_v 1) (l_cons e_int l_nil))))))))
    (SMs.one (s_if (b_cmp (or_neA hr) ok_ne (e_fn G__law_told len__law_told (hr.mono (by decide)) (by rfl) D__law_told.g D__law_told.F.kp D__law_told.b (fun _ => Passes.at pass_def _) (l_cons (e_add (e_add (e_v 2) (e_v 7)) (e_v 10)) l_nil)) (e_tup (l_cons (e_v 6) (l_cons (e_v 8) (l_cons (e_v 9) (l_cons e_bl (l_cons e_bl l_nil)))))) (nomark _)) (SMs.one (s_ret e_bl)) SMs.nil))))))))
    (SMs.one (s_ret e_bl))))))))
end
end GK01
set_option Elab.async false
set_option linter.all false
set_option maxRecDepth 100000
set_option maxHeartbeats 4000000
namespace GK01
open PySem PySem.Spec L2 Ly
open PyProof.Rows hiding St
noncomputable abbrev rz (C : Addr) : MS := mRaiseI C ["row", "column"] ps_TextError (lCons (mVar 2) (lCons (mVar 3) lNil))
theorem is_tokens (cA : Nat → Addr) : m_tokens cA = mDef 1 6 (b_toks (rz (cA 3)) (rz (cA 2))) := rfl
abbrev fsX (r c : Int) : List (Str × D) := [("column", .int c), ("row", .int r)]
theorem kRC : ((("row" : Str)) == (("column" : Str))) = false := by decide +kernel
theorem num_log {k : Int} (h0 : 0 ≤ k) (h1 : k < 10 ^ 9) : k.natAbs.log2 < 1920 := by
  have : k.natAbs < 2 ^ 1920 := by
    have e : k.natAbs < 2 ^ 64 := by omega
    exact Nat.lt_of_lt_of_le e (Nat.pow_le_pow_right (by omega) (by omega))
  by_cases hz : k.natAbs = 0
  · rw [hz]; decide
  · exact (Nat.log2_lt hz).mpr this
theorem js_ok {r c : Int} (h0 : 0 ≤ r) (h1 : r < 10 ^ 9) (h2 : 0 ≤ c) (h3 : c < 10 ^ 9) : jsD [.int r, .int c] ps_TextError Str.empty := by
  have a1 := PyProof.Rows.toString_length_le h0 (k := 9) (by omega) h1
  have a2 := PyProof.Rows.toString_length_le h2 (k := 9) (by omega) h3
  have l1 : ∀ a b : Str, (a ++ b).length = a.length + b.length := fun a b => Str.length_append a b
  have e1 : ("row " : Str).length = 4 := by decide +kernel
  have e2 : (", column " : Str).length = 9 := by decide +kernel
  have e0 : (Str.empty : Str).length = 0 := by decide +kernel
  have big : 1000 ≤ sizeLine := by decide
  refine ⟨by rw [l1, e0, e1]; omega, .inr ⟨r, rfl, num_log h0 h1, by rw [l1, l1, e0, e1]; omega, ?_⟩⟩
  refine ⟨by rw [l1, l1, l1, e0, e1, e2]; omega, .inr ⟨c, rfl, num_log h2 h3, by rw [l1, l1, l1, l1, e0, e1, e2]; omega, trivial⟩⟩
theorem rz_ok {C : Addr} {r c : Int} (h0 : 0 ≤ r) (h1 : r < 10 ^ 9) (h2 : 0 ≤ c) (h3 : c < 10 ^ 9) : Rz (rz C) (.int r) (.int c) (.ref C) (some (fsX r c)) := fun t0 t1 l S => ⟨_, by
  have hc : [D.int r, D.int c].length = (["row", "column"] : List Str).length ∧ [D.int r, D.int c].length ≤ 100 ∧ (∀ d ∈ [D.int r, D.int c], (∃ y, d = .str y) ∨ ∃ i, d = .int i) ∧ jsD [D.int r, D.int c] ps_TextError Str.empty :=
    ⟨rfl, by simp, fun d hd => by simp at hd; rcases hd with rfl | rfl <;> exact .inr ⟨_, rfl⟩, js_ok h0 h1 h2 h3⟩
  show ((lCons (mVar 2) (lCons (mVar 3) lNil)) (some t0 :: some t1 :: some (D.int r) :: some (D.int c) :: l) S).bind _ = _
  simp only [lCons, lNil, mVar, List.getElem?_cons_zero, List.getElem?_cons_succ, R.bind_ok]
  rw [if_pos hc]
  rfl⟩
section
variable {cA : Nat → Addr} {S : Hs}
theorem told_ok {text : List Nat} {due : List D} (hQ : Qb text due) (hl : text.length < 100000) (hd : due.length < 100000) : ∃ S', m__law_told cA [.str (tx text)] S = .ok (.tup [.str "tokens", .int ((due.length : Int) + 1)]) S' ∧ ∃ g, S' = S ++ g := by
  have h := toks_ok (r1 := rz (cA 3)) (r2 := rz (cA 2)) hQ.lx (Nat.lt_of_lt_of_le hl (by decide)) S
  rw [← is_tokens] at h
  refine ⟨S ++ [.lst (due ++ [endD text])], ?_, _, rfl⟩
  have hb : bLen [.ref S.length] (S ++ [.lst (due ++ [endD text])]) = .ok (.int ((due.length : Int) + 1)) (S ++ [.lst (due ++ [endD text])]) := by
    have : (due ++ [endD text]).length ≤ sizeLine := line_le (by simp; omega)
    simp only [bLen, lenD, get_end, this]
    simp
  have hd : m__law_told cA [.str (tx text)] S = endOf (b__law_told cA [some (.str (tx text)), none] S) := rfl
  rw [hd]
  unfold b__law_told mTry
  simp only [ap_bin, ap_var, ap_c, ap_un, ap_cmp, ap_nil, ap_cons, ap_tru, ap_notB, ap_andB, ap_orB, ap_and, ap_or, ap_if, ap_no, ap_some, ap_sl, ap_tup, ap_lst, ap_call, ap_bm, ap_set, ap_expr, ap_ret, ap_retN, ap_pass, ap_brk, ap_cnt, ap_seq, ap_ifS, ap_fn, ap_gN, ap_gsN, ap_gsC, ap_gT, ap_asg, ap_gSb, ap_aug, ap_it, ap_rng1, ap_rng2, ap_enum, ap_zip, ap_for, ap_yes, R.bind_ok, R.bind_bad, R.at_ok, R.bind_exc, List.getElem?_cons_zero, List.getElem?_cons_succ, List.set_cons_zero, List.set_cons_succ, List.length_cons, List.length_nil, if_true, if_false, Bool.false_eq_true, Bool.not_true, Bool.not_false, Bool.true_and, Bool.false_and, decide_true, decide_false, Nat.zero_add, h, hb, line_le, Nat.reduceAdd, Nat.reduceLeDiff]
  rfl
theorem told_bad (hD : Dst 0 5 cA) {text w rest : List Nat} {due : List D} {num : Bool} {r c : Int} (hQ : Qb text due) (hl : (text ++ w ++ rest).length < 100000) (hdl : due.length ≤ text.length) (x : Nat) (v : List Nat) (hxv : w = x :: v) (hx : x ≠ 10 ∧ x ≠ 32 ∧ x ≠ 35)
    (hw : if num = true then badN w = true ∧ w.length ≤ 600 ∧ (∀ y, rest.head? = some y → isWs y = false) else badC w rest.head? = true) (hr : rowD text = .int r) (hc : colD text = .int c) (h0 : 0 ≤ r) (h1 : r < 10 ^ 9) (h2 : 0 ≤ c) (h3 : c < 10 ^ 9) :
    m__law_told cA [.str (tx (text ++ w ++ rest))] S = .ok (.tup [.str (if num = true then "number" else "character"), .int r, .int c, .bl false, .bl true]) (S ++ [.lst due]) := by
  have hls : (text ++ w ++ rest).length < sizeLine := Nat.lt_of_lt_of_le hl (by decide)
  have n32 : (cA 3 == cA 2) = false := by
    rw [beq_eq_false_iff_ne]
    intro e
    have := hD 3 2 (by omega) (by omega) (by omega) (by omega) e
    omega
  have hd : m__law_told cA [.str (tx (text ++ w ++ rest))] S = endOf (b__law_told cA [some (.str (tx (text ++ w ++ rest))), none] S) := rfl
  cases num with
  | true =>
    rw [if_pos rfl] at hw
    have h := toks_bad (r1 := rz (cA 3)) (r2 := rz (cA 2)) (e := .ref (cA 3)) (fs := some (fsX r c)) hQ hls hdl x v hxv hx (fun S => token_badN (Nat.le_of_lt hls) hw.1 hw.2.1 hw.2.2 (by rw [hr, hc]; exact rz_ok h0 h1 h2 h3)) S
    rw [← is_tokens] at h
    rw [hd]
    unfold b__law_told mTry
    simp only [ap_bin, ap_var, ap_c, ap_un, ap_cmp, ap_nil, ap_cons, ap_tru, ap_notB, ap_andB, ap_orB, ap_and, ap_or, ap_if, ap_no, ap_some, ap_sl, ap_tup, ap_lst, ap_call, ap_bm, ap_set, ap_expr, ap_ret, ap_retN, ap_pass, ap_brk, ap_cnt, ap_seq, ap_ifS, ap_fn, ap_gN, ap_gsN, ap_gsC, ap_gT, ap_asg, ap_gSb, ap_aug, ap_it, ap_rng1, ap_rng2, ap_enum, ap_zip, ap_for, ap_yes, R.bind_ok, R.bind_bad, R.at_ok, R.bind_exc, List.getElem?_cons_zero, List.getElem?_cons_succ, List.set_cons_zero, List.set_cons_succ, List.length_cons, List.length_nil, if_true, if_false, Bool.false_eq_true, Bool.not_true, Bool.not_false, Bool.true_and, Bool.false_and, decide_true, decide_false, Nat.zero_add, h]
    simp [tryH, tab_BadCharacter, tab_BadNumber, List.lookup, n32, Cm.fit, Cm.ls, uTup, uCons, uFld, uIs, uAnd, tab_BadNumber__Unexpected, tab_TextError, tab_Unexpected, tab_ClockError, endOf, kRC]
  | false =>
    rw [if_neg Bool.false_ne_true] at hw
    have h := toks_bad (r1 := rz (cA 3)) (r2 := rz (cA 2)) (e := .ref (cA 2)) (fs := some (fsX r c)) hQ hls hdl x v hxv hx (fun S => token_badC (Nat.le_of_lt hls) hw (by rw [hr, hc]; exact rz_ok h0 h1 h2 h3)) S
    rw [← is_tokens] at h
    rw [hd]
    unfold b__law_told mTry
    simp only [ap_bin, ap_var, ap_c, ap_un, ap_cmp, ap_nil, ap_cons, ap_tru, ap_notB, ap_andB, ap_orB, ap_and, ap_or, ap_if, ap_no, ap_some, ap_sl, ap_tup, ap_lst, ap_call, ap_bm, ap_set, ap_expr, ap_ret, ap_retN, ap_pass, ap_brk, ap_cnt, ap_seq, ap_ifS, ap_fn, ap_gN, ap_gsN, ap_gsC, ap_gT, ap_asg, ap_gSb, ap_aug, ap_it, ap_rng1, ap_rng2, ap_enum, ap_zip, ap_for, ap_yes, R.bind_ok, R.bind_bad, R.at_ok, R.bind_exc, List.getElem?_cons_zero, List.getElem?_cons_succ, List.set_cons_zero, List.set_cons_succ, List.length_cons, List.length_nil, if_true, if_false, Bool.false_eq_true, Bool.not_true, Bool.not_false, Bool.true_and, Bool.false_and, decide_true, decide_false, Nat.zero_add, h]
    simp [tryH, tab_BadCharacter, tab_BadNumber, List.lookup, n32, Cm.fit, Cm.ls, uTup, uCons, uFld, uIs, uAnd, tab_BadNumber__Unexpected, tab_TextError, tab_Unexpected, tab_ClockError, endOf, kRC]
end
def goodL : List Str := ["a", "go_", "10", "public", "return", "==", "<=", "<<", ">>", "(", "]", ",", "x_1", "4294967295", "0", "!"]
def betL : List Str := [" ", "\n", "  ", "\n # _ 01 @ > !\n", " #\n  "]
def sigL : List Str := ["_", "'", "$", "~", "@", ">", ">=", ".", "_a", "`", "`a", "/", "/x", "'a'", "@=", "$1"]
def nulL : List Str := ["01", "00", "1a", "2_", "3_4", "4294967296", "99999999999999999999", "0x", "7A", "10div"]
def headB (w : List Nat) : Bool := match w with | x :: _ => !(x == 10) && !(x == 32) && !(x == 35) | [] => false
theorem good_ok : ∀ x ∈ goodL, ((["name", "number", "keyword", "sign"] : List Str).any (fun k => tokS k x.cps.toList) && decide (x.length ≤ 20)) = true := by decide +kernel
theorem bet_ok : ∀ x ∈ betL, (skB false x.cps.toList && (match x.cps.toList with | c :: _ => c == 10 || c == 32 | [] => false) && decide (x.length ≤ 20)) = true := by decide +kernel
theorem sig_ok : ∀ x ∈ sigL, (badC x.cps.toList none && badC x.cps.toList (some 10) && badC x.cps.toList (some 32) && headB x.cps.toList && decide (x.length ≤ 25)) = true := by decide +kernel
theorem nul_ok : ∀ x ∈ nulL, (badN x.cps.toList && headB x.cps.toList && decide (x.length ≤ 25)) = true := by decide +kernel
section
variable {i j : Nat} {row : List Int} {sd : Int} {S : Hs}
theorem good_at (h : DrwA S i j row sd) : ∃ (x : Str) (S' : Hs), m__law_good [.ref i] S = .ok (.str x) S' ∧ Upd i j sd S S' ∧ x ∈ goodL := by
  obtain ⟨d, w, S2, e2, e3, u2, hm⟩ := choose_val h (goodL.map D.str) (many := 16) rfl (by decide)
  obtain ⟨x, hx, rfl⟩ := of_strs hm
  refine ⟨x, S2, ?_, u2, hx⟩
  have hd : m__law_good [.ref i] S = endOf (b__law_good [some (.ref i), none] S) := rfl
  rw [hd]
  unfold b__law_good
  simp only [goodL, List.map_cons, List.map_nil] at e2
  simp only [ap_bin, ap_var, ap_c, ap_un, ap_cmp, ap_nil, ap_cons, ap_tru, ap_notB, ap_andB, ap_orB, ap_and, ap_or, ap_if, ap_no, ap_some, ap_sl, ap_tup, ap_lst, ap_call, ap_bm, ap_set, ap_expr, ap_ret, ap_retN, ap_pass, ap_brk, ap_cnt, ap_seq, ap_ifS, ap_fn, ap_gN, ap_gsN, ap_gsC, ap_gT, ap_asg, ap_gSb, ap_aug, ap_it, ap_rng1, ap_rng2, ap_enum, ap_zip, ap_for, ap_yes, R.bind_ok, R.bind_bad, R.at_ok, R.bind_exc, List.getElem?_cons_zero, List.getElem?_cons_succ, List.set_cons_zero, List.set_cons_succ, List.length_cons, List.length_nil, if_true, if_false, Bool.false_eq_true, Bool.not_true, Bool.not_false, Bool.true_and, Bool.false_and, decide_true, decide_false, Nat.zero_add, line_le, Nat.reduceAdd, Nat.reduceLeDiff, e2, e3, endOf]
theorem between_at (h : DrwA S i j row sd) : ∃ (x : Str) (S' : Hs), m__law_between [.ref i] S = .ok (.str x) S' ∧ Upd i j sd S S' ∧ x ∈ betL := by
  obtain ⟨d, w, S2, e2, e3, u2, hm⟩ := choose_val h (betL.map D.str) (many := 5) rfl (by decide)
  obtain ⟨x, hx, rfl⟩ := of_strs hm
  refine ⟨x, S2, ?_, u2, hx⟩
  have hd : m__law_between [.ref i] S = endOf (b__law_between [some (.ref i)] S) := rfl
  rw [hd]
  unfold b__law_between
  simp only [betL, List.map_cons, List.map_nil] at e2
  simp only [ap_bin, ap_var, ap_c, ap_un, ap_cmp, ap_nil, ap_cons, ap_tru, ap_notB, ap_andB, ap_orB, ap_and, ap_or, ap_if, ap_no, ap_some, ap_sl, ap_tup, ap_lst, ap_call, ap_bm, ap_set, ap_expr, ap_ret, ap_retN, ap_pass, ap_brk, ap_cnt, ap_seq, ap_ifS, ap_fn, ap_gN, ap_gsN, ap_gsC, ap_gT, ap_asg, ap_gSb, ap_aug, ap_it, ap_rng1, ap_rng2, ap_enum, ap_zip, ap_for, ap_yes, R.bind_ok, R.bind_bad, R.at_ok, R.bind_exc, List.getElem?_cons_zero, List.getElem?_cons_succ, List.set_cons_zero, List.set_cons_succ, List.length_cons, List.length_nil, if_true, if_false, Bool.false_eq_true, Bool.not_true, Bool.not_false, Bool.true_and, Bool.false_and, decide_true, decide_false, Nat.zero_add, line_le, Nat.reduceAdd, Nat.reduceLeDiff, e2, e3, endOf]
theorem bad_at (h : DrwA S i j row sd) : ∃ (num : Bool) (x : Str) (S' : Hs), m__law_bad [.ref i] S = .ok (.tup [.str (if num = true then "number" else "character"), .str x]) S' ∧ Upd i j sd S S' ∧ (if num = true then x ∈ nulL else x ∈ sigL) := by
  obtain ⟨v, S1, e1, u1, h1, h2⟩ := pick_ok h (many := 2) (by decide)
  have d1 := u1.drw h
  have hd : m__law_bad [.ref i] S = endOf (b__law_bad [some (.ref i), none, none] S) := rfl
  by_cases c1 : v = 0
  · obtain ⟨d, w, S2, e2, e3, u2, hm⟩ := choose_val d1 (sigL.map D.str) (many := 16) rfl (by decide)
    obtain ⟨x, hx, rfl⟩ := of_strs hm
    refine ⟨false, x, S2, ?_, u1.trans h u2, by rw [if_neg Bool.false_ne_true]; exact hx⟩
    rw [hd, if_neg Bool.false_ne_true]
    unfold b__law_bad
    simp only [sigL, List.map_cons, List.map_nil] at e2
    subst c1
    simp only [ap_bin, ap_var, ap_c, ap_un, ap_cmp, ap_nil, ap_cons, ap_tru, ap_notB, ap_andB, ap_orB, ap_and, ap_or, ap_if, ap_no, ap_some, ap_sl, ap_tup, ap_lst, ap_call, ap_bm, ap_set, ap_expr, ap_ret, ap_retN, ap_pass, ap_brk, ap_cnt, ap_seq, ap_ifS, ap_fn, ap_gN, ap_gsN, ap_gsC, ap_gT, ap_asg, ap_gSb, ap_aug, ap_it, ap_rng1, ap_rng2, ap_enum, ap_zip, ap_for, ap_yes, R.bind_ok, R.bind_bad, R.at_ok, R.bind_exc, List.getElem?_cons_zero, List.getElem?_cons_succ, List.set_cons_zero, List.set_cons_succ, List.length_cons, List.length_nil, if_true, if_false, Bool.false_eq_true, Bool.not_true, Bool.not_false, Bool.true_and, Bool.false_and, decide_true, decide_false, Nat.zero_add, line_le, Nat.reduceAdd, Nat.reduceLeDiff, e1, oEq_int, e2, e3, endOf]
  · obtain ⟨d, w, S2, e2, e3, u2, hm⟩ := choose_val d1 (nulL.map D.str) (many := 10) rfl (by decide)
    obtain ⟨x, hx, rfl⟩ := of_strs hm
    refine ⟨true, x, S2, ?_, u1.trans h u2, by rw [if_pos rfl]; exact hx⟩
    rw [hd, if_pos rfl]
    unfold b__law_bad
    simp only [nulL, List.map_cons, List.map_nil] at e2
    simp only [ap_bin, ap_var, ap_c, ap_un, ap_cmp, ap_nil, ap_cons, ap_tru, ap_notB, ap_andB, ap_orB, ap_and, ap_or, ap_if, ap_no, ap_some, ap_sl, ap_tup, ap_lst, ap_call, ap_bm, ap_set, ap_expr, ap_ret, ap_retN, ap_pass, ap_brk, ap_cnt, ap_seq, ap_ifS, ap_fn, ap_gN, ap_gsN, ap_gsC, ap_gT, ap_asg, ap_gSb, ap_aug, ap_it, ap_rng1, ap_rng2, ap_enum, ap_zip, ap_for, ap_yes, R.bind_ok, R.bind_bad, R.at_ok, R.bind_exc, List.getElem?_cons_zero, List.getElem?_cons_succ, List.set_cons_zero, List.set_cons_succ, List.length_cons, List.length_nil, if_true, if_false, Bool.false_eq_true, Bool.not_true, Bool.not_false, Bool.true_and, Bool.false_and, decide_true, decide_false, Nat.zero_add, line_le, Nat.reduceAdd, Nat.reduceLeDiff, e1, oEq_int, c1, e2, e3, endOf]
theorem add_str {a : List Nat} {y : Str} {S : Hs} (h : a.length + y.cps.toList.length ≤ sizeLine) : oAdd (.str (tx a)) (.str y) S = .ok (.str (tx (a ++ y.cps.toList))) S := by
  conv => lhs; rw [tx_of y]
  exact add_tx h
structure W1 (x0 : Option D) (i j : Nat) (row : List Int) (sd : Int) (m : Int) (k : Nat) (l : Ls) (S : Hs) : Prop where
  dr : DrwA S i j row sd
  ex : ∃ (text : List Nat) (due : List D) (o4 : Option D), l = [x0, some (.ref i), some (.str (tx text)), some (.int m), o4, none, none, none, none, none, none] ∧ Qb text due ∧ due.length = k ∧ due.length ≤ text.length ∧ text.length ≤ 40 * k
theorem step1 {cA : Nat → Addr} {x0 : Option D} {m : Int} (k : Nat) (l : Ls) (S : Hs) (hk : k < 40) (h : W1 x0 i j row sd m k l S) : ∃ l' S', lb_law_0 cA (l.set 4 (some (.int (0 + (k : Int))))) S = .ok (.nx l') S' ∧ W1 x0 i j row sd m (k + 1) l' S' := by
  obtain ⟨dr, text, due, o4, rfl, hQ, hd, hdl, hl⟩ := h
  obtain ⟨x, S1, e1, u1, hx⟩ := good_at dr
  have d1 := u1.drw dr
  obtain ⟨y, S2, e2, u2, hy⟩ := between_at d1
  have g1 := good_ok x hx
  have g2 := bet_ok y hy
  simp only [Bool.and_eq_true, decide_eq_true_eq, List.any_eq_true] at g1 g2
  obtain ⟨⟨kind, _, hk2⟩, g1⟩ := g1
  obtain ⟨⟨g2, g3⟩, g4⟩ := g2
  have lx : x.cps.toList.length ≤ 20 := g1
  have ly : y.cps.toList.length ≤ 20 := g4
  have a1 : ∀ S, oAdd (.str (tx text)) (.str x) S = .ok (.str (tx (text ++ x.cps.toList))) S := fun S => add_str (line_le (by omega))
  have a2 : ∀ S, oAdd (.str (tx (text ++ x.cps.toList))) (.str y) S = .ok (.str (tx (text ++ x.cps.toList ++ y.cps.toList))) S := fun S => add_str (line_le (by simp only [List.length_append]; omega))
  refine ⟨[x0, some (.ref i), some (.str (tx (text ++ x.cps.toList ++ y.cps.toList))), some (.int m), some (.int (0 + (k : Int))), none, none, none, none, none, none], S2, ?_, u2.drw d1, text ++ x.cps.toList ++ y.cps.toList, due ++ [tokD kind x.cps.toList text], _, rfl, ?_, by simp [hd], ?_, ?_⟩
  · unfold lb_law_0
    simp only [ap_bin, ap_var, ap_c, ap_un, ap_cmp, ap_nil, ap_cons, ap_tru, ap_notB, ap_andB, ap_orB, ap_and, ap_or, ap_if, ap_no, ap_some, ap_sl, ap_tup, ap_lst, ap_call, ap_bm, ap_set, ap_expr, ap_ret, ap_retN, ap_pass, ap_brk, ap_cnt, ap_seq, ap_ifS, ap_fn, ap_gN, ap_gsN, ap_gsC, ap_gT, ap_asg, ap_gSb, ap_aug, ap_it, ap_rng1, ap_rng2, ap_enum, ap_zip, ap_for, ap_yes, R.bind_ok, R.bind_bad, R.at_ok, R.bind_exc, List.getElem?_cons_zero, List.getElem?_cons_succ, List.set_cons_zero, List.set_cons_succ, List.length_cons, List.length_nil, if_true, if_false, Bool.false_eq_true, Bool.not_true, Bool.not_false, Bool.true_and, Bool.false_and, decide_true, decide_false, Nat.zero_add, e1, a1, e2, a2]
  · refine hQ.step hk2 g2 fun rest => ?_
    cases hy2 : y.cps.toList with
    | nil => rw [hy2] at g3; cases g3
    | cons c r =>
      rw [hy2] at g3
      refine bnd_blank hk2 fun c' hc => ?_
      have : c = c' := by simpa using hc
      subst this
      simp only [Bool.or_eq_true, beq_iff_eq] at g3
      rcases g3 with g3 | g3
      · exact .inl g3
      · exact .inr (.inl g3)
  · have : 0 < y.cps.toList.length := by
      cases hy2 : y.cps.toList with
      | nil => rw [hy2] at g3; cases g3
      | cons c r => simp
    simp only [List.length_append, List.length_cons, List.length_nil]
    omega
  · simp only [List.length_append]
    omega
structure W2 (x0 x2 x3 x5 x6 x7 x8 x9 : Option D) (i j : Nat) (row : List Int) (sd : Int) (k : Nat) (l : Ls) (S : Hs) : Prop where
  dr : DrwA S i j row sd
  ex : ∃ (rest : List Nat) (o4 : Option D), l = [x0, some (.ref i), x2, x3, o4, x5, x6, x7, x8, x9, some (.str (tx rest))] ∧ (rest = [] ∨ rest.head? = some 10 ∨ rest.head? = some 32) ∧ rest.length ≤ 30 * k
def spL : List Str := [" ", "\n"]
theorem sp_ok : ∀ x ∈ spL, ((match x.cps.toList with | c :: _ => c == 10 || c == 32 | [] => false) && decide (x.length ≤ 2)) = true := by decide +kernel
theorem three_ok : ∀ x ∈ (["$", "02", "_"] : List Str), x.length ≤ 20 := by decide +kernel
theorem step2 {cA : Nat → Addr} {x0 x2 x3 x5 x6 x7 x8 x9 : Option D} (k : Nat) (l : Ls) (S : Hs) (hk : k < 4) (h : W2 x0 x2 x3 x5 x6 x7 x8 x9 i j row sd k l S) : ∃ l' S', lb_law_1 cA (l.set 4 (some (.int (0 + (k : Int))))) S = .ok (.nx l') S' ∧ W2 x0 x2 x3 x5 x6 x7 x8 x9 i j row sd (k + 1) l' S' := by
  obtain ⟨dr, rest, o4, rfl, hh, hl⟩ := h
  obtain ⟨d, v, S1, e1, f1, u1, hm⟩ := choose_val dr (spL.map D.str) (many := 2) rfl (by decide)
  obtain ⟨x, hx, rfl⟩ := of_strs hm
  have d1 := u1.drw dr
  obtain ⟨y, S2, e2, u2, hy⟩ := good_at d1
  have d2 := u2.drw d1
  obtain ⟨d, v3, S3, e3, f3, u3, hm3⟩ := choose_val d2 ((y :: ["$", "02", "_"]).map D.str) (many := 4) rfl (by decide)
  obtain ⟨z, hz, rfl⟩ := of_strs hm3
  have g1 := sp_ok x hx
  simp only [Bool.and_eq_true, decide_eq_true_eq] at g1
  obtain ⟨g1, g2⟩ := g1
  have lx : x.cps.toList.length ≤ 2 := g2
  have lz : z.cps.toList.length ≤ 20 := by
    rcases List.mem_cons.mp hz with rfl | hz
    · have := good_ok z hy
      simp only [Bool.and_eq_true, decide_eq_true_eq] at this
      exact this.2
    · exact three_ok z hz
  have a1 : ∀ S, oAdd (.str (tx rest)) (.str x) S = .ok (.str (tx (rest ++ x.cps.toList))) S := fun S => add_str (line_le (by omega))
  have a2 : ∀ S, oAdd (.str (tx (rest ++ x.cps.toList))) (.str z) S = .ok (.str (tx (rest ++ x.cps.toList ++ z.cps.toList))) S := fun S => add_str (line_le (by simp only [List.length_append]; omega))
  refine ⟨[x0, some (.ref i), x2, x3, some (.int (0 + (k : Int))), x5, x6, x7, x8, x9, some (.str (tx (rest ++ x.cps.toList ++ z.cps.toList)))], S3, ?_, u3.drw d2, rest ++ x.cps.toList ++ z.cps.toList, _, rfl, ?_, ?_⟩
  · unfold lb_law_1
    simp only [spL, List.map_cons, List.map_nil] at e1
    simp only [List.map_cons, List.map_nil] at e3
    simp only [ap_bin, ap_var, ap_c, ap_un, ap_cmp, ap_nil, ap_cons, ap_tru, ap_notB, ap_andB, ap_orB, ap_and, ap_or, ap_if, ap_no, ap_some, ap_sl, ap_tup, ap_lst, ap_call, ap_bm, ap_set, ap_expr, ap_ret, ap_retN, ap_pass, ap_brk, ap_cnt, ap_seq, ap_ifS, ap_fn, ap_gN, ap_gsN, ap_gsC, ap_gT, ap_asg, ap_gSb, ap_aug, ap_it, ap_rng1, ap_rng2, ap_enum, ap_zip, ap_for, ap_yes, R.bind_ok, R.bind_bad, R.at_ok, R.bind_exc, List.getElem?_cons_zero, List.getElem?_cons_succ, List.set_cons_zero, List.set_cons_succ, List.length_cons, List.length_nil, if_true, if_false, Bool.false_eq_true, Bool.not_true, Bool.not_false, Bool.true_and, Bool.false_and, decide_true, decide_false, Nat.zero_add, line_le, Nat.reduceAdd, Nat.reduceLeDiff, e1, f1, a1, e2, e3, f3, a2]
  · right
    cases rest with
    | nil =>
      cases hx2 : x.cps.toList with
      | nil => rw [hx2] at g1; cases g1
      | cons c r =>
        rw [hx2] at g1
        simp only [Bool.or_eq_true, beq_iff_eq] at g1
        simpa using g1
    | cons c r =>
      rcases hh with hh | hh
      · cases hh
      · simpa using hh
  · simp only [List.length_append]
    omega
theorem nlS : (("\n" : Str)) = ⟨#[10]⟩ := by decide +kernel
theorem cnt_tx (cs : List Nat) : Txt.count (tx cs) "\n" = (cs.count 10 : Int) := by rw [nlS]; exact count_tx cs 10
theorem rf_tx (cs : List Nat) : Txt.rfind (tx cs) "\n" = (behC 10 cs 0 0 : Int) - 1 := by rw [nlS]; exact rfind_tx cs 10
theorem behC_le (c : Nat) : ∀ (xs : List Nat) (a e : Nat), e ≤ a → behC c xs a e ≤ a + xs.length
  | [], a, e, h => by simp only [behC, List.length_nil]; omega
  | x :: r, a, e, h => by
    have := behC_le c r (a + 1) (if x = c then a + 1 else e) (by split <;> omega)
    simp only [behC, List.length_cons]
    omega
structure W3 (x0 : Option D) (i j : Nat) (row : List Int) (sd : Int) (text : List Nat) (m : Int) (k : Nat) (l : Ls) (S : Hs) : Prop where
  dr : DrwA S i j row sd
  ex : ∃ (o4 o5 o6 o7 o8 o9 o10 : Option D), l = [x0, some (.ref i), some (.str (tx text)), some (.int m), o4, o5, o6, o7, o8, o9, o10]
theorem ne_same {s : Str} (hs : PyData.strOk s = true) {r c : Int} {S : Hs} : oNe (.tup [.str s, .int r, .int c, .bl false, .bl true]) (.tup [.str s, .int r, .int c, .bl false, .bl true]) S = .ok (.bl false) S := by
  have hp : D.plains [.str s, .int r, .int c, .bl false, .bl true] = true := by simp [D.plains, D.plain, hs]
  have h := pd_tup (S := S) hp (by simp [D.toPs, D.toP, PyData.depthAll, PyData.depth])
  have h4 := cEqD_same (S := S) rfl h.1 h.1 h.2
  simp only [oNe, h4]
  rfl
theorem step3 {cA : Nat → Addr} (hD : Dst 0 5 cA) {x0 : Option D} {m : Int} {text : List Nat} {due : List D} (hQ : Qb text due) (hdl : due.length ≤ text.length) (hl : text.length ≤ 2000) (k : Nat) (l : Ls) (S : Hs) (hk : k < 12) (h : W3 x0 i j row sd text m k l S) :
    ∃ l' S', lb_law_2 cA (l.set 5 (some (.int (0 + (k : Int))))) S = .ok (.nx l') S' ∧ W3 x0 i j row sd text m (k + 1) l' S' := by
  obtain ⟨dr, o4, o5, o6, o7, o8, o9, o10, rfl⟩ := h
  obtain ⟨num, w, S1, e1, u1, hw⟩ := bad_at dr
  have d1 := u1.drw dr
  obtain ⟨v, S2, e2, u2, v0, v4⟩ := pick_ok d1 (many := 4) (by decide)
  have d2 := u2.drw d1
  have hv : v = ((v.toNat : Nat) : Int) := by omega
  generalize v.toNat = n at hv
  subst hv
  have hrng : oRng1 [.int (n : Int)] S2 = .ok (.rng 0 n) S2 := by
    have := rng1 (n := (n : Int)) S2 (by omega) (by omega)
    simpa using this
  have hc := behC_le 10 text 0 0 (by omega)
  have hcn := List.count_le_length (a := 10) (l := text)
  obtain ⟨l', S3, e3, hI⟩ := range_loop (lo := 0) (n := n) (i := 4) (b := lb_law_1 cA) (W2 x0 (some (.str (tx text))) (some (.int m)) (some (.int (0 + (k : Int)))) (some (.str (if num = true then "number" else "character"))) (some (.str w)) (some (.int ((text.count 10 : Int) + 1))) (some (.int ((text.length : Int) - (behC 10 text 0 0 : Int) + 1))) i j row sd)
    (fun k l S' hk h => step2 k l S' (by omega) h) n 0 _ S2 (by omega) ⟨d2, [], o4, rfl, .inl rfl, by simp⟩
  obtain ⟨d3, rest, o4', rfl, hh, hrl⟩ := hI
  have hwl : w.cps.toList.length ≤ 25 ∧ headB w.cps.toList = true ∧ (if num = true then badN w.cps.toList = true else badC w.cps.toList rest.head? = true) := by
    cases num with
    | true =>
      rw [if_pos rfl] at hw
      have := nul_ok w hw
      simp only [Bool.and_eq_true, decide_eq_true_eq] at this
      exact ⟨this.2, this.1.2, by rw [if_pos rfl]; exact this.1.1⟩
    | false =>
      rw [if_neg Bool.false_ne_true] at hw
      have := sig_ok w hw
      simp only [Bool.and_eq_true, decide_eq_true_eq] at this
      refine ⟨this.2, this.1.2, ?_⟩
      rw [if_neg Bool.false_ne_true]
      rcases hh with rfl | hh | hh
      · exact this.1.1.1.1
      · rw [hh]; exact this.1.1.1.2
      · rw [hh]; exact this.1.1.2
  obtain ⟨w1, w2, w3⟩ := hwl
  have a1 : ∀ S, oAdd (.str (tx text)) (.str w) S = .ok (.str (tx (text ++ w.cps.toList))) S := fun S => add_str (line_le (by omega))
  have a2 : ∀ S, oAdd (.str (tx (text ++ w.cps.toList))) (.str (tx rest)) S = .ok (.str (tx (text ++ w.cps.toList ++ rest))) S := fun S => add_tx (line_le (by simp only [List.length_append]; omega))
  cases hxv : w.cps.toList with
  | nil => rw [hxv] at w2; cases w2
  | cons x v =>
    have hx : x ≠ 10 ∧ x ≠ 32 ∧ x ≠ 35 := by
      rw [hxv] at w2
      simp only [headB, Bool.and_eq_true, Bool.not_eq_true', beq_eq_false_iff_ne] at w2
      exact ⟨w2.1.1, w2.1.2, w2.2⟩
    have hn1 : isWs 10 = false := by decide +kernel
    have hn2 : isWs 32 = false := by decide +kernel
    have ht := fun S => told_bad (S := S) hD (w := w.cps.toList) (rest := rest) (num := num) (r := (text.count 10 : Int) + 1) (c := (text.length : Int) - (behC 10 text 0 0 : Int) + 1) hQ (by simp only [List.length_append]; omega) hdl x v hxv hx
      (by
        cases num with
        | true =>
          rw [if_pos rfl] at w3 ⊢
          refine ⟨w3, by omega, fun y hy => ?_⟩
          rcases hh with rfl | hh | hh
          · cases hy
          · rw [hh] at hy; cases hy; exact hn1
          · rw [hh] at hy; cases hy; exact hn2
        | false =>
          rw [if_neg Bool.false_ne_true] at w3 ⊢
          exact w3) rfl rfl (by omega) (by omega) (by omega) (by omega)
    have hce : (text.length : Int) - ((behC 10 text 0 0 : Int) - 1) = (text.length : Int) - (behC 10 text 0 0 : Int) + 1 := by omega
    have hlt : ∀ S, bLen [.str (tx text)] S = .ok (.int (text.length : Int)) S := fun S => len_tx (line_le (by omega))
    refine ⟨[x0, some (.ref i), some (.str (tx text)), some (.int m), o4', some (.int (0 + (k : Int))), some (.str (if num = true then "number" else "character")), some (.str w), some (.int ((text.count 10 : Int) + 1)), some (.int ((text.length : Int) - (behC 10 text 0 0 : Int) + 1)), some (.str (tx rest))], S3 ++ [.lst due], ?_, ?_, _, _, _, _, _, _, _, rfl⟩
    · have hso : PyData.strOk (if num = true then "number" else "character" : Str) = true := by cases num <;> decide +kernel
      unfold lb_law_2
      have e3' : fLoop (.rng 0 n) (gN 4) (lb_law_1 cA) 0 [x0, some (.ref i), some (.str (tx text)), some (.int m), o4, some (.int (0 + (k : Int))), some (.str (if num = true then "number" else "character")), some (.str w), some (.int ((text.count 10 : Int) + 1)), some (.int ((text.length : Int) - (behC 10 text 0 0 : Int) + 1)), some (.str "")] S2 = _ := e3
      simp only [ap_bin, ap_var, ap_c, ap_un, ap_cmp, ap_nil, ap_cons, ap_tru, ap_notB, ap_andB, ap_orB, ap_and, ap_or, ap_if, ap_no, ap_some, ap_sl, ap_tup, ap_lst, ap_call, ap_bm, ap_set, ap_expr, ap_ret, ap_retN, ap_pass, ap_brk, ap_cnt, ap_seq, ap_ifS, ap_fn, ap_gN, ap_gsN, ap_gsC, ap_gT, ap_asg, ap_gSb, ap_aug, ap_it, ap_rng1, ap_rng2, ap_enum, ap_zip, ap_for, ap_yes, R.bind_ok, R.bind_bad, R.at_ok, R.bind_exc, List.getElem?_cons_zero, List.getElem?_cons_succ, List.set_cons_zero, List.set_cons_succ, List.length_cons, List.length_nil, if_true, if_false, Bool.false_eq_true, Bool.not_true, Bool.not_false, Bool.true_and, Bool.false_and, decide_true, decide_false, Nat.zero_add, e1, hasTy, oCount, oRfind, cnt_tx, rf_tx, hlt, oAdd_int, oSub_int, e2, hrng, e3', a1, a2, ht, line_le, Nat.reduceAdd, Nat.reduceLeDiff, hce, ne_same hso]
    · exact (Upd.new d3).drw d3
end
theorem ne_tok {n : Int} {S : Hs} : oNe (.tup [.str "tokens", .int n]) (.tup [.str "tokens", .int n]) S = .ok (.bl false) S := by
  have hs : PyData.strOk ("tokens" : Str) = true := by decide +kernel
  have hp : D.plains [.str "tokens", .int n] = true := by simp [D.plains, D.plain, hs]
  have h := pd_tup (S := S) hp (by simp [D.toPs, D.toP, PyData.depthAll, PyData.depth])
  have h4 := cEqD_same (S := S) rfl h.1 h.1 h.2
  simp only [oNe, h4]
  rfl
theorem law_true : ∀ cA, Dst 0 5 cA → LawTrue (m_law cA) := by
  intro cA hD ns x S hn _ _ _ _ hx _
  obtain ⟨row, hr, e1⟩ := stream_true (most := 200) hx hn (by decide)
  have e1' : m__law_stream [x, .int 200] S = .ok (.ref (S.length + 1)) (S ++ [.lst (row.map D.int), drawsO S.length 0 row.length]) := e1
  have hd1 : DrwA (S ++ [.lst (row.map D.int), drawsO S.length 0 row.length]) (S.length + 1) S.length row row.length :=
    ⟨0, by simp, by simp, by omega, by omega⟩
  generalize hS1 : S ++ [.lst (row.map D.int), drawsO S.length 0 row.length] = S1 at e1' hd1
  obtain ⟨v, S2, e2, u2, v0, v31⟩ := pick_ok hd1 (many := 31) (by decide)
  have d2 := u2.drw hd1
  have hv : v = ((v.toNat : Nat) : Int) := by omega
  generalize v.toNat = n at hv
  subst hv
  have hrng : oRng1 [.int (n : Int)] S2 = .ok (.rng 0 n) S2 := by
    have := rng1 (n := (n : Int)) S2 (by omega) (by omega)
    simpa using this
  obtain ⟨l', S3, e3, hI⟩ := range_loop (lo := 0) (n := n) (i := 4) (b := lb_law_0 cA) (W1 (some x) (S.length + 1) S.length row row.length (n : Int))
    (fun k l S' hk h => step1 k l S' (by omega) h) n 0 _ S2 (by omega) ⟨d2, [], [], none, rfl, Qb.nil, rfl, by simp, by simp⟩
  obtain ⟨d3, text, due, o4, rfl, hQ, hdn, hdl, htl⟩ := hI
  obtain ⟨S4, e4, g, rfl⟩ := told_ok (cA := cA) (S := S3) hQ (by omega) (by omega)
  have d4 : DrwA (S3 ++ g) (S.length + 1) S.length row row.length := (Upd.new d3).drw d3
  have hrng2 : oRng1 [.int 12] (S3 ++ g) = .ok (.rng 0 12) (S3 ++ g) := by
    have := rng1 (n := 12) (S3 ++ g) (by omega) (by omega)
    simpa using this
  obtain ⟨l', S5, e5, hI⟩ := range_loop (lo := 0) (n := 12) (i := 5) (b := lb_law_2 cA) (W3 (some x) (S.length + 1) S.length row row.length text (n : Int))
    (fun k l S' hk h => step3 hD hQ hdl (by omega) k l S' hk h) 12 0 _ (S3 ++ g) (by omega) ⟨d4, o4, none, none, none, none, none, none, rfl⟩
  obtain ⟨d5, q4, q5, q6, q7, q8, q9, q10, rfl⟩ := hI
  refine ⟨S5, ?_⟩
  have hd : m_law cA [x] S = endOf (b_law cA [some x, none, none, none, none, none, none, none, none, none, none] S) := rfl
  rw [hd]
  unfold b_law
  have e3' : fLoop (.rng 0 n) (gN 4) (lb_law_0 cA) 0 [some x, some (.ref (S.length + 1)), some (.str ""), some (.int (n : Int)), none, none, none, none, none, none, none] S2 = _ := e3
  have hdn' : (due.length : Int) = (n : Int) := by omega
  rw [hdn'] at e4
  simp only [ap_bin, ap_var, ap_c, ap_un, ap_cmp, ap_nil, ap_cons, ap_tru, ap_notB, ap_andB, ap_orB, ap_and, ap_or, ap_if, ap_no, ap_some, ap_sl, ap_tup, ap_lst, ap_call, ap_bm, ap_set, ap_expr, ap_ret, ap_retN, ap_pass, ap_brk, ap_cnt, ap_seq, ap_ifS, ap_fn, ap_gN, ap_gsN, ap_gsC, ap_gT, ap_asg, ap_gSb, ap_aug, ap_it, ap_rng1, ap_rng2, ap_enum, ap_zip, ap_for, ap_yes, R.bind_ok, R.bind_bad, R.at_ok, R.bind_exc, List.getElem?_cons_zero, List.getElem?_cons_succ, List.set_cons_zero, List.set_cons_succ, List.length_cons, List.length_nil, if_true, if_false, Bool.false_eq_true, Bool.not_true, Bool.not_false, Bool.true_and, Bool.false_and, decide_true, decide_false, Nat.zero_add, e1', e2, hrng, e3', e4, oAdd_int, line_le, Nat.reduceAdd, Nat.reduceLeDiff, ne_tok, hrng2, e5, endOf]
end GK01
set_option Elab.async false
set_option linter.all false
set_option maxRecDepth 100000
set_option maxHeartbeats 4000000
namespace GK01
open PySem PySem.Spec L2 Ly
open PyProof.Rows hiding St
theorem all_mk {l : PySem.W.OpenLaw} {w : World} {K : PySem.W.Frag} {h : Heap} {mg : Str → Option Value} {fa : Addr} (X : K.In h) (G : h.Ns mainGlobals mg) (hfa : mg "law" = some (.ref fa))
    {k_ClockError : Addr} {k_TextError : Addr} {k_BadCharacter : Addr} {k_BadNumber : Addr} {k_Unexpected : Addr} {f_TextError_ini : Addr} {fd_TextError_ini : FuncData} {f__law_mix : Addr} {od__law_mix an__law_mix : Option Addr} {sl__law_mix : Array (Option Value)} {oc__law_mix kV__law_mix dc__law_mix pm__law_mix cd__law_mix ct__law_mix : Value} {f__law_stream : Addr} {od__law_stream an__law_stream : Option Addr} {sl__law_stream : Array (Option Value)} {oc__law_stream kV__law_stream dc__law_stream pm__law_stream cd__law_stream ct__law_stream : Value} {f__law_pick : Addr} {od__law_pick an__law_pick : Option Addr} {sl__law_pick : Array (Option Value)} {oc__law_pick kV__law_pick dc__law_pick pm__law_pick cd__law_pick ct__law_pick : Value} {f__comment_end : Addr} {od__comment_end an__comment_end : Option Addr} {sl__comment_end : Array (Option Value)} {oc__comment_end kV__comment_end dc__comment_end pm__comment_end cd__comment_end ct__comment_end : Value} {f__word : Addr} {od__word an__word : Option Addr} {sl__word : Array (Option Value)} {oc__word kV__word dc__word pm__word cd__word ct__word : Value} {f__is_number : Addr} {od__is_number an__is_number : Option Addr} {sl__is_number : Array (Option Value)} {oc__is_number kV__is_number dc__is_number pm__is_number cd__is_number ct__is_number : Value} {f__token : Addr} {od__token an__token : Option Addr} {sl__token : Array (Option Value)} {oc__token kV__token dc__token pm__token cd__token ct__token : Value} {f_tokens : Addr} {od_tokens an_tokens : Option Addr} {sl_tokens : Array (Option Value)} {oc_tokens kV_tokens dc_tokens pm_tokens cd_tokens ct_tokens : Value} {f__law_told : Addr} {od__law_told an__law_told : Option Addr} {sl__law_told : Array (Option Value)} {oc__law_told kV__law_told dc__law_told pm__law_told cd__law_told ct__law_told : Value} {f__law_bad : Addr} {od__law_bad an__law_bad : Option Addr} {sl__law_bad : Array (Option Value)} {oc__law_bad kV__law_bad dc__law_bad pm__law_bad cd__law_bad ct__law_bad : Value} {f__law_between : Addr} {od__law_between an__law_between : Option Addr} {sl__law_between : Array (Option Value)} {oc__law_between kV__law_between dc__law_between pm__law_between cd__law_between ct__law_between : Value} {f__law_good : Addr} {od__law_good an__law_good : Option Addr} {sl__law_good : Array (Option Value)} {oc__law_good kV__law_good dc__law_good pm__law_good cd__law_good ct__law_good : Value} {f_law : Addr} {od_law an_law : Option Addr} {sl_law : Array (Option Value)} {oc_law kV_law dc_law pm_law cd_law ct_law : Value} {u_WORD_SIGNS : Value} {u_MOST_DIGITS : Value} {u_DIGITS : Value} {u_GREATEST_WORD : Value} {u_LETTERS : Value} {ad_KEYWORDS : Addr} {cd_KEYWORDS : Option Addr} {n_KEYWORDS : Nat} {sl_KEYWORDS : Array (Option Value)} {its_KEYWORDS : Array Value} {ad_LONG_SIGNS : Addr} {cd_LONG_SIGNS : Option Addr} {n_LONG_SIGNS : Nat} {sl_LONG_SIGNS : Array (Option Value)} {its_LONG_SIGNS : Array Value} {ad_SHORT_SIGNS : Addr} {cd_SHORT_SIGNS : Option Addr} {n_SHORT_SIGNS : Nat} {sl_SHORT_SIGNS : Array (Option Value)} {its_SHORT_SIGNS : Array Value}
    (a_ClockError : PySem.W.nsIn K mainGlobals "ClockError" = some (some (.ref k_ClockError)))
    (a_TextError : PySem.W.nsIn K mainGlobals "TextError" = some (some (.ref k_TextError)))
    (a_BadCharacter : PySem.W.nsIn K mainGlobals "BadCharacter" = some (some (.ref k_BadCharacter)))
    (a_BadNumber : PySem.W.nsIn K mainGlobals "BadNumber" = some (some (.ref k_BadNumber)))
    (a_Unexpected : PySem.W.nsIn K mainGlobals "Unexpected" = some (some (.ref k_Unexpected)))
    (ini_TextError : IniAt K l.prog mg "TextError.__init__" s_TextError_ini (SELF :: ["row", "column"]) f_TextError_ini k_TextError fd_TextError_ini)
    (bI_TextError : Binds K fd_TextError_ini (SELF :: ["row", "column"]) [])
    (mk_BadCharacter : MkE K k_BadCharacter f_TextError_ini k_TextError ["row", "column"])
    (mk_BadNumber : MkE K k_BadNumber f_TextError_ini k_TextError ["row", "column"])
    (T_BadCharacter : ∀ q ∈ ([(k_BadCharacter, true), (k_BadNumber, false)] : Tb), PySem.W.exmOne K (.ref q.1) (.ref k_BadCharacter) = some q.2)
    (T_BadNumber : ∀ q ∈ ([(k_BadCharacter, false), (k_BadNumber, true)] : Tb), PySem.W.exmOne K (.ref q.1) (.ref k_BadNumber) = some q.2)
    (I_TextError : ∀ q ∈ ([(k_BadCharacter, true), (k_BadNumber, true)] : Tb), ExcC K q.1 ∧ PySem.W.kitOne K (.ref q.1) (.ref k_TextError) = some q.2)
    (I_ClockError : ∀ q ∈ ([(k_BadCharacter, true), (k_BadNumber, true)] : Tb), ExcC K q.1 ∧ PySem.W.kitOne K (.ref q.1) (.ref k_ClockError) = some q.2)
    (I_Unexpected : ∀ q ∈ ([(k_BadCharacter, false), (k_BadNumber, false)] : Tb), ExcC K q.1 ∧ PySem.W.kitOne K (.ref q.1) (.ref k_Unexpected) = some q.2)
    (J_BadNumber__Unexpected : ∀ q ∈ ([(k_BadCharacter, false), (k_BadNumber, true)] : Tb), ExcC K q.1 ∧ PySem.W.kitAny K (.ref q.1) ([k_BadNumber, k_Unexpected].map Value.ref) = some q.2)
    (Q_BadCharacter_column : ∀ q ∈ ([(k_BadCharacter, true), (k_BadNumber, false)] : Tb), q.2 = true → XfC K q.1 ∧ PySem.W.findIn K (.ref q.1) "column" = some none)
    (Q_BadCharacter_row : ∀ q ∈ ([(k_BadCharacter, true), (k_BadNumber, false)] : Tb), q.2 = true → XfC K q.1 ∧ PySem.W.findIn K (.ref q.1) "row" = some none)
    (Q_BadNumber_column : ∀ q ∈ ([(k_BadCharacter, false), (k_BadNumber, true)] : Tb), q.2 = true → XfC K q.1 ∧ PySem.W.findIn K (.ref q.1) "column" = some none)
    (Q_BadNumber_row : ∀ q ∈ ([(k_BadCharacter, false), (k_BadNumber, true)] : Tb), q.2 = true → XfC K q.1 ∧ PySem.W.findIn K (.ref q.1) "row" = some none)
    (a__law_mix : PySem.W.nsIn K mainGlobals "_law_mix" = some (some (.ref f__law_mix)))
    (l__law_mix : K.lookup f__law_mix = some ⟨oc__law_mix, od__law_mix, .func (PySem.W.fnOf "_law_mix" "_law_mix" (defArgs s__law_mix) (defBody s__law_mix) (defScope s__law_mix) .none kV__law_mix dc__law_mix pm__law_mix an__law_mix cd__law_mix ct__law_mix), sl__law_mix⟩)
    (c__law_mix : PySem.W.codeIn K cd__law_mix "_law_mix" = true)
    (k__law_mix : PySem.W.keepIn K (.ref f__law_mix) = true)
    (a__law_stream : PySem.W.nsIn K mainGlobals "_law_stream" = some (some (.ref f__law_stream)))
    (l__law_stream : K.lookup f__law_stream = some ⟨oc__law_stream, od__law_stream, .func (PySem.W.fnOf "_law_stream" "_law_stream" (defArgs s__law_stream) (defBody s__law_stream) (defScope s__law_stream) .none kV__law_stream dc__law_stream pm__law_stream an__law_stream cd__law_stream ct__law_stream), sl__law_stream⟩)
    (c__law_stream : PySem.W.codeIn K cd__law_stream "_law_stream" = true)
    (k__law_stream : PySem.W.keepIn K (.ref f__law_stream) = true)
    (a__law_pick : PySem.W.nsIn K mainGlobals "_law_pick" = some (some (.ref f__law_pick)))
    (l__law_pick : K.lookup f__law_pick = some ⟨oc__law_pick, od__law_pick, .func (PySem.W.fnOf "_law_pick" "_law_pick" (defArgs s__law_pick) (defBody s__law_pick) (defScope s__law_pick) .none kV__law_pick dc__law_pick pm__law_pick an__law_pick cd__law_pick ct__law_pick), sl__law_pick⟩)
    (c__law_pick : PySem.W.codeIn K cd__law_pick "_law_pick" = true)
    (k__law_pick : PySem.W.keepIn K (.ref f__law_pick) = true)
    (a__comment_end : PySem.W.nsIn K mainGlobals "_comment_end" = some (some (.ref f__comment_end)))
    (l__comment_end : K.lookup f__comment_end = some ⟨oc__comment_end, od__comment_end, .func (PySem.W.fnOf "_comment_end" "_comment_end" (defArgs s__comment_end) (defBody s__comment_end) (defScope s__comment_end) .none kV__comment_end dc__comment_end pm__comment_end an__comment_end cd__comment_end ct__comment_end), sl__comment_end⟩)
    (c__comment_end : PySem.W.codeIn K cd__comment_end "_comment_end" = true)
    (k__comment_end : PySem.W.keepIn K (.ref f__comment_end) = true)
    (a__word : PySem.W.nsIn K mainGlobals "_word" = some (some (.ref f__word)))
    (l__word : K.lookup f__word = some ⟨oc__word, od__word, .func (PySem.W.fnOf "_word" "_word" (defArgs s__word) (defBody s__word) (defScope s__word) .none kV__word dc__word pm__word an__word cd__word ct__word), sl__word⟩)
    (c__word : PySem.W.codeIn K cd__word "_word" = true)
    (k__word : PySem.W.keepIn K (.ref f__word) = true)
    (a__is_number : PySem.W.nsIn K mainGlobals "_is_number" = some (some (.ref f__is_number)))
    (l__is_number : K.lookup f__is_number = some ⟨oc__is_number, od__is_number, .func (PySem.W.fnOf "_is_number" "_is_number" (defArgs s__is_number) (defBody s__is_number) (defScope s__is_number) .none kV__is_number dc__is_number pm__is_number an__is_number cd__is_number ct__is_number), sl__is_number⟩)
    (c__is_number : PySem.W.codeIn K cd__is_number "_is_number" = true)
    (k__is_number : PySem.W.keepIn K (.ref f__is_number) = true)
    (a__token : PySem.W.nsIn K mainGlobals "_token" = some (some (.ref f__token)))
    (l__token : K.lookup f__token = some ⟨oc__token, od__token, .func (PySem.W.fnOf "_token" "_token" (defArgs s__token) (defBody s__token) (defScope s__token) .none kV__token dc__token pm__token an__token cd__token ct__token), sl__token⟩)
    (c__token : PySem.W.codeIn K cd__token "_token" = true)
    (k__token : PySem.W.keepIn K (.ref f__token) = true)
    (a_tokens : PySem.W.nsIn K mainGlobals "tokens" = some (some (.ref f_tokens)))
    (l_tokens : K.lookup f_tokens = some ⟨oc_tokens, od_tokens, .func (PySem.W.fnOf "tokens" "tokens" (defArgs s_tokens) (defBody s_tokens) (defScope s_tokens) .none kV_tokens dc_tokens pm_tokens an_tokens cd_tokens ct_tokens), sl_tokens⟩)
    (c_tokens : PySem.W.codeIn K cd_tokens "tokens" = true)
    (k_tokens : PySem.W.keepIn K (.ref f_tokens) = true)
    (a__law_told : PySem.W.nsIn K mainGlobals "_law_told" = some (some (.ref f__law_told)))
    (l__law_told : K.lookup f__law_told = some ⟨oc__law_told, od__law_told, .func (PySem.W.fnOf "_law_told" "_law_told" (defArgs s__law_told) (defBody s__law_told) (defScope s__law_told) .none kV__law_told dc__law_told pm__law_told an__law_told cd__law_told ct__law_told), sl__law_told⟩)
    (c__law_told : PySem.W.codeIn K cd__law_told "_law_told" = true)
    (k__law_told : PySem.W.keepIn K (.ref f__law_told) = true)
    (a__law_bad : PySem.W.nsIn K mainGlobals "_law_bad" = some (some (.ref f__law_bad)))
    (l__law_bad : K.lookup f__law_bad = some ⟨oc__law_bad, od__law_bad, .func (PySem.W.fnOf "_law_bad" "_law_bad" (defArgs s__law_bad) (defBody s__law_bad) (defScope s__law_bad) .none kV__law_bad dc__law_bad pm__law_bad an__law_bad cd__law_bad ct__law_bad), sl__law_bad⟩)
    (c__law_bad : PySem.W.codeIn K cd__law_bad "_law_bad" = true)
    (k__law_bad : PySem.W.keepIn K (.ref f__law_bad) = true)
    (a__law_between : PySem.W.nsIn K mainGlobals "_law_between" = some (some (.ref f__law_between)))
    (l__law_between : K.lookup f__law_between = some ⟨oc__law_between, od__law_between, .func (PySem.W.fnOf "_law_between" "_law_between" (defArgs s__law_between) (defBody s__law_between) (defScope s__law_between) .none kV__law_between dc__law_between pm__law_between an__law_between cd__law_between ct__law_between), sl__law_between⟩)
    (c__law_between : PySem.W.codeIn K cd__law_between "_law_between" = true)
    (k__law_between : PySem.W.keepIn K (.ref f__law_between) = true)
    (a__law_good : PySem.W.nsIn K mainGlobals "_law_good" = some (some (.ref f__law_good)))
    (l__law_good : K.lookup f__law_good = some ⟨oc__law_good, od__law_good, .func (PySem.W.fnOf "_law_good" "_law_good" (defArgs s__law_good) (defBody s__law_good) (defScope s__law_good) .none kV__law_good dc__law_good pm__law_good an__law_good cd__law_good ct__law_good), sl__law_good⟩)
    (c__law_good : PySem.W.codeIn K cd__law_good "_law_good" = true)
    (k__law_good : PySem.W.keepIn K (.ref f__law_good) = true)
    (a_law : PySem.W.nsIn K mainGlobals "law" = some (some (.ref f_law)))
    (l_law : K.lookup f_law = some ⟨oc_law, od_law, .func (PySem.W.fnOf "law" "law" (defArgs s_law) (defBody s_law) (defScope s_law) .none kV_law dc_law pm_law an_law cd_law ct_law), sl_law⟩)
    (c_law : PySem.W.codeIn K cd_law "law" = true)
    (k_law : PySem.W.keepIn K (.ref f_law) = true)
    (a_WORD_SIGNS : PySem.W.nsIn K mainGlobals "WORD_SIGNS" = some (some u_WORD_SIGNS))
    (t_WORD_SIGNS : absV u_WORD_SIGNS = some (.str "_0123456789abcdefghijklmnopqrstuvwxyzABCDEFGHIJKLMNOPQRSTUVWXYZ"))
    (a_MOST_DIGITS : PySem.W.nsIn K mainGlobals "MOST_DIGITS" = some (some u_MOST_DIGITS))
    (t_MOST_DIGITS : absV u_MOST_DIGITS = some (.int 10))
    (a_DIGITS : PySem.W.nsIn K mainGlobals "DIGITS" = some (some u_DIGITS))
    (t_DIGITS : absV u_DIGITS = some (.str "0123456789"))
    (a_GREATEST_WORD : PySem.W.nsIn K mainGlobals "GREATEST_WORD" = some (some u_GREATEST_WORD))
    (t_GREATEST_WORD : absV u_GREATEST_WORD = some (.int 4294967295))
    (a_LETTERS : PySem.W.nsIn K mainGlobals "LETTERS" = some (some u_LETTERS))
    (t_LETTERS : absV u_LETTERS = some (.str "abcdefghijklmnopqrstuvwxyzABCDEFGHIJKLMNOPQRSTUVWXYZ"))
    (a_KEYWORDS : PySem.W.nsIn K mainGlobals "KEYWORDS" = some (some (.ref ad_KEYWORDS)))
    (l_KEYWORDS : K.lookup ad_KEYWORDS = some ⟨.type "tuple", cd_KEYWORDS, .seq its_KEYWORDS n_KEYWORDS, sl_KEYWORDS⟩)
    (t_KEYWORDS : its_KEYWORDS.toList.map absV = ([.str "public", .str "secret", .str "array", .str "fn", .str "main", .str "return", .str "if", .str "else", .str "for", .str "to", .str "max", .str "out", .str "div", .str "mod"] : List D).map flatC)
    (a_LONG_SIGNS : PySem.W.nsIn K mainGlobals "LONG_SIGNS" = some (some (.ref ad_LONG_SIGNS)))
    (l_LONG_SIGNS : K.lookup ad_LONG_SIGNS = some ⟨.type "tuple", cd_LONG_SIGNS, .seq its_LONG_SIGNS n_LONG_SIGNS, sl_LONG_SIGNS⟩)
    (t_LONG_SIGNS : its_LONG_SIGNS.toList.map absV = ([.str "<=", .str "<<", .str ">>", .str "=="] : List D).map flatC)
    (a_SHORT_SIGNS : PySem.W.nsIn K mainGlobals "SHORT_SIGNS" = some (some (.ref ad_SHORT_SIGNS)))
    (l_SHORT_SIGNS : K.lookup ad_SHORT_SIGNS = some ⟨.type "tuple", cd_SHORT_SIGNS, .seq its_SHORT_SIGNS n_SHORT_SIGNS, sl_SHORT_SIGNS⟩)
    (t_SHORT_SIGNS : its_SHORT_SIGNS.toList.map absV = ([.str "{", .str "}", .str "(", .str ")", .str "[", .str "]", .str ",", .str ";", .str "=", .str "+", .str "-", .str "*", .str "&", .str "|", .str "^", .str "!", .str "?", .str ":", .str "<"] : List D).map flatC)
    (u_dst : (([k_ClockError, k_TextError, k_BadCharacter, k_BadNumber, k_Unexpected] : List Addr).drop 0 |>.take (5 - 0)).Nodup)
    (z_int : PySem.W.nsIn K mainGlobals "int" = some none)
    (z_range : PySem.W.nsIn K mainGlobals "range" = some none)
    (z_min : PySem.W.nsIn K mainGlobals "min" = some none)
    (z_len : PySem.W.nsIn K mainGlobals "len" = some none)
    (z_isinstance : PySem.W.nsIn K mainGlobals "isinstance" = some none) :
    ∃ fd : FuncData, (∀ (s : Shared) (v : Value), BindsTo s fd ⟨[v], []⟩ [("script", v)]) ∧ ∀ base : Heap, K.In base → base.Ns mainGlobals mg → FnOk l.prog w K mg base (L2.CX l.prog w) 6 fa fd ["script"] (spY K 0 5 1 (fun cA => m_law cA)) := by
  have e := hfa.symm.trans (PySem.W.mg_of X G a_law)
  cases e
  have F__law_mix := fun_mk (st := s__law_mix) l__law_mix c__law_mix k__law_mix
  have D__law_mix : DefAt K mg "_law_mix" s__law_mix ["cell", "k"] _ _ := ⟨F__law_mix, PySem.W.mg_of X G a__law_mix, F__law_mix.binds fun _ _ _ _ _ _ us hl => match us, hl with | [_, _], _ => rfl⟩
  have F__law_stream := fun_mk (st := s__law_stream) l__law_stream c__law_stream k__law_stream
  have D__law_stream : DefAt K mg "_law_stream" s__law_stream ["script", "most"] _ _ := ⟨F__law_stream, PySem.W.mg_of X G a__law_stream, F__law_stream.binds fun _ _ _ _ _ _ us hl => match us, hl with | [_, _], _ => rfl⟩
  have F__law_pick := fun_mk (st := s__law_pick) l__law_pick c__law_pick k__law_pick
  have D__law_pick : DefAt K mg "_law_pick" s__law_pick ["draws", "many"] _ _ := ⟨F__law_pick, PySem.W.mg_of X G a__law_pick, F__law_pick.binds fun _ _ _ _ _ _ us hl => match us, hl with | [_, _], _ => rfl⟩
  have F__comment_end := fun_mk (st := s__comment_end) l__comment_end c__comment_end k__comment_end
  have D__comment_end : DefAt K mg "_comment_end" s__comment_end ["text", "at"] _ _ := ⟨F__comment_end, PySem.W.mg_of X G a__comment_end, F__comment_end.binds fun _ _ _ _ _ _ us hl => match us, hl with | [_, _], _ => rfl⟩
  have F__word := fun_mk (st := s__word) l__word c__word k__word
  have D__word : DefAt K mg "_word" s__word ["text", "at"] _ _ := ⟨F__word, PySem.W.mg_of X G a__word, F__word.binds fun _ _ _ _ _ _ us hl => match us, hl with | [_, _], _ => rfl⟩
  have F__is_number := fun_mk (st := s__is_number) l__is_number c__is_number k__is_number
  have D__is_number : DefAt K mg "_is_number" s__is_number ["word"] _ _ := ⟨F__is_number, PySem.W.mg_of X G a__is_number, F__is_number.binds fun _ _ _ _ _ _ us hl => match us, hl with | [_], _ => rfl⟩
  have F__token := fun_mk (st := s__token) l__token c__token k__token
  have D__token : DefAt K mg "_token" s__token ["text", "at", "row", "column"] _ _ := ⟨F__token, PySem.W.mg_of X G a__token, F__token.binds fun _ _ _ _ _ _ us hl => match us, hl with | [_, _, _, _], _ => rfl⟩
  have F_tokens := fun_mk (st := s_tokens) l_tokens c_tokens k_tokens
  have D_tokens : DefAt K mg "tokens" s_tokens ["text"] _ _ := ⟨F_tokens, PySem.W.mg_of X G a_tokens, F_tokens.binds fun _ _ _ _ _ _ us hl => match us, hl with | [_], _ => rfl⟩
  have F__law_told := fun_mk (st := s__law_told) l__law_told c__law_told k__law_told
  have D__law_told : DefAt K mg "_law_told" s__law_told ["text"] _ _ := ⟨F__law_told, PySem.W.mg_of X G a__law_told, F__law_told.binds fun _ _ _ _ _ _ us hl => match us, hl with | [_], _ => rfl⟩
  have F__law_bad := fun_mk (st := s__law_bad) l__law_bad c__law_bad k__law_bad
  have D__law_bad : DefAt K mg "_law_bad" s__law_bad ["draws"] _ _ := ⟨F__law_bad, PySem.W.mg_of X G a__law_bad, F__law_bad.binds fun _ _ _ _ _ _ us hl => match us, hl with | [_], _ => rfl⟩
  have F__law_between := fun_mk (st := s__law_between) l__law_between c__law_between k__law_between
  have D__law_between : DefAt K mg "_law_between" s__law_between ["draws"] _ _ := ⟨F__law_between, PySem.W.mg_of X G a__law_between, F__law_between.binds fun _ _ _ _ _ _ us hl => match us, hl with | [_], _ => rfl⟩
  have F__law_good := fun_mk (st := s__law_good) l__law_good c__law_good k__law_good
  have D__law_good : DefAt K mg "_law_good" s__law_good ["draws"] _ _ := ⟨F__law_good, PySem.W.mg_of X G a__law_good, F__law_good.binds fun _ _ _ _ _ _ us hl => match us, hl with | [_], _ => rfl⟩
  have F_law := fun_mk (st := s_law) l_law c_law k_law
  have D_law : DefAt K mg "law" s_law ["script"] _ _ := ⟨F_law, PySem.W.mg_of X G a_law, F_law.binds fun _ _ _ _ _ _ us hl => match us, hl with | [_], _ => rfl⟩
  have N_BadNumber : mg "BadNumber" = some (.ref k_BadNumber) := PySem.W.mg_of X G a_BadNumber
  have N_BadCharacter : mg "BadCharacter" = some (.ref k_BadCharacter) := PySem.W.mg_of X G a_BadCharacter
  have N_TextError : mg "TextError" = some (.ref k_TextError) := PySem.W.mg_of X G a_TextError
  have N_Unexpected : mg "Unexpected" = some (.ref k_Unexpected) := PySem.W.mg_of X G a_Unexpected
  have N_ClockError : mg "ClockError" = some (.ref k_ClockError) := PySem.W.mg_of X G a_ClockError
  have g_WORD_SIGNS : GV K mg "WORD_SIGNS" d_WORD_SIGNS := gv_str (PySem.W.mg_of X G a_WORD_SIGNS) t_WORD_SIGNS
  have g_MOST_DIGITS : GV K mg "MOST_DIGITS" d_MOST_DIGITS := gv_int (PySem.W.mg_of X G a_MOST_DIGITS) t_MOST_DIGITS
  have g_DIGITS : GV K mg "DIGITS" d_DIGITS := gv_str (PySem.W.mg_of X G a_DIGITS) t_DIGITS
  have g_GREATEST_WORD : GV K mg "GREATEST_WORD" d_GREATEST_WORD := gv_int (PySem.W.mg_of X G a_GREATEST_WORD) t_GREATEST_WORD
  have g_LETTERS : GV K mg "LETTERS" d_LETTERS := gv_str (PySem.W.mg_of X G a_LETTERS) t_LETTERS
  have g_KEYWORDS : GV K mg "KEYWORDS" d_KEYWORDS := gv_flats (PySem.W.mg_of X G a_KEYWORDS) l_KEYWORDS t_KEYWORDS
  have g_LONG_SIGNS : GV K mg "LONG_SIGNS" d_LONG_SIGNS := gv_flats (PySem.W.mg_of X G a_LONG_SIGNS) l_LONG_SIGNS t_LONG_SIGNS
  have g_SHORT_SIGNS : GV K mg "SHORT_SIGNS" d_SHORT_SIGNS := gv_flats (PySem.W.mg_of X G a_SHORT_SIGNS) l_SHORT_SIGNS t_SHORT_SIGNS
  refine ⟨PySem.W.fnOf "law" "law" (defArgs s_law) (defBody s_law) (defScope s_law) .none kV_law dc_law pm_law an_law cd_law ct_law, fun s v => .of_eq rfl, fun base _ _ => ?_⟩
  have G__law_mix := (ok__law_mix (P := l.prog) (w := w) (mg := mg) (base := base) D__law_mix (PySem.W.mg_none_of X G z_int)).imp fun vs H Q E h => spM_fine fine_mix h
  have G__law_stream := (ok__law_stream (P := l.prog) (w := w) (mg := mg) (base := base) D__law_stream D__law_mix G__law_mix (PySem.W.mg_none_of X G z_range) (PySem.W.mg_none_of X G z_min) (PySem.W.mg_none_of X G z_len) (PySem.W.mg_none_of X G z_int))
  have G__law_pick := (ok__law_pick (P := l.prog) (w := w) (mg := mg) (base := base) D__law_pick D__law_mix G__law_mix (PySem.W.mg_none_of X G z_len) (PySem.W.mg_none_of X G z_int)).imp fun vs H Q E h => spM_fine fine_pick h
  have G__comment_end := (ok__comment_end (P := l.prog) (w := w) (mg := mg) (base := base) D__comment_end (PySem.W.mg_none_of X G z_len))
  have G__word := (ok__word (P := l.prog) (w := w) (mg := mg) (base := base) D__word g_WORD_SIGNS (PySem.W.mg_none_of X G z_len))
  have G__is_number := (ok__is_number (P := l.prog) (w := w) (mg := mg) (base := base) D__is_number g_MOST_DIGITS g_DIGITS g_GREATEST_WORD (PySem.W.mg_none_of X G z_len) (PySem.W.mg_none_of X G z_int))
  have G__token := (ok__token (P := l.prog) (w := w) (mg := mg) (base := base) (cA := fun i => ([k_ClockError, k_TextError, k_BadCharacter, k_BadNumber, k_Unexpected] : List Addr).getD i 0) D__token D__word D__is_number G__word G__is_number g_LETTERS g_KEYWORDS g_DIGITS g_LONG_SIGNS g_SHORT_SIGNS N_BadNumber N_BadCharacter (erI_mk mk_BadNumber (iniok_TextError ini_TextError) bI_TextError) (erI_mk mk_BadCharacter (iniok_TextError ini_TextError) bI_TextError))
  have G_tokens := (ok_tokens (P := l.prog) (w := w) (mg := mg) (base := base) (cA := fun i => ([k_ClockError, k_TextError, k_BadCharacter, k_BadNumber, k_Unexpected] : List Addr).getD i 0) D_tokens D__comment_end D__token G__comment_end G__token (PySem.W.mg_none_of X G z_len))
  have G__law_told := (ok__law_told (P := l.prog) (w := w) (mg := mg) (base := base) (cA := fun i => ([k_ClockError, k_TextError, k_BadCharacter, k_BadNumber, k_Unexpected] : List Addr).getD i 0) D__law_told D_tokens G_tokens (PySem.W.mg_none_of X G z_len) (PySem.W.mg_none_of X G z_isinstance) N_BadCharacter N_TextError N_BadNumber N_Unexpected N_ClockError T_BadCharacter T_BadNumber I_TextError I_ClockError I_Unexpected J_BadNumber__Unexpected Q_BadCharacter_column Q_BadCharacter_row Q_BadNumber_column Q_BadNumber_row)
  have G__law_bad := (ok__law_bad (P := l.prog) (w := w) (mg := mg) (base := base) D__law_bad D__law_pick G__law_pick)
  have G__law_between := (ok__law_between (P := l.prog) (w := w) (mg := mg) (base := base) D__law_between D__law_pick G__law_pick)
  have G__law_good := (ok__law_good (P := l.prog) (w := w) (mg := mg) (base := base) D__law_good D__law_pick G__law_pick)
  have G_law := (ok_law (P := l.prog) (w := w) (mg := mg) (base := base) (cA := fun i => ([k_ClockError, k_TextError, k_BadCharacter, k_BadNumber, k_Unexpected] : List Addr).getD i 0) D_law D__law_stream D__law_pick D__law_good D__law_between D__law_told D__law_bad G__law_stream G__law_pick G__law_good G__law_between G__law_told G__law_bad (PySem.W.mg_none_of X G z_range) (PySem.W.mg_none_of X G z_len))
  exact G_law.imp fun vs H Q E h => h _ (dst_of u_dst (by simp))
def fd__law_mix : He.FnD := ⟨("_law_mix", none), "_law_mix", "_law_mix", defArgs s__law_mix, defBody s__law_mix, defScope s__law_mix⟩
def fd__law_stream : He.FnD := ⟨("_law_stream", none), "_law_stream", "_law_stream", defArgs s__law_stream, defBody s__law_stream, defScope s__law_stream⟩
def fd__law_pick : He.FnD := ⟨("_law_pick", none), "_law_pick", "_law_pick", defArgs s__law_pick, defBody s__law_pick, defScope s__law_pick⟩
def fd__comment_end : He.FnD := ⟨("_comment_end", none), "_comment_end", "_comment_end", defArgs s__comment_end, defBody s__comment_end, defScope s__comment_end⟩
def fd__word : He.FnD := ⟨("_word", none), "_word", "_word", defArgs s__word, defBody s__word, defScope s__word⟩
def fd__is_number : He.FnD := ⟨("_is_number", none), "_is_number", "_is_number", defArgs s__is_number, defBody s__is_number, defScope s__is_number⟩
def fd__token : He.FnD := ⟨("_token", none), "_token", "_token", defArgs s__token, defBody s__token, defScope s__token⟩
def fd_tokens : He.FnD := ⟨("tokens", none), "tokens", "tokens", defArgs s_tokens, defBody s_tokens, defScope s_tokens⟩
def fd__law_told : He.FnD := ⟨("_law_told", none), "_law_told", "_law_told", defArgs s__law_told, defBody s__law_told, defScope s__law_told⟩
def fd__law_bad : He.FnD := ⟨("_law_bad", none), "_law_bad", "_law_bad", defArgs s__law_bad, defBody s__law_bad, defScope s__law_bad⟩
def fd__law_between : He.FnD := ⟨("_law_between", none), "_law_between", "_law_between", defArgs s__law_between, defBody s__law_between, defScope s__law_between⟩
def fd__law_good : He.FnD := ⟨("_law_good", none), "_law_good", "_law_good", defArgs s__law_good, defBody s__law_good, defScope s__law_good⟩
def fd_law : He.FnD := ⟨("law", none), "law", "law", defArgs s_law, defBody s_law, defScope s_law⟩
abbrev kR : PySem.W.OpenRow := PySem.W.OpenLaw.row PySem.Challenge.rw_sameclock_k01_programs_with_a_bad_place
def fc_TextError : He.FnD := ⟨("TextError", some "__init__"), "__init__", "TextError.__init__", defArgs s_TextError_ini, defBody s_TextError_ini, defScope s_TextError_ini⟩
def xo_WORD_SIGNS : (PySem.W.Frag → Option (List (Option V))) × List (Option V) := (fun K => oV K "WORD_SIGNS", [some (.str "_0123456789abcdefghijklmnopqrstuvwxyzABCDEFGHIJKLMNOPQRSTUVWXYZ")])
def xo_MOST_DIGITS : (PySem.W.Frag → Option (List (Option V))) × List (Option V) := (fun K => oV K "MOST_DIGITS", [some (.int 10)])
def xo_DIGITS : (PySem.W.Frag → Option (List (Option V))) × List (Option V) := (fun K => oV K "DIGITS", [some (.str "0123456789")])
def xo_GREATEST_WORD : (PySem.W.Frag → Option (List (Option V))) × List (Option V) := (fun K => oV K "GREATEST_WORD", [some (.int 4294967295)])
def xo_LETTERS : (PySem.W.Frag → Option (List (Option V))) × List (Option V) := (fun K => oV K "LETTERS", [some (.str "abcdefghijklmnopqrstuvwxyzABCDEFGHIJKLMNOPQRSTUVWXYZ")])
def xo_KEYWORDS : (PySem.W.Frag → Option (List (Option V))) × List (Option V) := (fun K => oT K (He.ga K "KEYWORDS"), [some (.str "public"), some (.str "secret"), some (.str "array"), some (.str "fn"), some (.str "main"), some (.str "return"), some (.str "if"), some (.str "else"), some (.str "for"), some (.str "to"), some (.str "max"), some (.str "out"), some (.str "div"), some (.str "mod")])
def xo_LONG_SIGNS : (PySem.W.Frag → Option (List (Option V))) × List (Option V) := (fun K => oT K (He.ga K "LONG_SIGNS"), [some (.str "<="), some (.str "<<"), some (.str ">>"), some (.str "==")])
def xo_SHORT_SIGNS : (PySem.W.Frag → Option (List (Option V))) × List (Option V) := (fun K => oT K (He.ga K "SHORT_SIGNS"), [some (.str "{"), some (.str "}"), some (.str "("), some (.str ")"), some (.str "["), some (.str "]"), some (.str ","), some (.str ";"), some (.str "="), some (.str "+"), some (.str "-"), some (.str "*"), some (.str "&"), some (.str "|"), some (.str "^"), some (.str "!"), some (.str "?"), some (.str ":"), some (.str "<")])
def xb_ini_TextError : PySem.W.Frag → Bool := fun K => iniB K ("TextError", some "__init__") (He.ga K "TextError") kR.prog.main.file
def xb_mk_BadCharacter : PySem.W.Frag → Bool := fun K => mkeB K (He.ga K "BadCharacter") (He.ma K (He.ga K "TextError") "__init__") (He.ga K "TextError") ["row", "column"]
def xb_mk_BadNumber : PySem.W.Frag → Bool := fun K => mkeB K (He.ga K "BadNumber") (He.ma K (He.ga K "TextError") "__init__") (He.ga K "TextError") ["row", "column"]
def xb_T_BadCharacter : PySem.W.Frag → Bool := fun K => exmB K (He.ga K "BadCharacter") [((He.ga K "BadCharacter"), true), ((He.ga K "BadNumber"), false)]
def xb_T_BadNumber : PySem.W.Frag → Bool := fun K => exmB K (He.ga K "BadNumber") [((He.ga K "BadCharacter"), false), ((He.ga K "BadNumber"), true)]
def xb_I_TextError : PySem.W.Frag → Bool := fun K => isB K (He.ga K "TextError") [((He.ga K "BadCharacter"), true), ((He.ga K "BadNumber"), true)]
def xb_I_ClockError : PySem.W.Frag → Bool := fun K => isB K (He.ga K "ClockError") [((He.ga K "BadCharacter"), true), ((He.ga K "BadNumber"), true)]
def xb_I_Unexpected : PySem.W.Frag → Bool := fun K => isB K (He.ga K "Unexpected") [((He.ga K "BadCharacter"), false), ((He.ga K "BadNumber"), false)]
def xb_J_BadNumber__Unexpected : PySem.W.Frag → Bool := fun K => isTB K [(He.ga K "BadNumber"), (He.ga K "Unexpected")] [((He.ga K "BadCharacter"), false), ((He.ga K "BadNumber"), true)]
def xb_Q_BadCharacter_column : PySem.W.Frag → Bool := fun K => fldB K "column" [((He.ga K "BadCharacter"), true), ((He.ga K "BadNumber"), false)]
def xb_Q_BadCharacter_row : PySem.W.Frag → Bool := fun K => fldB K "row" [((He.ga K "BadCharacter"), true), ((He.ga K "BadNumber"), false)]
def xb_Q_BadNumber_column : PySem.W.Frag → Bool := fun K => fldB K "column" [((He.ga K "BadCharacter"), false), ((He.ga K "BadNumber"), true)]
def xb_Q_BadNumber_row : PySem.W.Frag → Bool := fun K => fldB K "row" [((He.ga K "BadCharacter"), false), ((He.ga K "BadNumber"), true)]
def xb_u_dst : PySem.W.Frag → Bool := fun K => decide (([(He.ga K "ClockError"), (He.ga K "TextError"), (He.ga K "BadCharacter"), (He.ga K "BadNumber"), (He.ga K "Unexpected")] : List Addr).drop 0 |>.take (5 - 0)).Nodup
def kFa_0 : List He.Fa := [.glo "ClockError", .glo "TextError", .glo "BadCharacter", .glo "BadNumber", .glo "Unexpected", .free "super", .glo "_law_mix", .keep "_law_mix", .glo "_law_stream", .keep "_law_stream", .glo "_law_pick", .keep "_law_pick", .glo "_comment_end", .keep "_comment_end", .glo "_word", .keep "_word", .glo "_is_number", .keep "_is_number", .glo "_token", .keep "_token"]
def kFa_1 : List He.Fa := [.glo "tokens", .keep "tokens", .glo "_law_told", .keep "_law_told", .glo "_law_bad", .keep "_law_bad", .glo "_law_between", .keep "_law_between", .glo "_law_good", .keep "_law_good", .glo "law", .keep "law", .glo "KEYWORDS", .glo "LONG_SIGNS", .glo "SHORT_SIGNS", .free "int", .free "range", .free "min", .free "len", .free "isinstance"]
def kFa : List He.Fa := kFa_0 ++ kFa_1
def kFn : List He.FnD := [fd__law_mix, fd__law_stream, fd__law_pick, fd__comment_end, fd__word, fd__is_number, fd__token, fd_tokens, fd__law_told, fd__law_bad, fd__law_between, fd__law_good, fd_law]
def kTs : List He.Tab := []
def kXo : List ((PySem.W.Frag → Option (List (Option V))) × List (Option V)) := [xo_WORD_SIGNS, xo_MOST_DIGITS, xo_DIGITS, xo_GREATEST_WORD, xo_LETTERS, xo_KEYWORDS, xo_LONG_SIGNS, xo_SHORT_SIGNS]
def kXb : List (PySem.W.Frag → Bool) := [xb_ini_TextError, xb_mk_BadCharacter, xb_mk_BadNumber, xb_T_BadCharacter, xb_T_BadNumber, xb_I_TextError, xb_I_ClockError, xb_I_Unexpected, xb_J_BadNumber__Unexpected, xb_Q_BadCharacter_column, xb_Q_BadCharacter_row, xb_Q_BadNumber_column, xb_Q_BadNumber_row, xb_u_dst]
def kNames_0 : List Str := ["ClockError", "TextError", "BadCharacter", "BadNumber", "Unexpected", "GREATEST_WORD", "KEYWORDS", "LETTERS", "DIGITS", "WORD_SIGNS", "SHORT_SIGNS", "LONG_SIGNS", "MOST_DIGITS", "tokens", "_comment_end", "_token", "_word", "_is_number", "_law_mix", "_law_stream"]
def kNames_1 : List Str := ["_law_pick", "_law_good", "_law_bad", "_law_between", "_law_told"]
def kNames : List Str := kNames_0 ++ kNames_1
def kL : Lk := ⟨kFa, kFn, kTs, kXo, kXb, [fc_TextError]⟩
abbrev kQ : Program := PySem.W.view kR.prog [28]
set_option maxHeartbeats 0
theorem k_falseA (w : World) : RunA kR kQ kL 20000 kNames (w.withFollow "special-get-raises" false) := by
  intro os
  kernel_rfl
theorem k_falseB (w : World) : RunB kR kL 20000 (w.withFollow "special-get-raises" false) := by
  intro os
  kernel_rfl
theorem k_trueA (w : World) : RunA kR kQ kL 20000 kNames (w.withFollow "special-get-raises" true) := by
  intro os
  kernel_rfl
theorem k_trueB (w : World) : RunB kR kL 20000 (w.withFollow "special-get-raises" true) := by
  intro os
  kernel_rfl
theorem k_run (w : World) : HandSHeadRun.RunEq kR kQ (hookL kL) (fun s => (obA kL s, obB kL s)) 20000 kNames w := PySem.W.byRow2 "special-get-raises" (fun w => run_ab (k_falseA w) (k_falseB w)) (fun w => run_ab (k_trueA w) (k_trueB w)) w
theorem k_facts {l : PySem.W.OpenLaw} {w : World} {K : PySem.W.Frag} {h : Heap} {mg : Str → Option Value} {fa : Addr} (X : K.In h) (G : h.Ns mainGlobals mg) (hfa : mg "law" = some (.ref fa)) (c : SaysL kL w K) (hlp : l.prog = kR.prog) :
    ∃ fd : FuncData, (∀ (s : Shared) (v : Value), BindsTo s fd ⟨[v], []⟩ [("script", v)]) ∧ ∀ base : Heap, K.In base → base.Ns mainGlobals mg → FnOk l.prog w K mg base (L2.CX l.prog w) 6 fa fd ["script"] (spY K 0 5 1 (fun cA => m_law cA)) := by
  obtain ⟨ocI_TextError, odI_TextError, slI_TextError, kVI_TextError, dcI_TextError, pmI_TextError, anI_TextError, cdI_TextError, ctI_TextError, ccI_TextError, lI_TextError, cI_TextError⟩ := c.defC 0 (d := fc_TextError)
  obtain ⟨oc__law_mix, od__law_mix, sl__law_mix, kV__law_mix, dc__law_mix, pm__law_mix, an__law_mix, cd__law_mix, ct__law_mix, l__law_mix, c__law_mix⟩ := c.def_ 0 (d := fd__law_mix)
  obtain ⟨oc__law_stream, od__law_stream, sl__law_stream, kV__law_stream, dc__law_stream, pm__law_stream, an__law_stream, cd__law_stream, ct__law_stream, l__law_stream, c__law_stream⟩ := c.def_ 1 (d := fd__law_stream)
  obtain ⟨oc__law_pick, od__law_pick, sl__law_pick, kV__law_pick, dc__law_pick, pm__law_pick, an__law_pick, cd__law_pick, ct__law_pick, l__law_pick, c__law_pick⟩ := c.def_ 2 (d := fd__law_pick)
  obtain ⟨oc__comment_end, od__comment_end, sl__comment_end, kV__comment_end, dc__comment_end, pm__comment_end, an__comment_end, cd__comment_end, ct__comment_end, l__comment_end, c__comment_end⟩ := c.def_ 3 (d := fd__comment_end)
  obtain ⟨oc__word, od__word, sl__word, kV__word, dc__word, pm__word, an__word, cd__word, ct__word, l__word, c__word⟩ := c.def_ 4 (d := fd__word)
  obtain ⟨oc__is_number, od__is_number, sl__is_number, kV__is_number, dc__is_number, pm__is_number, an__is_number, cd__is_number, ct__is_number, l__is_number, c__is_number⟩ := c.def_ 5 (d := fd__is_number)
  obtain ⟨oc__token, od__token, sl__token, kV__token, dc__token, pm__token, an__token, cd__token, ct__token, l__token, c__token⟩ := c.def_ 6 (d := fd__token)
  obtain ⟨oc_tokens, od_tokens, sl_tokens, kV_tokens, dc_tokens, pm_tokens, an_tokens, cd_tokens, ct_tokens, l_tokens, c_tokens⟩ := c.def_ 7 (d := fd_tokens)
  obtain ⟨oc__law_told, od__law_told, sl__law_told, kV__law_told, dc__law_told, pm__law_told, an__law_told, cd__law_told, ct__law_told, l__law_told, c__law_told⟩ := c.def_ 8 (d := fd__law_told)
  obtain ⟨oc__law_bad, od__law_bad, sl__law_bad, kV__law_bad, dc__law_bad, pm__law_bad, an__law_bad, cd__law_bad, ct__law_bad, l__law_bad, c__law_bad⟩ := c.def_ 9 (d := fd__law_bad)
  obtain ⟨oc__law_between, od__law_between, sl__law_between, kV__law_between, dc__law_between, pm__law_between, an__law_between, cd__law_between, ct__law_between, l__law_between, c__law_between⟩ := c.def_ 10 (d := fd__law_between)
  obtain ⟨oc__law_good, od__law_good, sl__law_good, kV__law_good, dc__law_good, pm__law_good, an__law_good, cd__law_good, ct__law_good, l__law_good, c__law_good⟩ := c.def_ 11 (d := fd__law_good)
  obtain ⟨oc_law, od_law, sl_law, kV_law, dc_law, pm_law, an_law, cd_law, ct_law, l_law, c_law⟩ := c.def_ 12 (d := fd_law)
  obtain ⟨u_WORD_SIGNS, a_WORD_SIGNS, t_WORD_SIGNS⟩ := oV_ok (show oV K "WORD_SIGNS" = some [some (.str "_0123456789abcdefghijklmnopqrstuvwxyzABCDEFGHIJKLMNOPQRSTUVWXYZ")] from c.val 0 (t := xo_WORD_SIGNS))
  obtain ⟨u_MOST_DIGITS, a_MOST_DIGITS, t_MOST_DIGITS⟩ := oV_ok (show oV K "MOST_DIGITS" = some [some (.int 10)] from c.val 1 (t := xo_MOST_DIGITS))
  obtain ⟨u_DIGITS, a_DIGITS, t_DIGITS⟩ := oV_ok (show oV K "DIGITS" = some [some (.str "0123456789")] from c.val 2 (t := xo_DIGITS))
  obtain ⟨u_GREATEST_WORD, a_GREATEST_WORD, t_GREATEST_WORD⟩ := oV_ok (show oV K "GREATEST_WORD" = some [some (.int 4294967295)] from c.val 3 (t := xo_GREATEST_WORD))
  obtain ⟨u_LETTERS, a_LETTERS, t_LETTERS⟩ := oV_ok (show oV K "LETTERS" = some [some (.str "abcdefghijklmnopqrstuvwxyzABCDEFGHIJKLMNOPQRSTUVWXYZ")] from c.val 4 (t := xo_LETTERS))
  obtain ⟨cd_KEYWORDS, its_KEYWORDS, n_KEYWORDS, sl_KEYWORDS, l_KEYWORDS, t_KEYWORDS⟩ := oT_ok (show oT K (He.ga K "KEYWORDS") = some [some (.str "public"), some (.str "secret"), some (.str "array"), some (.str "fn"), some (.str "main"), some (.str "return"), some (.str "if"), some (.str "else"), some (.str "for"), some (.str "to"), some (.str "max"), some (.str "out"), some (.str "div"), some (.str "mod")] from c.val 5 (t := xo_KEYWORDS))
  obtain ⟨cd_LONG_SIGNS, its_LONG_SIGNS, n_LONG_SIGNS, sl_LONG_SIGNS, l_LONG_SIGNS, t_LONG_SIGNS⟩ := oT_ok (show oT K (He.ga K "LONG_SIGNS") = some [some (.str "<="), some (.str "<<"), some (.str ">>"), some (.str "==")] from c.val 6 (t := xo_LONG_SIGNS))
  obtain ⟨cd_SHORT_SIGNS, its_SHORT_SIGNS, n_SHORT_SIGNS, sl_SHORT_SIGNS, l_SHORT_SIGNS, t_SHORT_SIGNS⟩ := oT_ok (show oT K (He.ga K "SHORT_SIGNS") = some [some (.str "{"), some (.str "}"), some (.str "("), some (.str ")"), some (.str "["), some (.str "]"), some (.str ","), some (.str ";"), some (.str "="), some (.str "+"), some (.str "-"), some (.str "*"), some (.str "&"), some (.str "|"), some (.str "^"), some (.str "!"), some (.str "?"), some (.str ":"), some (.str "<")] from c.val 7 (t := xo_SHORT_SIGNS))
  exact all_mk (l := l) (w := w) X G hfa (He.eqO_ok (c.fact (.glo "ClockError") 0)) (He.eqO_ok (c.fact (.glo "TextError") 1)) (He.eqO_ok (c.fact (.glo "BadCharacter") 2)) (He.eqO_ok (c.fact (.glo "BadNumber") 3)) (He.eqO_ok (c.fact (.glo "Unexpected") 4)) (ini_of (K := K) (P := l.prog) (mg := mg) (st := s_TextError_ini) (N := SELF :: ["row", "column"]) lI_TextError cI_TextError (show (iniB K ("TextError", some "__init__") (He.ga K "TextError") kR.prog.main.file) = true from c.chk 0 (f := xb_ini_TextError)) (by rw [hlp]) (PySem.W.mg_none_of X G (He.eqO_ok (c.fact (.free "super") 5))) (by rw [hlp]; kernel_rfl) ⟨_, rfl, rfl⟩ ⟨rfl, rfl, rfl, by decide +kernel, by decide +kernel, free_only (by decide +kernel), rfl, rfl⟩ (by decide)) (Binds.all fun us hl => match us, hl with | [_, _, _], _ => rfl) (mkeB_ok (show (mkeB K (He.ga K "BadCharacter") (He.ma K (He.ga K "TextError") "__init__") (He.ga K "TextError") ["row", "column"]) = true from c.chk 1 (f := xb_mk_BadCharacter))) (mkeB_ok (show (mkeB K (He.ga K "BadNumber") (He.ma K (He.ga K "TextError") "__init__") (He.ga K "TextError") ["row", "column"]) = true from c.chk 2 (f := xb_mk_BadNumber))) (exmB_ok (show (exmB K (He.ga K "BadCharacter") [((He.ga K "BadCharacter"), true), ((He.ga K "BadNumber"), false)]) = true from c.chk 3 (f := xb_T_BadCharacter))) (exmB_ok (show (exmB K (He.ga K "BadNumber") [((He.ga K "BadCharacter"), false), ((He.ga K "BadNumber"), true)]) = true from c.chk 4 (f := xb_T_BadNumber))) (isB_ok (show (isB K (He.ga K "TextError") [((He.ga K "BadCharacter"), true), ((He.ga K "BadNumber"), true)]) = true from c.chk 5 (f := xb_I_TextError))) (isB_ok (show (isB K (He.ga K "ClockError") [((He.ga K "BadCharacter"), true), ((He.ga K "BadNumber"), true)]) = true from c.chk 6 (f := xb_I_ClockError))) (isB_ok (show (isB K (He.ga K "Unexpected") [((He.ga K "BadCharacter"), false), ((He.ga K "BadNumber"), false)]) = true from c.chk 7 (f := xb_I_Unexpected))) (isTB_ok (show (isTB K [(He.ga K "BadNumber"), (He.ga K "Unexpected")] [((He.ga K "BadCharacter"), false), ((He.ga K "BadNumber"), true)]) = true from c.chk 8 (f := xb_J_BadNumber__Unexpected))) (fldB_ok (show (fldB K "column" [((He.ga K "BadCharacter"), true), ((He.ga K "BadNumber"), false)]) = true from c.chk 9 (f := xb_Q_BadCharacter_column))) (fldB_ok (show (fldB K "row" [((He.ga K "BadCharacter"), true), ((He.ga K "BadNumber"), false)]) = true from c.chk 10 (f := xb_Q_BadCharacter_row))) (fldB_ok (show (fldB K "column" [((He.ga K "BadCharacter"), false), ((He.ga K "BadNumber"), true)]) = true from c.chk 11 (f := xb_Q_BadNumber_column))) (fldB_ok (show (fldB K "row" [((He.ga K "BadCharacter"), false), ((He.ga K "BadNumber"), true)]) = true from c.chk 12 (f := xb_Q_BadNumber_row))) (He.eqO_ok (c.fact (.glo "_law_mix") 6)) (l__law_mix) (c__law_mix) (He.keep_ok (c.fact (.keep "_law_mix") 7)) (He.eqO_ok (c.fact (.glo "_law_stream") 8)) (l__law_stream) (c__law_stream) (He.keep_ok (c.fact (.keep "_law_stream") 9)) (He.eqO_ok (c.fact (.glo "_law_pick") 10)) (l__law_pick) (c__law_pick) (He.keep_ok (c.fact (.keep "_law_pick") 11)) (He.eqO_ok (c.fact (.glo "_comment_end") 12)) (l__comment_end) (c__comment_end) (He.keep_ok (c.fact (.keep "_comment_end") 13)) (He.eqO_ok (c.fact (.glo "_word") 14)) (l__word) (c__word) (He.keep_ok (c.fact (.keep "_word") 15)) (He.eqO_ok (c.fact (.glo "_is_number") 16)) (l__is_number) (c__is_number) (He.keep_ok (c.fact (.keep "_is_number") 17)) (He.eqO_ok (c.fact (.glo "_token") 18)) (l__token) (c__token) (He.keep_ok (c.fact (.keep "_token") 19)) (He.eqO_ok (c.fact (.glo "tokens") 20)) (l_tokens) (c_tokens) (He.keep_ok (c.fact (.keep "tokens") 21)) (He.eqO_ok (c.fact (.glo "_law_told") 22)) (l__law_told) (c__law_told) (He.keep_ok (c.fact (.keep "_law_told") 23)) (He.eqO_ok (c.fact (.glo "_law_bad") 24)) (l__law_bad) (c__law_bad) (He.keep_ok (c.fact (.keep "_law_bad") 25)) (He.eqO_ok (c.fact (.glo "_law_between") 26)) (l__law_between) (c__law_between) (He.keep_ok (c.fact (.keep "_law_between") 27)) (He.eqO_ok (c.fact (.glo "_law_good") 28)) (l__law_good) (c__law_good) (He.keep_ok (c.fact (.keep "_law_good") 29)) (He.eqO_ok (c.fact (.glo "law") 30)) (l_law) (c_law) (He.keep_ok (c.fact (.keep "law") 31)) (a_WORD_SIGNS) (t_WORD_SIGNS) (a_MOST_DIGITS) (t_MOST_DIGITS) (a_DIGITS) (t_DIGITS) (a_GREATEST_WORD) (t_GREATEST_WORD) (a_LETTERS) (t_LETTERS) (He.eqO_ok (c.fact (.glo "KEYWORDS") 32)) (l_KEYWORDS) (t_KEYWORDS) (He.eqO_ok (c.fact (.glo "LONG_SIGNS") 33)) (l_LONG_SIGNS) (t_LONG_SIGNS) (He.eqO_ok (c.fact (.glo "SHORT_SIGNS") 34)) (l_SHORT_SIGNS) (t_SHORT_SIGNS) (of_decide_eq_true (show (decide (([(He.ga K "ClockError"), (He.ga K "TextError"), (He.ga K "BadCharacter"), (He.ga K "BadNumber"), (He.ga K "Unexpected")] : List Addr).drop 0 |>.take (5 - 0)).Nodup) = true from c.chk 13 (f := xb_u_dst))) (He.eqO_ok (c.fact (.free "int") 35)) (He.eqO_ok (c.fact (.free "range") 36)) (He.eqO_ok (c.fact (.free "min") 37)) (He.eqO_ok (c.fact (.free "len") 38)) (He.eqO_ok (c.fact (.free "isinstance") 39))
end GK01
open PySem PySem.W
open PyProof.Rows hiding St
set_option maxHeartbeats 0 in
theorem PySem.Challenge.cw_sameclock_k01_programs_with_a_bad_place_holds : PySem.Challenge.rw_sameclock_k01_programs_with_a_bad_place.Holds := by
  w_on; o_law
  refine HandSHeadRun.head_any (r := GK01.kR) (q := GK01.kQ) (H := Ly.hookL GK01.kL) (ob := fun s => (Ly.obA GK01.kL s, Ly.obB GK01.kL s)) (M := 20000) (loose := GK01.kNames) (d := HandSHeadRun.topDef GK01.kR.prog 28) (kwd := []) Ly.obL_eq (by kernel_rfl) (fun s => by kernel_rfl) GK01.k_run (by kernel_rfl) (by kernel_rfl) (by kernel_rfl) (by rfl) (by first | assumption | decide +kernel) (by decide +kernel) ⟨rfl, rfl, rfl, rfl, rfl, by decide +kernel⟩ ?hw ?hc
  case hw => w_witness2
  case hc =>
    refine Ly.walk_ofL (l := PySem.Challenge.rw_sameclock_k01_programs_with_a_bad_place) (n := 63) (k := 6) (x := "script") (CX := fun w => L2.CX (PySem.Challenge.rw_sameclock_k01_programs_with_a_bad_place).prog w) rfl (by decide) (by kernel_rfl) ⟨rfl, by decide, by decide⟩ ?F (fun w H s e s' => Ly.law_noexc)
    intro w mg fa h Y G hmg0
    obtain ⟨K, KX, c⟩ := Y
    have hmg : mg ("law" : PySem.Str) = some (.ref fa) := by
      have e : (HandSHeadRun.topDef GK01.kR.prog 28).name = ("law" : PySem.Str) := by kernel_rfl
      rw [← e]
      exact hmg0
    obtain ⟨fd, hb, hF⟩ := GK01.k_facts (l := PySem.Challenge.rw_sameclock_k01_programs_with_a_bad_place) (w := w) KX G hmg c rfl
    exact ⟨K, fd, _, KX, hb, fun H a ns hl hb hO hS => Ly.law_endY (m := fun cA => GK01.m_law cA) GK01.law_true hl hb hO hS, hF⟩
