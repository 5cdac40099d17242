import PyProof.Rows.All
import Wide.All
import OpenK.AllK
import Wide.FinOn
import HandS.ForMost
import HandS.ForExc
import HandS.TupAny
import HandS.Wide
import HandS.Codes
import HandS.StrMore
import HandS.RaiseMore
import HandS.FStr
import HandS.More
import HandS.IsInst
import HandS.Style
import HandS.Deep
import HandS.Text
import HandS.TupLen
import HandS.Flow
import HandS.Iter
import HandS.Comp
import HandS.Exc
import HandS.CallSlots
import HandS.Words
import HandS.WordsExc
import HandS.Zip
import KE.GoesMore
import KE.GoesEnum
import KE.GoesZip
import HandS.Rev
import HandS.EndBits
import HandS.HeadHook3
import HandS.DictComp
import HandS.SetKeys
import HandS.Conv
import HandS.SortInts
import HandS.CallLocal
import PyProof.StrLawsIn
import HandS.WideBits
import HandS.TupMul
import KE.KDictZip
import HandS.SetFor
import HandS.Strs
import HandS.SortKw
import KE.DataMinMax
import HandS.List
import HandS.Head0
import HandS.Head1
import HandS.Head2
import HandS.HeadHook1
import Wide.Once
import KE.BitLaws
import KE.OsArith
import PySem.Challenge.RW_sameclock_k17_listings_written_and_read
set_option Elab.async false
set_option linter.all false
set_option maxRecDepth 100000
namespace Ly
open PySem PySem.Spec L2
open PyProof.Rows hiding St
inductive D where
  | non | bl (b : Bool) | int (i : Int) | str (x : Str) | tup (xs : List D) | wt (xs : List D) | wl (xs : List D) | ref (i : Nat) | cst (a : Addr)
inductive O where
  | lst (xs : List D) | rol (xs : List D) | dic (kvs : List (Key × D)) | dit (kvs : List (List Key × D)) | ins (C : Addr) (fs : List (Str × D))
abbrev Hs := List O
abbrev Ls := List (Option D)
def Wt (K : PySem.W.Frag) (a : Addr) (xs : List V) : Prop :=
  ∃ (o : Obj) (its : Array Value) (n : Nat), K.lookup a = some o ∧ o.cls = .type "tuple" ∧ o.data = .seq its n ∧ its.size ≤ sizeLine ∧ Vals xs its.toList
def Wl (K : PySem.W.Frag) (a : Addr) (xs : List V) : Prop :=
  ∃ (o : Obj) (its : Array Value) (n : Nat), K.lookup a = some o ∧ o.cls = .type "list" ∧ o.dict = none ∧ o.data = .seq its n ∧ its.size ≤ sizeLine ∧ Vals xs its.toList
theorem Wl.sq {K : PySem.W.Frag} {H : Hp} {a : Addr} {xs : List V} (h : Wl K a xs) : SqL K H a xs := .inr h
theorem Wt.sq {K : PySem.W.Frag} {H : Hp} {a : Addr} {xs : List V} (h : Wt K a xs) : SqT K H a xs := .inr h
section
variable (K : PySem.W.Frag) (pi : Nat → Addr) (n : Nat) (H : Hp)
mutual
inductive Rep : D → V → Prop
  | non : Rep .non .non
  | bl (b : Bool) : Rep (.bl b) (.bl b)
  | int (i : Int) : Rep (.int i) (.int i)
  | str (x : Str) : Rep (.str x) (.str x)
  | tup {a : Addr} {ds : List D} {xs : List V} : H a = some (.tup xs) → Reps ds xs → Rep (.tup ds) (.ref a)
  | wt {a : Addr} {ds : List D} {xs : List V} : Wt K a xs → Reps ds xs → Rep (.wt ds) (.ref a)
  | wl {a : Addr} {ds : List D} {xs : List V} : Wl K a xs → Reps ds xs → Rep (.wl ds) (.ref a)
  | ref {i : Nat} : i < n → Rep (.ref i) (.ref (pi i))
  | cst (a : Addr) : Rep (.cst a) (.ref a)
inductive Reps : List D → List V → Prop
  | nil : Reps [] []
  | cons {d : D} {ds : List D} {v : V} {vs : List V} : Rep d v → Reps ds vs → Reps (d :: ds) (v :: vs)
end
inductive Sl : Ls → St → Prop
  | nil : Sl [] []
  | no {l : Ls} {s : St} (o : Option V) : Sl l s → Sl (none :: l) (o :: s)
  | yes {l : Ls} {s : St} {d : D} {v : V} : Rep K pi n H d v → Sl l s → Sl (some d :: l) (some v :: s)
def RO (a : Addr) : O → Prop
  | .lst ds => ∃ xs, H a = some (.lst xs) ∧ Reps K pi n H ds xs
  | .rol ds => ∃ o xs, H a = some (.frz o (.lst xs)) ∧ Reps K pi n H ds xs
  | .dic kvs => ∃ ks, H a = some (.dK ks) ∧ ks.map (·.1) = kvs.map (·.1) ∧ Reps K pi n H (kvs.map (·.2)) (ks.map (·.2))
  | .dit kvs => ∃ ks, H a = some (.dT ks) ∧ ks.map (·.1) = kvs.map (·.1) ∧ Reps K pi n H (kvs.map (·.2)) (ks.map (·.2))
  | .ins C fs => ∃ dx ks, H a = some (.ins C dx ks) ∧ ks.map (·.1) = fs.map (·.1) ∧ Reps K pi n H (fs.map (·.2)) (ks.map (·.2))
end
structure Real (K : PySem.W.Frag) (pi : Nat → Addr) (S : Hs) (H : Hp) : Prop where
  ob : ∀ i o, S[i]? = some o → RO K pi S.length H (pi i) o
  inj : ∀ i j, i < S.length → j < S.length → pi i = pi j → i = j
structure Ext (n m : Nat) (pi pi' : Nat → Addr) (H H' : Hp) : Prop where
  le : n ≤ m
  ag : ∀ i, i < n → pi' i = pi i
  tp : ∀ a xs, H a = some (.tup xs) → H' a = some (.tup xs)
theorem Ext.refl {n : Nat} {pi : Nat → Addr} {H : Hp} : Ext n n pi pi H H := ⟨Nat.le_refl _, fun _ _ => rfl, fun _ _ h => h⟩
theorem Ext.trans {n m k : Nat} {p q r : Nat → Addr} {H H1 H2 : Hp} (a : Ext n m p q H H1) (b : Ext m k q r H1 H2) : Ext n k p r H H2 :=
  ⟨Nat.le_trans a.le b.le, fun i h => (b.ag i (Nat.lt_of_lt_of_le h a.le)).trans (a.ag i h), fun x xs h => b.tp x xs (a.tp x xs h)⟩
section
variable {K : PySem.W.Frag} {pi pi' : Nat → Addr} {n m : Nat} {H H' : Hp}
mutual
theorem Rep.ext (x : Ext n m pi pi' H H') : ∀ (d : D) (v : V), Rep K pi n H d v → Rep K pi' m H' d v
  | .non, _, .non => .non
  | .bl _, _, .bl _ => .bl _
  | .int _, _, .int _ => .int _
  | .str _, _, .str _ => .str _
  | .tup ds, _, .tup t r => .tup (x.tp _ _ t) (Reps.ext x ds _ r)
  | .wt ds, _, .wt t r => .wt t (Reps.ext x ds _ r)
  | .wl ds, _, .wl t r => .wl t (Reps.ext x ds _ r)
  | .ref i, _, .ref h => by rw [← x.ag i h]; exact .ref (Nat.lt_of_lt_of_le h x.le)
  | .cst _, _, .cst _ => .cst _
theorem Reps.ext (x : Ext n m pi pi' H H') : ∀ (d : List D) (v : List V), Reps K pi n H d v → Reps K pi' m H' d v
  | [], _, .nil => .nil
  | d :: ds, _, .cons r s => .cons (Rep.ext x d _ r) (Reps.ext x ds _ s)
end
theorem Sl.ext (x : Ext n m pi pi' H H') {l : Ls} {s : St} (h : Sl K pi n H l s) : Sl K pi' m H' l s := by
  induction h with
  | nil => exact .nil
  | no o _ ih => exact .no o ih
  | yes r _ ih => exact .yes (r.ext x _ _) ih
theorem RO.ext (x : Ext n m pi pi' H H') {a : Addr} {o : O} (h : RO K pi n H a o) (e : H' a = H a) : RO K pi' m H' a o := by
  cases o with
  | lst ds => obtain ⟨xs, h1, h2⟩ := h; exact ⟨xs, e.trans h1, h2.ext x _ _⟩
  | rol ds => obtain ⟨o, xs, h1, h2⟩ := h; exact ⟨o, xs, e.trans h1, h2.ext x _ _⟩
  | dic kvs => obtain ⟨ks, h1, h2, h3⟩ := h; exact ⟨ks, e.trans h1, h2, h3.ext x _ _⟩
  | dit kvs => obtain ⟨ks, h1, h2, h3⟩ := h; exact ⟨ks, e.trans h1, h2, h3.ext x _ _⟩
  | ins C fs => obtain ⟨dx, ks, h1, h2, h3⟩ := h; exact ⟨dx, ks, e.trans h1, h2, h3.ext x _ _⟩
theorem RO.some {a : Addr} {o : O} (h : RO K pi n H a o) : ∃ u, H a = some u ∧ ∀ xs, u ≠ .tup xs := by
  cases o with
  | lst ds => obtain ⟨xs, h1, h2⟩ := h; exact ⟨_, h1, fun _ => nofun⟩
  | rol ds => obtain ⟨o, xs, h1, h2⟩ := h; exact ⟨_, h1, fun _ => nofun⟩
  | dic kvs => obtain ⟨ks, h1, h2, h3⟩ := h; exact ⟨_, h1, fun _ => nofun⟩
  | dit kvs => obtain ⟨ks, h1, h2, h3⟩ := h; exact ⟨_, h1, fun _ => nofun⟩
  | ins C fs => obtain ⟨dx, ks, h1, h2, h3⟩ := h; exact ⟨_, h1, fun _ => nofun⟩
theorem Reps.len {ds : List D} {vs : List V} (h : Reps K pi n H ds vs) : ds.length = vs.length := by
  induction ds generalizing vs with
  | nil => cases h; rfl
  | cons d ds ih => cases h with | cons r s => rw [List.length_cons, List.length_cons, ih s]
theorem Reps.append {ds es : List D} {vs us : List V} (h : Reps K pi n H ds vs) (g : Reps K pi n H es us) : Reps K pi n H (ds ++ es) (vs ++ us) := by
  induction ds generalizing vs with
  | nil => cases h; exact g
  | cons d ds ih => cases h with | cons r s => exact .cons r (ih s)
theorem Reps.get {ds : List D} {vs : List V} (h : Reps K pi n H ds vs) {i : Nat} {d : D} (e : ds[i]? = some d) : ∃ v, vs[i]? = some v ∧ Rep K pi n H d v := by
  induction ds generalizing vs i with
  | nil => simp at e
  | cons d ds ih =>
    cases h with
    | cons r s =>
      cases i with
      | zero => simp at e; subst e; exact ⟨_, rfl, r⟩
      | succ i => simpa using ih s (by simpa using e)
theorem Reps.take {ds : List D} {vs : List V} (h : Reps K pi n H ds vs) (i : Nat) : Reps K pi n H (ds.take i) (vs.take i) := by
  induction ds generalizing vs i with
  | nil => cases h; simp; exact .nil
  | cons d ds ih => cases h with | cons r s => cases i with | zero => exact .nil | succ i => exact .cons r (ih s i)
theorem Reps.drop {ds : List D} {vs : List V} (h : Reps K pi n H ds vs) (i : Nat) : Reps K pi n H (ds.drop i) (vs.drop i) := by
  induction ds generalizing vs i with
  | nil => cases h; simp; exact .nil
  | cons d ds ih => cases h with | cons r s => cases i with | zero => exact .cons r s | succ i => exact ih s i
theorem Reps.set {ds : List D} {vs : List V} (h : Reps K pi n H ds vs) (i : Nat) {d : D} {v : V} (r : Rep K pi n H d v) : Reps K pi n H (ds.set i d) (vs.set i v) := by
  induction ds generalizing vs i with
  | nil => cases h; exact .nil
  | cons d ds ih => cases h with | cons r s => cases i with | zero => exact .cons (by assumption) s | succ i => exact .cons r (ih s i)
theorem Sl.len {l : Ls} {s : St} (h : Sl K pi n H l s) : l.length = s.length := by
  induction h with
  | nil => rfl
  | no _ _ ih => simp [ih]
  | yes _ _ ih => simp [ih]
theorem Sl.get {l : Ls} {s : St} (h : Sl K pi n H l s) {i : Nat} {d : D} (e : l[i]? = some (some d)) : ∃ v, s[i]? = some (some v) ∧ Rep K pi n H d v := by
  induction h generalizing i with
  | nil => simp at e
  | no o _ ih =>
    cases i with
    | zero => simp at e
    | succ i => simpa using ih (by simpa using e)
  | yes r _ ih =>
    cases i with
    | zero => simp at e; subst e; exact ⟨_, rfl, r⟩
    | succ i => simpa using ih (by simpa using e)
theorem Sl.set {l : Ls} {s : St} (h : Sl K pi n H l s) (i : Nat) {d : D} {v : V} (r : Rep K pi n H d v) : Sl K pi n H (l.set i (some d)) (s.set i (some v)) := by
  induction h generalizing i with
  | nil => exact .nil
  | no o t ih => cases i with | zero => exact .yes r t | succ i => exact .no o (ih i)
  | yes q t ih => cases i with | zero => exact .yes r t | succ i => exact .yes q (ih i)
theorem Sl.skip {l : Ls} {s : St} (h : Sl K pi n H l s) (i : Nat) (o : Option V) : Sl K pi n H (l.set i none) (s.set i o) := by
  induction h generalizing i with
  | nil => exact .nil
  | no o t ih => cases i with | zero => exact .no _ t | succ i => exact .no _ (ih i)
  | yes q t ih => cases i with | zero => exact .no _ t | succ i => exact .yes q (ih i)
def piN (pi : Nat → Addr) (n : Nat) (p : Addr) : Nat → Addr := fun i => if i = n then p else pi i
theorem piN_same {p : Addr} : piN pi n p n = p := if_pos rfl
theorem piN_ne {p : Addr} {i : Nat} (h : i ≠ n) : piN pi n p i = pi i := if_neg h
theorem Real.at {S : Hs} (R : Real K pi S H) {i : Nat} (h : i < S.length) : ∃ u, H (pi i) = some u ∧ ∀ xs, u ≠ .tup xs := (R.ob i _ (List.getElem?_eq_getElem h)).some
theorem ext_new {S : Hs} {p : Addr} {u : HO} (hp : H p = none) : Ext S.length (S.length + 1) pi (piN pi S.length p) H (upd H p u) :=
  ⟨Nat.le_succ _, fun i h => piN_ne (Nat.ne_of_lt h), fun a xs h => by rw [upd_ne (ne_of_none h hp)]; exact h⟩
theorem Real.new {S : Hs} {p : Addr} {u : HO} {o : O} (R : Real K pi S H) (hp : H p = none) (h : RO K (piN pi S.length p) (S.length + 1) (upd H p u) p o) : Real K (piN pi S.length p) (S ++ [o]) (upd H p u) := by
  have hn : ∀ i, i < S.length → pi i ≠ p := fun i hi => by obtain ⟨u, e, _⟩ := R.at hi; exact ne_of_none e hp
  refine ⟨fun i o' e => ?_, fun i j hi hj e => ?_⟩
  · rw [List.length_append, List.length_singleton]
    by_cases hi : i < S.length
    · rw [List.getElem?_append_left hi] at e
      rw [piN_ne (Nat.ne_of_lt hi)]
      exact (R.ob i o' e).ext (ext_new hp) (upd_ne (hn i hi))
    · rw [List.getElem?_append_right (Nat.le_of_not_lt hi)] at e
      have : i = S.length := by
        have := (List.getElem?_eq_some_iff.mp e).1
        simp at this; omega
      subst this
      simp at e; subst e
      rw [piN_same]; exact h
  · simp at hi hj
    by_cases h1 : i = S.length <;> by_cases h2 : j = S.length
    · omega
    · subst h1; rw [piN_same, piN_ne h2] at e; exact absurd e.symm (hn j (by omega))
    · subst h2; rw [piN_same, piN_ne h1] at e; exact absurd e (hn i (by omega))
    · rw [piN_ne h1, piN_ne h2] at e; exact R.inj i j (by omega) (by omega) e
theorem ext_upd {a : Addr} {u : HO} (h : ∀ xs, H a ≠ some (.tup xs)) : Ext n n pi pi H (upd H a u) :=
  ⟨Nat.le_refl _, fun _ _ => rfl, fun b xs e => by
    by_cases hb : b = a
    · subst hb; exact absurd e (h xs)
    · rw [upd_ne hb]; exact e⟩
theorem Real.notup {S : Hs} (R : Real K pi S H) {i : Nat} (h : i < S.length) : ∀ xs, H (pi i) ≠ some (.tup xs) := fun xs e => by
  obtain ⟨u, e1, e2⟩ := R.at h
  rw [e] at e1; exact e2 xs (Option.some.inj e1).symm
theorem Real.put {S : Hs} {i : Nat} {u : HO} {o : O} (R : Real K pi S H) (hi : i < S.length) (h : RO K pi S.length (upd H (pi i) u) (pi i) o) : Real K pi (S.set i o) (upd H (pi i) u) := by
  refine ⟨fun j o' e => ?_, fun j k hj hk e => R.inj j k (by simpa using hj) (by simpa using hk) e⟩
  rw [List.length_set]
  by_cases hj : j = i
  · subst hj
    rw [List.getElem?_set_self hi] at e
    cases e; exact h
  · rw [List.getElem?_set_ne (Ne.symm hj)] at e
    have hl := (List.getElem?_eq_some_iff.mp e).1
    exact (R.ob j o' e).ext (ext_upd (R.notup hi)) (upd_ne fun z => hj (R.inj j i hl hi z))
end
inductive R (α : Type) where
  | ok (a : α) (S : Hs)
  | exc (c : V) (fs : Option (List (Str × D))) (l : Ls) (S : Hs)
  | bad
def R.bind {α β : Type} (r : R α) (k : α → Hs → R β) : R β :=
  match r with
  | .ok a S => k a S
  | .exc c fs l S => .exc c fs l S
  | .bad => .bad
@[simp] theorem R.bind_ok {α β : Type} (a : α) (S : Hs) (k : α → Hs → R β) : (R.ok a S).bind k = k a S := (show (R.ok a S).bind k = k a S from rfl).trans (Eq.refl _)
@[simp] theorem R.bind_exc {α β : Type} (c fs l S) (k : α → Hs → R β) : (R.exc c fs l S : R α).bind k = .exc c fs l S := (show (R.exc c fs l S : R α).bind k = .exc c fs l S from rfl).trans (Eq.refl _)
@[simp] theorem R.bind_bad {α β : Type} (k : α → Hs → R β) : (R.bad : R α).bind k = .bad := (show (R.bad : R α).bind k = .bad from rfl).trans (Eq.refl _)
def XFs (K : PySem.W.Frag) (pi : Nat → Addr) (n : Nat) (H : Hp) : Option Addr → Option (List (Str × D)) → Prop
  | none, none => True
  | some d, some fs => ∃ ks, H d = some (.xd ks) ∧ ks.map (·.1) = fs.map (·.1) ∧ Reps K pi n H (fs.map (·.2)) (ks.map (·.2))
  | _, _ => False
def Post {α : Type} (K : PySem.W.Frag) (E : St → XK) (n : Nat) (pi : Nat → Addr) (H : Hp) (r : R α) (Q : α → Hs → (Nat → Addr) → Hp → Prop) : Prop :=
  match r with
  | .ok a S => ∀ pi' H', Ext n S.length pi pi' H H' → Real K pi' S H' → Q a S pi' H'
  | .exc c fs l S => ∀ pi' H' u d s, Ext n S.length pi pi' H H' → Real K pi' S H' → RelV c u → XFs K pi' S.length H' d fs → Sl K pi' S.length H' l s → E s u d H'
  | .bad => False
section
variable {α β : Type} {K : PySem.W.Frag} {E : St → XK} {n m : Nat} {pi pi' : Nat → Addr} {H H' : Hp}
theorem Post.ext {r : R α} {Q : α → Hs → (Nat → Addr) → Hp → Prop} (h : Post K E n pi H r Q) (x : Ext n m pi pi' H H') : Post K E m pi' H' r Q := by
  cases r with
  | ok a S => exact fun p2 H2 y R => h p2 H2 (x.trans y) R
  | exc c fs l S => exact fun p2 H2 u d s y R r f => h p2 H2 u d s (x.trans y) R r f
  | bad => exact h
theorem Post.mono {r : R α} {Q Q' : α → Hs → (Nat → Addr) → Hp → Prop} (h : Post K E n pi H r Q)
    (w : ∀ a S p2 H2, r = .ok a S → Ext n S.length pi p2 H H2 → Real K p2 S H2 → Q a S p2 H2 → Q' a S p2 H2) : Post K E n pi H r Q' := by
  cases r with
  | ok a S => exact fun p2 H2 y R => w a S p2 H2 rfl y R (h p2 H2 y R)
  | exc c fs l S => exact h
  | bad => exact h
theorem Post.bind {r : R α} {k : α → Hs → R β} {Q : β → Hs → (Nat → Addr) → Hp → Prop} (h : Post K E n pi H (r.bind k) Q) :
    Post K E n pi H r (fun a S1 p1 H1 => Post K E S1.length p1 H1 (k a S1) Q) := by
  cases r with
  | ok a S => exact fun p2 H2 y R => Post.ext (show Post K E n pi H (k a S) Q from h) y
  | exc c fs l S => exact h
  | bad => exact h
theorem Post.ok {a : α} {S : Hs} {Q : α → Hs → (Nat → Addr) → Hp → Prop} (h : Post K E n pi H (.ok a S) Q) (x : Ext n S.length pi pi' H H') (R : Real K pi' S H') : Q a S pi' H' := h pi' H' x R
end
abbrev M := Ls → Hs → R D
abbrev MB := Ls → Hs → R Bool
abbrev ML := Ls → Hs → R (List D)
inductive F where
  | nx (l : Ls) | rt (d : D) | bk (l : Ls) | ct (l : Ls)
abbrev MS := Ls → Hs → R F
abbrev QD (K : PySem.W.Frag) (Q : VK) : D → Hs → (Nat → Addr) → Hp → Prop := fun d S p H => ∀ v, Rep K p S.length H d v → Q v H
abbrev QL (K : PySem.W.Frag) (Q : List V → Hp → Prop) : List D → Hs → (Nat → Addr) → Hp → Prop := fun d S p H => ∀ v, Reps K p S.length H d v → Q v H
abbrev QB (Q : Bool → Hp → Prop) : Bool → Hs → (Nat → Addr) → Hp → Prop := fun d _ _ H => Q d H
def QF (K : PySem.W.Frag) (D0 : Ends) : F → Hs → (Nat → Addr) → Hp → Prop := fun f S p H =>
  match f with
  | .nx l => ∀ s, Sl K p S.length H l s → D0.nx s H
  | .rt d => ∀ v, Rep K p S.length H d v → D0.rt v H
  | .bk l => ∀ s, Sl K p S.length H l s → D0.bk s H
  | .ct l => ∀ s, Sl K p S.length H l s → D0.ct s H
def T (K : PySem.W.Frag) (E : St → XK) (f : M) : TE := fun s H Q => ∃ p l S, Real K p S H ∧ Sl K p S.length H l s ∧ Post K E S.length p H (f l S) (QD K Q)
def TB (K : PySem.W.Frag) (E : St → XK) (f : MB) : TT := fun s H Q => ∃ p l S, Real K p S H ∧ Sl K p S.length H l s ∧ Post K E S.length p H (f l S) (QB Q)
def TL (K : PySem.W.Frag) (E : St → XK) (f : ML) : TA := fun s H Q => ∃ p l S, Real K p S H ∧ Sl K p S.length H l s ∧ Post K E S.length p H (f l S) (QL K Q)
def TSt (K : PySem.W.Frag) (E : St → XK) (f : MS) : TS := fun D0 s H => ∃ p l S, Real K p S H ∧ Sl K p S.length H l s ∧ Post K E S.length p H (f l S) (QF K D0)
structure EM (X : Cx) (E : St → XK) (e : Expr) (f : M) : Prop where pe : PE X e (T X.K E f)
structure BM (X : Cx) (E : St → XK) (e : Expr) (f : MB) : Prop where pt : PT X e (TB X.K E f)
structure BW (X : Cx) (E : St → XK) (e : Expr) (f : MB) : Prop where pw : PW X e (TB X.K E f)
structure LM (X : Cx) (E : St → XK) (es : List Expr) (f : ML) : Prop where pa : PA X es (TL X.K E f)
structure SM (X : Cx) (E : St → XK) (st : Stmt) (f : MS) : Prop where ps : PS X st (TSt X.K E f)
structure SMs (X : Cx) (E : St → XK) (st : List Stmt) (f : MS) : Prop where ps : PSs X st (TSt X.K E f)
section
variable {X : Cx} {t t' : TE}
theorem _root_.L2.PE.weak {e : Expr} (h : PE X e t) (w : ∀ s H Q, t' s H Q → t s H Q) : PE X e t' := ⟨fun pins s σ H Q I q => h.run pins s σ H Q I (w σ H Q q)⟩
theorem _root_.L2.PT.weak {e : Expr} {t t' : TT} (h : PT X e t) (w : ∀ s H Q, t' s H Q → t s H Q) : PT X e t' := ⟨fun pins s σ H Q I q => h.run pins s σ H Q I (w σ H Q q)⟩
theorem _root_.L2.PW.weak {e : Expr} {t t' : TT} (h : PW X e t) (w : ∀ s H Q, t' s H Q → t s H Q) : PW X e t' := ⟨fun wh pins s σ H Q I q => h.run wh pins s σ H Q I (w σ H Q q)⟩
theorem _root_.L2.PA.weak {e : List Expr} {t t' : TA} (h : PA X e t) (w : ∀ s H Q, t' s H Q → t s H Q) : PA X e t' := ⟨fun pos pins s σ H Q I q => h.run pos pins s σ H Q I (w σ H Q q)⟩
theorem _root_.L2.PS.weak {e : Stmt} {t t' : TS} (h : PS X e t) (w : ∀ s H Q, t' Q s H → t Q s H) : PS X e t' := ⟨fun pins s σ H Q I q => h.run pins s σ H Q I (w σ H Q q)⟩
theorem _root_.L2.PSs.weak {e : List Stmt} {t t' : TS} (h : PSs X e t) (w : ∀ s H Q, t' Q s H → t Q s H) : PSs X e t' := ⟨fun pins s σ H Q I q => h.run pins s σ H Q I (w σ H Q q)⟩
end
section
variable {K : PySem.W.Frag} {E : St → XK} {s : St} {H : Hp} {β : Type} {QQ : β → Hs → (Nat → Addr) → Hp → Prop}
theorem T.of {f : M} {k : D → Hs → R β} {p : Nat → Addr} {l : Ls} {S : Hs} {Q' : VK} (R : Real K p S H) (L : Sl K p S.length H l s) (h : Post K E S.length p H ((f l S).bind k) QQ)
    (st : ∀ p1 S1 H1 d v, Real K p1 S1 H1 → Ext S.length S1.length p p1 H H1 → Sl K p1 S1.length H1 l s → Rep K p1 S1.length H1 d v → Post K E S1.length p1 H1 (k d S1) QQ → Q' v H1) : T K E f s H Q' :=
  ⟨p, l, S, R, L, h.bind.mono fun a S1 p1 H1 _ x R1 q v r => st p1 S1 H1 a v R1 x (L.ext x) r q⟩
theorem TB.of {f : MB} {k : Bool → Hs → R β} {p : Nat → Addr} {l : Ls} {S : Hs} {Q' : Bool → Hp → Prop} (R : Real K p S H) (L : Sl K p S.length H l s) (h : Post K E S.length p H ((f l S).bind k) QQ)
    (st : ∀ p1 S1 H1 b, Real K p1 S1 H1 → Ext S.length S1.length p p1 H H1 → Sl K p1 S1.length H1 l s → Post K E S1.length p1 H1 (k b S1) QQ → Q' b H1) : TB K E f s H Q' :=
  ⟨p, l, S, R, L, h.bind.mono fun a S1 p1 H1 _ x R1 q => st p1 S1 H1 a R1 x (L.ext x) q⟩
theorem TL.of {f : ML} {k : List D → Hs → R β} {p : Nat → Addr} {l : Ls} {S : Hs} {Q' : List V → Hp → Prop} (R : Real K p S H) (L : Sl K p S.length H l s) (h : Post K E S.length p H ((f l S).bind k) QQ)
    (st : ∀ p1 S1 H1 d v, Real K p1 S1 H1 → Ext S.length S1.length p p1 H H1 → Sl K p1 S1.length H1 l s → Reps K p1 S1.length H1 d v → Post K E S1.length p1 H1 (k d S1) QQ → Q' v H1) : TL K E f s H Q' :=
  ⟨p, l, S, R, L, h.bind.mono fun a S1 p1 H1 _ x R1 q v r => st p1 S1 H1 a v R1 x (L.ext x) r q⟩
theorem T.last {f : M} {p : Nat → Addr} {l : Ls} {S : Hs} {Q : VK} (R : Real K p S H) (L : Sl K p S.length H l s) (h : Post K E S.length p H (f l S) (QD K Q)) : T K E f s H Q := ⟨p, l, S, R, L, h⟩
end
end Ly
set_option Elab.async false
set_option linter.all false
set_option maxRecDepth 100000
namespace Ly
open PySem PySem.Spec L2
open PyProof.Rows hiding St
section
variable {K : PySem.W.Frag} {E : St → XK} {p : Nat → Addr} {S : Hs} {H : Hp} {Q : VK}
theorem ext_junk {n : Nat} {q : Addr} {u : HO} (hq : H q = none) : Ext n n p p H (upd H q u) :=
  ⟨Nat.le_refl _, fun _ _ => rfl, fun a xs h => by rw [upd_ne (ne_of_none h hq)]; exact h⟩
theorem Real.junk {q : Addr} {u : HO} (R : Real K p S H) (hq : H q = none) : Real K p S (upd H q u) :=
  ⟨fun i o e => (R.ob i o e).ext (ext_junk hq) (by
    obtain ⟨z, e1, _⟩ := (R.ob i o e).some
    exact upd_ne (ne_of_none e1 hq)), R.inj⟩
theorem Post.val {d : D} (h : Post K E S.length p H (.ok d S) (QD K Q)) (R : Real K p S H) {v : V} (r : Rep K p S.length H d v) : Q v H := Post.ok h Ext.refl R v r
theorem Post.valT {ds : List D} {xs : List V} (h : Post K E S.length p H (.ok (.tup ds) S) (QD K Q)) (R : Real K p S H) (r : Reps K p S.length H ds xs) {q : Addr} (hq : H q = none) : Q (.ref q) (upd H q (.tup xs)) :=
  Post.ok h (ext_junk hq) (R.junk hq) _ (.tup upd_same (r.ext (ext_junk hq) _ _))
theorem Post.new {o : O} {u : HO} (h : Post K E S.length p H (.ok (.ref S.length) (S ++ [o])) (QD K Q)) (R : Real K p S H) {q : Addr} (hq : H q = none)
    (ro : RO K (piN p S.length q) (S.length + 1) (upd H q u) q o) : Q (.ref q) (upd H q u) := by
  have e : (S ++ [o]).length = S.length + 1 := by simp
  have := Post.ok h (by rw [e]; exact ext_new hq) (R.new hq ro) (.ref (piN p S.length q S.length)) (.ref (by rw [e]; exact Nat.lt_succ_self _))
  rwa [piN_same] at this
theorem Post.newL {ds : List D} {xs : List V} (h : Post K E S.length p H (.ok (.ref S.length) (S ++ [.lst ds])) (QD K Q)) (R : Real K p S H) (r : Reps K p S.length H ds xs) {q : Addr} (hq : H q = none) : Q (.ref q) (upd H q (.lst xs)) :=
  h.new R hq ⟨xs, upd_same, r.ext (ext_new hq) _ _⟩
theorem Post.put {d : D} {i : Nat} {o : O} {u : HO} (h : Post K E S.length p H (.ok d (S.set i o)) (QD K Q)) (R : Real K p S H) (hi : i < S.length) (ro : RO K p S.length (upd H (p i) u) (p i) o) {v : V} (r : Rep K p S.length (upd H (p i) u) d v) : Q v (upd H (p i) u) := by
  have e : (S.set i o).length = S.length := by simp
  exact Post.ok h (by rw [e]; exact ext_upd (R.notup hi)) (R.put hi ro) v (by rw [e]; exact r)
theorem Real.lst {i : Nat} {ds : List D} (R : Real K p S H) (e : S[i]? = some (.lst ds)) : ∃ xs, H (p i) = some (.lst xs) ∧ Reps K p S.length H ds xs := R.ob i _ e
theorem Real.lt {i : Nat} {o : O} (e : S[i]? = some o) : i < S.length := (List.getElem?_eq_some_iff.mp e).1
end
def OpOk (K : PySem.W.Frag) (E : St → XK) (r : R2) (op : D → D → Hs → R D) : Prop :=
  ∀ p S H x y v u Q, Real K p S H → Rep K p S.length H x v → Rep K p S.length H y u → Post K E S.length p H (op x y S) (QD K Q) → r v u H Q
def mBin (op : D → D → Hs → R D) (f g : M) : M := fun l S => (f l S).bind fun x S1 => (g l S1).bind fun y S2 => op x y S2
instance (i j : Int) : Decidable (IntMulOk i j) := inferInstanceAs (Decidable (¬ _))
def oAdd : D → D → Hs → R D
  | .int i, .int j, S => .ok (.int (i + j)) S
  | .str x, .str y, S => if x.length + y.length ≤ sizeLine then .ok (.str (x ++ y)) S else .bad
  | .tup xs, .tup ys, S => if xs.length + ys.length ≤ sizeLine then .ok (.tup (xs ++ ys)) S else .bad
  | .ref i, .ref j, S => match S[i]?, S[j]? with
    | some (.lst xs), some (.lst ys) => if xs.length + ys.length ≤ sizeLine then .ok (.ref S.length) (S ++ [.lst (xs ++ ys)]) else .bad
    | _, _ => .bad
  | _, _, _ => .bad
def oSub : D → D → Hs → R D
  | .int i, .int j, S => .ok (.int (i - j)) S
  | _, _, _ => .bad
def oMul : D → D → Hs → R D
  | .int i, .int j, S => if IntMulOk i j then .ok (.int (i * j)) S else .bad
  | .ref i, .int k, S => match S[i]? with
    | some (.lst xs) => if -(2 ^ 63) ≤ k ∧ k < 2 ^ 63 ∧ xs.length * k.toNat ≤ sizeLine then .ok (.ref S.length) (S ++ [.lst (List.replicate k.toNat xs).flatten]) else .bad
    | _ => .bad
  | _, _, _ => .bad
def oFdiv : D → D → Hs → R D
  | .int i, .int j, S => if 0 < j ∧ j.natAbs.log2 < 9000 then .ok (.int (i / j)) S else .bad
  | _, _, _ => .bad
def oMod : D → D → Hs → R D
  | .int i, .int j, S => if 0 < j then .ok (.int (i % j)) S else .bad
  | _, _, _ => .bad
def oPow : D → D → Hs → R D
  | .int i, .int j, S => if 0 ≤ j ∧ j ≤ 1000000 ∧ i.natAbs < 2 ^ 64 then .ok (.int (i ^ j.toNat)) S else .bad
  | _, _, _ => .bad
def oAnd : D → D → Hs → R D
  | .int i, .int j, S => .ok (.int (Builtin.bitAnd i j)) S
  | _, _, _ => .bad
abbrev orR (r r' : R2) : R2 := fun x y H Q => r x y H Q ∨ r' x y H Q
section
variable {X : Cx} {E : St → XK} {a b : Expr} {f g : M} {pos : Pos}
theorem e_bin {o : Operator} {r : R2} {op : D → D → Hs → R D} (ho : OpR X (binaryOp o) r) (hk : OpOk X.K E r op) (ha : EM X E a f) (hb : EM X E b g) : EM X E (.BinOp a o b pos) (mBin op f g) :=
  ⟨(pe_op ho ha.pe hb.pe).weak fun s H Q ⟨p, l, S, R, L, h⟩ => T.of R L h fun p1 S1 H1 d v R1 x1 L1 r1 h1 => T.of R1 L1 h1 fun p2 S2 H2 d2 v2 R2 x2 L2 r2 h2 => hk p2 S2 H2 _ _ _ _ Q R2 (r1.ext x2 _ _) r2 h2⟩
abbrev rAddAll (K : PySem.W.Frag) : R2 := orR (rI0 fun i j => .int (i + j)) (orR (fun x y H Q => ∃ i j, x = V.str i ∧ y = V.str j ∧ i.length + j.length ≤ sizeLine ∧ Q (V.str (i ++ j)) H) (orR (rCatA K) rCat))
theorem or_add : OpR X (binaryOp .Add) (rAddAll X.K) := .or op_add (.or op_add_str (.or op_catA op_cat))
theorem ok_add {K : PySem.W.Frag} {E : St → XK} : OpOk K E (rAddAll K) oAdd := by
  intro p S H x y v u Q R rx ry h
  unfold oAdd at h
  split at h
  · cases rx; cases ry; exact .inl ⟨_, _, rfl, rfl, h.val R (.int _)⟩
  · split at h
    · rename_i hl; cases rx; cases ry; exact .inr (.inl ⟨_, _, rfl, rfl, hl, h.val R (.str _)⟩)
    · exact h.elim
  · split at h
    · rename_i xs ys _ hl
      cases rx with
      | @tup a ds vs t r =>
      cases ry with
      | @tup b es us t' r' =>
      refine .inr (.inr (.inl ⟨a, b, vs, us, rfl, rfl, SqT.of t, SqT.of t', by rw [← r.len, ← r'.len]; exact hl, fun e => ?_, fun e e' => ?_, fun e e' q hq => ?_⟩))
      · subst e; cases r; exact h.val R (.tup t' r')
      · subst e'; cases r'; rw [List.append_nil] at h; exact h.val R (.tup t r)
      · exact h.valT R (r.append r') hq
    · exact h.elim
  · split at h
    · rename_i i j _ _ _ xs ys e1 e2
      split at h
      · rename_i hl
        obtain ⟨vs, h1, r1⟩ := R.lst e1
        obtain ⟨us, h2, r2⟩ := R.lst e2
        cases rx; cases ry
        exact .inr (.inr (.inr ⟨_, _, vs, us, rfl, rfl, h1, h2, by rw [← r1.len, ← r2.len]; exact hl, fun q hq => h.newL R (r1.append r2) hq⟩))
      · exact h.elim
    · exact h.elim
  · exact h.elim
theorem e_add (ha : EM X E a f) (hb : EM X E b g) : EM X E (.BinOp a .Add b pos) (mBin oAdd f g) := e_bin or_add ok_add ha hb
theorem ok_I {K : PySem.W.Frag} {E : St → XK} {op : D → D → Hs → R D} {C : Int → Int → Prop} [∀ i j, Decidable (C i j)] {gg : Int → Int → Int}
    (h1 : ∀ i j S, op (.int i) (.int j) S = if C i j then .ok (.int (gg i j)) S else .bad) (h2 : ∀ x y S, (∀ i j, x = .int i → y = .int j → False) → op x y S = .bad) : OpOk K E (rI C fun i j => .int (gg i j)) op := by
  intro p S H x y v u Q R rx ry h
  by_cases e : ∃ i j, x = .int i ∧ y = .int j
  · obtain ⟨i, j, rfl, rfl⟩ := e
    rw [h1] at h
    cases rx; cases ry
    split at h
    · rename_i c; exact ⟨i, j, rfl, rfl, c, h.val R (.int _)⟩
    · exact h.elim
  · rw [h2 x y S fun i j a b => e ⟨i, j, a, b⟩] at h; exact h.elim
theorem ok_I0 {K : PySem.W.Frag} {E : St → XK} {op : D → D → Hs → R D} {gg : Int → Int → Int}
    (h1 : ∀ i j S, op (.int i) (.int j) S = .ok (.int (gg i j)) S) (h2 : ∀ x y S, (∀ i j, x = .int i → y = .int j → False) → op x y S = .bad) : OpOk K E (rI0 fun i j => .int (gg i j)) op := by
  intro p S H x y v u Q R rx ry h
  by_cases e : ∃ i j, x = .int i ∧ y = .int j
  · obtain ⟨i, j, rfl, rfl⟩ := e
    rw [h1] at h
    cases rx; cases ry
    exact ⟨i, j, rfl, rfl, h.val R (.int _)⟩
  · rw [h2 x y S fun i j a b => e ⟨i, j, a, b⟩] at h; exact h.elim
theorem e_sub (ha : EM X E a f) (hb : EM X E b g) : EM X E (.BinOp a .Sub b pos) (mBin oSub f g) :=
  e_bin op_sub (ok_I0 (fun _ _ _ => rfl) fun x y S h => by unfold oSub; split <;> first | rfl | exact (h _ _ rfl rfl).elim) ha hb
theorem op_mulA : OpR X (binaryOp .Mult) (rI IntMulOk fun i j => .int (i * j)) := opI fun _ _ _ _ _ _ _ hc q => mul_int q hc
theorem ok_mul {K : PySem.W.Frag} {E : St → XK} : OpOk K E (orR (rI IntMulOk fun i j => .int (i * j)) rRep) oMul := by
  intro p S H x y v u Q R rx ry h
  unfold oMul at h
  split at h
  · split at h
    · rename_i c; cases rx; cases ry; exact .inl ⟨_, _, rfl, rfl, c, h.val R (.int _)⟩
    · exact h.elim
  · split at h
    · rename_i e1
      split at h
      · rename_i hl
        obtain ⟨vs, h1, r1⟩ := R.lst e1
        cases rx; cases ry
        refine .inr ⟨_, _, vs, rfl, rfl, h1, hl.1, hl.2.1, by rw [← r1.len]; exact hl.2.2, fun q hq => h.newL R ?_ hq⟩
        generalize Int.toNat _ = n
        clear h hl
        induction n with
        | zero => exact .nil
        | succ n ih => rw [List.replicate_succ, List.replicate_succ, List.flatten_cons, List.flatten_cons]; exact r1.append ih
      · exact h.elim
    · exact h.elim
  · exact h.elim
theorem e_mul (ha : EM X E a f) (hb : EM X E b g) : EM X E (.BinOp a .Mult b pos) (mBin oMul f g) := e_bin (OpR.or op_mulA op_rep) ok_mul ha hb
theorem e_fdiv (ha : EM X E a f) (hb : EM X E b g) : EM X E (.BinOp a .FloorDiv b pos) (mBin oFdiv f g) :=
  e_bin op_fdivW (ok_I (C := fun _ j => 0 < j ∧ j.natAbs.log2 < 9000) (fun _ _ _ => rfl) fun x y S h => by unfold oFdiv; split <;> first | rfl | exact (h _ _ rfl rfl).elim) ha hb
theorem e_mod (ha : EM X E a f) (hb : EM X E b g) : EM X E (.BinOp a .Mod b pos) (mBin oMod f g) :=
  e_bin op_mod (ok_I (fun _ _ _ => rfl) fun x y S h => by unfold oMod; split <;> first | rfl | exact (h _ _ rfl rfl).elim) ha hb
theorem e_pow (ha : EM X E a f) (hb : EM X E b g) : EM X E (.BinOp a .Pow b pos) (mBin oPow f g) :=
  e_bin op_pow (ok_I (C := fun i j => 0 ≤ j ∧ j ≤ 1000000 ∧ i.natAbs < 2 ^ 64) (fun _ _ _ => rfl) fun x y S h => by unfold oPow; split <;> first | rfl | exact (h _ _ rfl rfl).elim) ha hb
theorem e_band (ha : EM X E a f) (hb : EM X E b g) : EM X E (.BinOp a .BitAnd b pos) (mBin oAnd f g) :=
  e_bin op_and (ok_I0 (fun _ _ _ => rfl) fun x y S h => by unfold oAnd; split <;> first | rfl | exact (h _ _ rfl rfl).elim) ha hb
def mVar (i : Nat) : M := fun l S => match l[i]? with
  | some (some d) => .ok d S
  | _ => .bad
def mC (d : D) : M := fun _ S => .ok d S
theorem e_of_var {e : Expr} {i : Nat} (h : PE X e (tVar i)) : EM X E e (mVar i) := ⟨h.weak fun s H Q ⟨p, l, S, R, L, h⟩ => by
  unfold mVar at h
  split at h
  · rename_i d e
    obtain ⟨v, h1, r⟩ := L.get e
    exact ⟨v, h1, h.val R r⟩
  · exact h.elim⟩
theorem e_of_c {e : Expr} {d : D} {v : V} (h : PE X e (tC v)) (hr : ∀ p n H, Rep X.K p n H d v) : EM X E e (mC d) := ⟨h.weak fun s H Q ⟨p, l, S, R, L, h⟩ => h.val R (hr _ _ _)⟩
theorem e_v (i : Nat) {x : Str} {pos : Pos} (hN : X.N[i]? = some x := by rfl) (hv : Vis X.env.scope x := by first | exact Or.inl rfl | exact Or.inr (Or.inl rfl) | exact Or.inr (Or.inr rfl)) (hd : (x == ("__debug__" : Str)) = false := by decide)
    (hcd : (x == ("__classdict__" : Str)) = false := by decide) : EM X E (.Name x pos) (mVar i) := e_of_var (pe_var hN hv hd hcd)
theorem e_int {i j pos} : EM X E (.Constant (.int i) j pos) (mC (.int i)) := e_of_c pe_int fun _ _ _ => .int _
theorem e_str {i j pos} : EM X E (.Constant (.str i) j pos) (mC (.str i)) := e_of_c pe_str fun _ _ _ => .str _
theorem e_bl {i j pos} : EM X E (.Constant (.bool i) j pos) (mC (.bl i)) := e_of_c pe_bl fun _ _ _ => .bl _
def oNeg : D → Hs → R D
  | .int i, S => .ok (.int (-i)) S
  | _, _ => .bad
def mUn (op : D → Hs → R D) (f : M) : M := fun l S => (f l S).bind op
theorem e_neg (ha : EM X E a f) : EM X E (.UnaryOp .USub a pos) (mUn oNeg f) := ⟨(pe_un un_neg ha.pe).weak fun s H Q ⟨p, l, S, R, L, h⟩ => T.of R L h fun p1 S1 H1 d v R1 x1 L1 r1 h1 => by
  unfold oNeg at h1
  split at h1
  · cases r1; exact ⟨_, rfl, h1.val R1 (.int _)⟩
  · exact h1.elim⟩
end
end Ly
set_option Elab.async false
set_option linter.all false
set_option maxRecDepth 100000
namespace Ly
open PySem PySem.Spec L2
open PyProof.Rows hiding St
mutual
def D.pd (S : Hs) : Nat → D → Option PyData
  | 0, _ => none
  | _ + 1, .non => some .none
  | _ + 1, .bl b => some (.bool b)
  | _ + 1, .int i => some (.int i)
  | _ + 1, .str x => some (.str x)
  | k + 1, .tup ds => (D.pds S k ds).map .tuple
  | k + 1, .wt ds => (D.pds S k ds).map .tuple
  | k + 1, .ref i => match S[i]? with
    | some (.lst ds) => (D.pds S k ds).map .list
    | some (.rol ds) => (D.pds S k ds).map .list
    | _ => none
  | _ + 1, .cst _ => none
  | _ + 1, .wl _ => none
def D.pds (S : Hs) : Nat → List D → Option (List PyData)
  | _, [] => some []
  | 0, _ :: _ => none
  | k + 1, d :: ds => match D.pd S k d, D.pds S (k + 1) ds with
    | some a, some b => some (a :: b)
    | _, _ => none
end
section
variable {K : PySem.W.Frag} {p : Nat → Addr} {S : Hs} {H : Hp}
mutual
theorem D.pd_dp (R : Real K p S H) : ∀ (k : Nat) (d : D) (v : V) (x : PyData), Rep K p S.length H d v → D.pd S k d = some x → Dp K H v x
  | 0, d, _, _, _, e => by simp [D.pd] at e
  | k + 1, .non, _, _, .non, e => by simp [D.pd] at e; subst e; exact .non
  | k + 1, .bl b, _, _, .bl _, e => by simp [D.pd] at e; subst e; exact .bl _
  | k + 1, .int b, _, _, .int _, e => by simp [D.pd] at e; subst e; exact .int _
  | k + 1, .str b, _, _, .str _, e => by simp [D.pd] at e; subst e; exact .str _
  | k + 1, .tup ds, _, _, .tup t r, e => by
    simp only [D.pd, Option.map_eq_some_iff] at e
    obtain ⟨xs, e, rfl⟩ := e
    exact .tup (SqT.of t) (D.pds_dp R k ds _ _ r e)
  | k + 1, .wt ds, _, _, .wt t r, e => by
    simp only [D.pd, Option.map_eq_some_iff] at e
    obtain ⟨xs, e, rfl⟩ := e
    exact .tup t.sq (D.pds_dp R k ds _ _ r e)
  | k + 1, .ref i, _, _, .ref h, e => by
    simp only [D.pd] at e
    split at e
    · rename_i ds q
      simp only [Option.map_eq_some_iff] at e
      obtain ⟨xs, e, rfl⟩ := e
      obtain ⟨vs, h1, r⟩ := R.lst q
      exact .lst (SqL.of h1) (D.pds_dp R k ds _ _ r e)
    · rename_i ds q
      simp only [Option.map_eq_some_iff] at e
      obtain ⟨xs, e, rfl⟩ := e
      obtain ⟨o, vs, h1, r⟩ := R.ob i _ q
      exact .lst (.inl (.inr ⟨o, h1⟩)) (D.pds_dp R k ds _ _ r e)
    · cases e
  | k + 1, .cst a, _, _, _, e => by simp [D.pd] at e
  | k + 1, .wl a, _, _, _, e => by simp [D.pd] at e
theorem D.pds_dp (R : Real K p S H) : ∀ (k : Nat) (d : List D) (v : List V) (x : List PyData), Reps K p S.length H d v → D.pds S k d = some x → DpAll K H v x
  | k, [], _, _, .nil, e => by cases k <;> (simp [D.pds] at e; subst e; exact .nil)
  | 0, d :: ds, _, _, _, e => by simp [D.pds] at e
  | k + 1, d :: ds, _, _, .cons r s, e => by
    simp only [D.pds] at e
    split at e
    · rename_i a b e1 e2
      cases e
      exact .cons (D.pd_dp R k d _ _ r e1) (D.pds_dp R (k + 1) ds _ _ s e2)
    · cases e
end
end
def cEqS : D → D → Option Bool
  | .int i, .int j => some (decide (i = j))
  | .str i, .str j => some (decide (i = j))
  | .bl i, .bl j => some (decide (i = j))
  | .non, .non => some true
  | .non, .int _ => some false
  | .int _, .non => some false
  | .non, .bl _ => some false
  | .bl _, .non => some false
  | .non, .str _ => some false
  | .str _, .non => some false
  | .int _, .str _ => some false
  | .str _, .int _ => some false
  | .bl _, .str _ => some false
  | .str _, .bl _ => some false
  | _, _ => none
def cEqD (x y : D) (S : Hs) : Option Bool :=
  match cEqS x y with
  | some b => some b
  | none => match D.pd S 70 x, D.pd S 70 y with
    | some a, some b => if SeqAt.shaped a = true ∧ SeqAt.shaped b = true then some (PyData.eqv a b) else none
    | _, _ => none
def oEq (x y : D) (S : Hs) : R D := match cEqD x y S with
  | some b => .ok (.bl b) S
  | none => .bad
def oNe (x y : D) (S : Hs) : R D := match cEqD x y S with
  | some b => .ok (.bl (!b)) S
  | none => .bad
def oLt : D → D → Hs → R D
  | .int i, .int j, S => .ok (.bl (decide (i < j))) S
  | _, _, _ => .bad
def oLe : D → D → Hs → R D
  | .int i, .int j, S => .ok (.bl (decide (i ≤ j))) S
  | _, _, _ => .bad
def oGt : D → D → Hs → R D
  | .int i, .int j, S => .ok (.bl (decide (j < i))) S
  | _, _, _ => .bad
def oGe : D → D → Hs → R D
  | .int i, .int j, S => .ok (.bl (decide (j ≤ i))) S
  | _, _, _ => .bad
def D.isNon : D → Bool
  | .non => true
  | _ => false
def oIs : D → D → Hs → R D
  | x, .non, S => .ok (.bl x.isNon) S
  | .bl a, .bl b, S => .ok (.bl (decide (a = b))) S
  | _, _, _ => .bad
def oIsNot : D → D → Hs → R D
  | x, .non, S => .ok (.bl (!x.isNon)) S
  | .bl a, .bl b, S => .ok (.bl (!decide (a = b))) S
  | _, _, _ => .bad
def eqF : D → D → Bool
  | .non, .non => true
  | .bl a, .bl b => a == b
  | .bl a, .int b => (if a then 1 else 0) == b
  | .int a, .bl b => a == (if b then 1 else 0)
  | .int a, .int b => a == b
  | .str a, .str b => a == b
  | _, _ => false
def flatD : D → Bool
  | .non => true
  | .bl _ => true
  | .int _ => true
  | .str _ => true
  | _ => false
def inS (i j : Str) : Bool := match i with
  | ⟨⟨[c]⟩⟩ => decide (c ∈ j.cps.toList)
  | _ => !(Builtin.Str.occurrences j i 0 j.length 1).isEmpty
def D.key : D → Option Key
  | .int i => some (.inl i)
  | .str x => some (.inr x)
  | _ => none
def D.keys : List D → Option (List Key)
  | [] => some []
  | d :: ds => match d.key, D.keys ds with
    | some k, some l => some (k :: l)
    | _, _ => none
def D.tkey : D → Option (List Key)
  | .tup ds => D.keys ds
  | _ => none
def getK {κ : Type} [DecidableEq κ] (kvs : List (κ × D)) (k : κ) : Option D := (kvs.find? fun kv => decide (kv.1 = k)).map (·.2)
def setK {κ : Type} [DecidableEq κ] (kvs : List (κ × D)) (k : κ) (v : D) : List (κ × D) :=
  if (kvs.any fun kv => decide (kv.1 = k)) = true then kvs.map fun kv => if kv.1 = k then (kv.1, v) else kv else kvs ++ [(k, v)]
def dGet (x y : D) (S : Hs) : Option (Option D) := match x with
  | .ref i => match S[i]? with
    | some (.dic kvs) => match y.key with
      | some k => some (getK kvs k)
      | none => none
    | some (.dit kvs) => match y.tkey with
      | some k => some (getK kvs k)
      | none => none
    | _ => none
  | _ => none
def cIn (x y : D) (S : Hs) : Option Bool := match x, y with
  | .str i, .str j => some (inS i j)
  | x, .tup ds => if flatD x && ds.all flatD then some (ds.any fun z => eqF z x) else
    match D.pd S 70 x, D.pd S 70 (.tup ds) with
    | some a, some (.tuple b) => if SeqAt.shaped a = true ∧ SeqAt.shaped (.tuple b) = true then some (b.any fun z => z.eqv a) else none
    | _, _ => none
  | x, .wt ds => if flatD x && ds.all flatD then some (ds.any fun z => eqF z x) else
    match D.pd S 70 x, D.pd S 70 (.wt ds) with
    | some a, some (.tuple b) => if SeqAt.shaped a = true ∧ SeqAt.shaped (.tuple b) = true then some (b.any fun z => z.eqv a) else none
    | _, _ => none
  | x, .ref i => match S[i]? with
    | some (.lst ds) => if flatD x && ds.all flatD then some (ds.any fun z => eqF z x) else
      match D.pd S 70 x, D.pd S 70 (.ref i) with
      | some a, some (.list b) => if SeqAt.shaped a = true ∧ SeqAt.shaped (.list b) = true then some (b.any fun z => z.eqv a) else none
      | _, _ => none
    | some (.dic kvs) => (dGet (.ref i) x S).map (·.isSome)
    | some (.dit kvs) => (dGet (.ref i) x S).map (·.isSome)
    | _ => none
  | _, _ => none
def oIn (x y : D) (S : Hs) : R D := match cIn x y S with
  | some b => .ok (.bl b) S
  | none => .bad
def oNotIn (x y : D) (S : Hs) : R D := match cIn x y S with
  | some b => .ok (.bl (!b)) S
  | none => .bad
section
variable {K : PySem.W.Frag} {E : St → XK} {p : Nat → Addr} {S : Hs} {H : Hp} {n : Nat} {pi : Nat → Addr}
theorem cEqS_V {x y : D} {v u : V} {b : Bool} (rx : Rep K pi n H x v) (ry : Rep K pi n H y u) (h : cEqS x y = some b) : scal v u = true ∧ decide (v = u) = b := by
  unfold cEqS at h
  split at h <;> first | (cases h; done) | (cases rx; cases ry; cases h; exact ⟨rfl, by simp⟩)
theorem ok_eq : OpOk K E (orR rEq (rEqD K)) oEq := by
  intro p S H x y v u Q R rx ry h
  unfold oEq at h
  split at h
  · rename_i b e
    unfold cEqD at e
    split at e
    · rename_i c e1
      cases e
      obtain ⟨h1, h2⟩ := cEqS_V rx ry e1
      exact .inl ⟨h1, by rw [h2]; exact h.val R (.bl _)⟩
    · split at e
      · rename_i a c e1 e2
        split at e
        · rename_i hs
          cases e
          exact .inr ⟨a, c, D.pd_dp R _ _ _ _ rx e1, D.pd_dp R _ _ _ _ ry e2, hs.1, hs.2, h.val R (.bl _)⟩
        · cases e
      · cases e
  · exact h.elim
theorem ok_ne : OpOk K E (orR rNe (rNeD K)) oNe := by
  intro p S H x y v u Q R rx ry h
  unfold oNe at h
  split at h
  · rename_i b e
    unfold cEqD at e
    split at e
    · rename_i c e1
      cases e
      obtain ⟨h1, h2⟩ := cEqS_V rx ry e1
      exact .inl ⟨h1, by rw [h2]; exact h.val R (.bl _)⟩
    · split at e
      · rename_i a c e1 e2
        split at e
        · rename_i hs
          cases e
          exact .inr ⟨a, c, D.pd_dp R _ _ _ _ rx e1, D.pd_dp R _ _ _ _ ry e2, hs.1, hs.2, h.val R (.bl _)⟩
        · cases e
      · cases e
  · exact h.elim
theorem ok_B0 {op : D → D → Hs → R D} {gg : Int → Int → Bool} (h1 : ∀ i j S, op (.int i) (.int j) S = .ok (.bl (gg i j)) S) (h2 : ∀ x y S, (∀ i j, x = .int i → y = .int j → False) → op x y S = .bad) : OpOk K E (rI0 fun i j => .bl (gg i j)) op := by
  intro p S H x y v u Q R rx ry h
  by_cases e : ∃ i j, x = .int i ∧ y = .int j
  · obtain ⟨i, j, rfl, rfl⟩ := e
    rw [h1] at h
    cases rx; cases ry
    exact ⟨i, j, rfl, rfl, h.val R (.bl _)⟩
  · rw [h2 x y S fun i j a b => e ⟨i, j, a, b⟩] at h; exact h.elim
theorem ok_lt : OpOk K E (rI0 fun i j => .bl (decide (i < j))) oLt := ok_B0 (fun _ _ _ => rfl) fun x y S h => by unfold oLt; split <;> first | rfl | exact (h _ _ rfl rfl).elim
theorem ok_le : OpOk K E (rI0 fun i j => .bl (decide (i ≤ j))) oLe := ok_B0 (fun _ _ _ => rfl) fun x y S h => by unfold oLe; split <;> first | rfl | exact (h _ _ rfl rfl).elim
theorem ok_gt : OpOk K E (rI0 fun i j => .bl (decide (j < i))) oGt := ok_B0 (fun _ _ _ => rfl) fun x y S h => by unfold oGt; split <;> first | rfl | exact (h _ _ rfl rfl).elim
theorem ok_ge : OpOk K E (rI0 fun i j => .bl (decide (j ≤ i))) oGe := ok_B0 (fun _ _ _ => rfl) fun x y S h => by unfold oGe; split <;> first | rfl | exact (h _ _ rfl rfl).elim
theorem flat_V {x : D} {v : V} (rx : Rep K pi n H x v) (h : flatD x = true) : flatV v = true := by cases rx <;> first | rfl | cases h
theorem eqF_V {x y : D} {v u : V} (rx : Rep K pi n H x v) (ry : Rep K pi n H y u) (h : flatD y = true) : eqF x y = eqV v u := by cases rx <;> cases ry <;> first | rfl | cases h
theorem flats_V {ds : List D} {vs : List V} (r : Reps K pi n H ds vs) (h : ds.all flatD = true) : vs.all flatV = true := by
  induction ds generalizing vs with
  | nil => cases r; rfl
  | cons d ds ih =>
    cases r with
    | cons r s =>
      rw [List.all_cons, Bool.and_eq_true] at h ⊢
      exact ⟨flat_V r h.1, ih s h.2⟩
theorem any_V {ds : List D} {vs : List V} {x : D} {v : V} (r : Reps K pi n H ds vs) (rx : Rep K pi n H x v) (h : flatD x = true) : (ds.any fun z => eqF z x) = inV v vs := by
  unfold inV
  induction ds generalizing vs with
  | nil => cases r; rfl
  | cons d ds ih =>
    cases r with
    | cons r s => rw [List.any_cons, List.any_cons, eqF_V r rx h, ih s]
theorem key_V {y : D} {u : V} {k : Key} (ry : Rep K pi n H y u) (h : y.key = some k) : u = kV k := by
  unfold D.key at h
  split at h <;> first | (cases ry; cases h; rfl) | cases h
theorem keys_V {ds : List D} {vs : List V} {k : List Key} (r : Reps K pi n H ds vs) (h : D.keys ds = some k) : vs = k.map kV := by
  induction ds generalizing vs k with
  | nil => cases r; cases h; rfl
  | cons d ds ih =>
    cases r with
    | cons r s =>
      simp only [D.keys] at h
      split at h
      · rename_i a b e1 e2
        cases h
        rw [key_V r e1, ih s e2]; rfl
      · cases h
def GetRel (K : PySem.W.Frag) (p : Nat → Addr) (n : Nat) (H : Hp) (o : Option D) (w : Option V) : Prop := match o with
  | some d => ∃ z, w = some z ∧ Rep K p n H d z
  | none => w = none
theorem getK_V {κ : Type} [DecidableEq κ] {kvs : List (κ × D)} {ks : List (κ × V)} (h : ks.map (·.1) = kvs.map (·.1)) (r : Reps K pi n H (kvs.map (·.2)) (ks.map (·.2))) (k : κ) : GetRel K pi n H (getK kvs k) (valV ks k) := by
  induction kvs generalizing ks with
  | nil => cases ks with | nil => exact rfl | cons a b => cases h
  | cons a kvs ih =>
    cases ks with
    | nil => cases h
    | cons b ks =>
      simp only [List.map_cons, List.cons.injEq] at h
      cases r with
      | cons r s =>
        have := ih h.2 s
        unfold getK valV at this ⊢
        by_cases e : a.1 = k
        · rw [List.find?_cons_of_pos (by simpa using e)]
          refine ⟨b.2, ?_, r⟩
          rw [List.find?_cons_of_pos (by simpa [h.1] using e)]; rfl
        · rw [List.find?_cons_of_neg (by simpa using e), List.find?_cons_of_neg (by simpa [h.1] using e)]
          exact this
theorem dGet_V {x y : D} {v u : V} {o : Option D} (R : Real K p S H) (rx : Rep K p S.length H x v) (ry : Rep K p S.length H y u) (h : dGet x y S = some o) :
    ∃ a w, v = .ref a ∧ DGet H a u w ∧ GetRel K p S.length H o w := by
  cases x with
  | ref i =>
    cases rx
    simp only [dGet] at h
    split at h
    · rename_i kvs q
      obtain ⟨ks, h1, h2, h3⟩ := R.ob i _ q
      split at h
      · rename_i k ek
        cases h
        exact ⟨_, _, rfl, .inl ⟨ks, k, .inl h1, key_V ry ek, rfl⟩, getK_V h2 h3 k⟩
      · cases h
    · rename_i kvs q
      obtain ⟨ks, h1, h2, h3⟩ := R.ob i _ q
      split at h
      · rename_i k ek
        cases h
        unfold D.tkey at ek
        split at ek
        · cases ry with
          | @tup b _ vs t r =>
          exact ⟨_, _, rfl, .inr ⟨ks, k, b, .inl h1, rfl, by rw [← keys_V r ek]; exact t, rfl⟩, getK_V h2 h3 k⟩
        · cases ek
      · cases h
    · cases h
  | _ => cases h
abbrev rDIn : R2 := fun x y H Q => ∃ a o, y = .ref a ∧ DGet H a x o ∧ Q (.bl o.isSome) H
abbrev rDNotIn : R2 := fun x y H Q => ∃ a o, y = .ref a ∧ DGet H a x o ∧ Q (.bl (!o.isSome)) H
abbrev rInStr : R2 := fun x y H Q => ∃ i j, x = V.str i ∧ y = V.str j ∧ Q (V.bl !(Builtin.Str.occurrences j i 0 j.length 1).isEmpty) H
abbrev rInSign : R2 := fun x y H Q => ∃ (c : Nat) (z : Str), x = .str ⟨#[c]⟩ ∧ y = .str z ∧ Q (.bl (decide (c ∈ z.cps.toList))) H
def rInDT (K : PySem.W.Frag) : R2 := fun x y H Q => ∃ d ds, Dp K H x d ∧ Dp K H y (.tuple ds) ∧ SeqAt.shaped d = true ∧ SeqAt.shaped (.tuple ds) = true ∧ Q (.bl (ds.any fun z => PyData.eqv z d)) H
def rNotInDT (K : PySem.W.Frag) : R2 := fun x y H Q => ∃ d ds, Dp K H x d ∧ Dp K H y (.tuple ds) ∧ SeqAt.shaped d = true ∧ SeqAt.shaped (.tuple ds) = true ∧ Q (.bl (!ds.any fun z => PyData.eqv z d)) H
theorem op_inDT {X : Cx} (hu : X.A.units + 65 < cLine) : OpR X (compareOp .In) (rInDT X.K) := by
  intro pins s σ H x y v u Q I rx ry h
  obtain ⟨d, ds, hd, he, sd, se, q⟩ := h
  obtain ⟨as, r1⟩ := Dp.reads I d x v hd rx
  obtain ⟨bs, r2⟩ := Dp.reads I (.tuple ds) y u he ry
  exact SeqAt.in_tuple_reads r2 r1 (SeqAt.canLay_of_shaped se) (SeqAt.canLay_of_shaped sd) (room_in_shaped sd hu) ⟨.bl _, H, I, rfl, q⟩
theorem op_notInDT {X : Cx} (hu : X.A.units + 65 < cLine) : OpR X (compareOp .NotIn) (rNotInDT X.K) := by
  intro pins s σ H x y v u Q I rx ry h
  obtain ⟨d, ds, hd, he, sd, se, q⟩ := h
  obtain ⟨as, r1⟩ := Dp.reads I d x v hd rx
  obtain ⟨bs, r2⟩ := Dp.reads I (.tuple ds) y u he ry
  exact SeqAt.notIn_tuple_reads r2 r1 (SeqAt.canLay_of_shaped se) (SeqAt.canLay_of_shaped sd) (room_in_shaped sd hu) ⟨.bl _, H, I, rfl, q⟩
abbrev rInAll (K : PySem.W.Frag) : R2 := orR rInSign (orR rInStr (orR (rIn K false) (orR (rInD K) (orR (rInDT K) rDIn))))
abbrev rNotInStr : R2 := fun x y H Q => ∃ i j, x = V.str i ∧ y = V.str j ∧ Q (V.bl !(!(Builtin.Str.occurrences j i 0 j.length 1).isEmpty)) H
abbrev rNotInSign : R2 := fun x y H Q => ∃ (c : Nat) (z : Str), x = .str ⟨#[c]⟩ ∧ y = .str z ∧ Q (.bl (!decide (c ∈ z.cps.toList))) H
abbrev rNotInAll (K : PySem.W.Frag) : R2 := orR rNotInSign (orR rNotInStr (orR (rIn K true) (orR (rNotInD K) (orR (rNotInDT K) rDNotIn))))
theorem or_din {X : Cx} (hu : X.A.units + 1 < cLine) : OpR X (compareOp .In) rDIn := by
  intro pins s σ H x y v u Q I rx ry h
  obtain ⟨a, o, rfl, g, q⟩ := h
  obtain rfl : u = Value.ref a := ry
  exact d_in hu I g rx fun s3 I3 => ⟨.bl o.isSome, H, I3, rfl, q⟩
theorem or_dnotin {X : Cx} (hu : X.A.units + 1 < cLine) : OpR X (compareOp .NotIn) rDNotIn := by
  intro pins s σ H x y v u Q I rx ry h
  obtain ⟨a, o, rfl, g, q⟩ := h
  obtain rfl : u = Value.ref a := ry
  exact d_notIn hu I g rx fun s3 I3 => ⟨.bl (!o.isSome), H, I3, rfl, q⟩
theorem cIn_V {x y : D} {v u : V} {b : Bool} (R : Real K p S H) (rx : Rep K p S.length H x v) (ry : Rep K p S.length H y u) (h : cIn x y S = some b) :
    (∃ (c : Nat) (z : Str), v = .str ⟨#[c]⟩ ∧ u = .str z ∧ b = decide (c ∈ z.cps.toList)) ∨ (∃ i j, v = V.str i ∧ u = V.str j ∧ b = !(Builtin.Str.occurrences j i 0 j.length 1).isEmpty) ∨
    (∃ q xs, u = .ref q ∧ (SqL K H q xs ∨ SqT K H q xs) ∧ flatV v = true ∧ xs.all flatV = true ∧ b = inV v xs) ∨
    (∃ d ds, Dp K H v d ∧ Dp K H u (.list ds) ∧ SeqAt.shaped d = true ∧ SeqAt.shaped (.list ds) = true ∧ b = ds.any fun z => z.eqv d) ∨
    (∃ d ds, Dp K H v d ∧ Dp K H u (.tuple ds) ∧ SeqAt.shaped d = true ∧ SeqAt.shaped (.tuple ds) = true ∧ b = ds.any fun z => z.eqv d) ∨
    (∃ a o, u = .ref a ∧ DGet H a v o ∧ b = o.isSome) := by
  have dic : ∀ i, y = .ref i → ((dGet (.ref i) x S).map (·.isSome)) = some b → ∃ a o, u = .ref a ∧ DGet H a v o ∧ b = o.isSome := fun i e hh => by
    subst e
    rw [Option.map_eq_some_iff] at hh
    obtain ⟨o, hh, rfl⟩ := hh
    obtain ⟨a, w, e1, g, m⟩ := dGet_V R ry rx hh
    refine ⟨a, w, e1, g, ?_⟩
    cases o with
    | none => rw [m]; rfl
    | some d => obtain ⟨z, e, _⟩ := m; rw [e]; rfl
  unfold cIn at h
  split at h
  · rename_i i j
    cases h; cases rx; cases ry
    unfold inS
    split
    · exact .inl ⟨_, _, rfl, rfl, rfl⟩
    · exact .inr (.inl ⟨_, _, rfl, rfl, rfl⟩)
  · split at h
    · rename_i hf
      rw [Bool.and_eq_true] at hf
      cases h
      cases ry with
      | tup t r => exact .inr (.inr (.inl ⟨_, _, rfl, .inr (SqT.of t), flat_V rx hf.1, flats_V r hf.2, any_V r rx hf.1⟩))
    · split at h
      · rename_i a c e1 e2
        split at h
        · rename_i hs
          cases h
          exact .inr (.inr (.inr (.inr (.inl ⟨a, c, D.pd_dp R _ _ _ _ rx e1, D.pd_dp R _ _ _ _ ry e2, hs.1, hs.2, rfl⟩))))
        · cases h
      · cases h
  · split at h
    · rename_i hf
      rw [Bool.and_eq_true] at hf
      cases h
      cases ry with
      | wt t r => exact .inr (.inr (.inl ⟨_, _, rfl, .inr t.sq, flat_V rx hf.1, flats_V r hf.2, any_V r rx hf.1⟩))
    · split at h
      · rename_i a c e1 e2
        split at h
        · rename_i hs
          cases h
          exact .inr (.inr (.inr (.inr (.inl ⟨a, c, D.pd_dp R _ _ _ _ rx e1, D.pd_dp R _ _ _ _ ry e2, hs.1, hs.2, rfl⟩))))
        · cases h
      · cases h
  · rename_i i
    split at h
    · rename_i ds q
      obtain ⟨vs, h1, r⟩ := R.lst q
      split at h
      · rename_i hf
        rw [Bool.and_eq_true] at hf
        cases h
        cases ry
        exact .inr (.inr (.inl ⟨_, _, rfl, .inl (SqL.of h1), flat_V rx hf.1, flats_V r hf.2, any_V r rx hf.1⟩))
      · split at h
        · rename_i a c e1 e2
          split at h
          · rename_i hs
            cases h
            exact .inr (.inr (.inr (.inl ⟨a, c, D.pd_dp R _ _ _ _ rx e1, D.pd_dp R _ _ _ _ ry e2, hs.1, hs.2, rfl⟩)))
          · cases h
        · cases h
    · exact .inr (.inr (.inr (.inr (.inr (dic i rfl h)))))
    · exact .inr (.inr (.inr (.inr (.inr (dic i rfl h)))))
    · cases h
  · cases h
theorem ok_in : OpOk K E (rInAll K) oIn := by
  intro p S H x y v u Q R rx ry h
  unfold oIn at h
  split at h
  · rename_i b e
    have hq : Q (.bl b) H := h.val R (.bl _)
    rcases cIn_V R rx ry e with ⟨c, z, h1, h2, rfl⟩ | ⟨i, j, h1, h2, rfl⟩ | ⟨q, xs, h1, h2, h3, h4, rfl⟩ | ⟨d, ds, h1, h2, h3, h4, rfl⟩ | ⟨d, ds, h1, h2, h3, h4, rfl⟩ | ⟨a, o, h1, h2, rfl⟩
    · exact .inl ⟨c, z, h1, h2, hq⟩
    · exact .inr (.inl ⟨i, j, h1, h2, hq⟩)
    · exact .inr (.inr (.inl ⟨q, xs, h1, h2, h3, h4, hq⟩))
    · exact .inr (.inr (.inr (.inl ⟨d, ds, h1, h2, h3, h4, hq⟩)))
    · exact .inr (.inr (.inr (.inr (.inl ⟨d, ds, h1, h2, h3, h4, hq⟩))))
    · exact .inr (.inr (.inr (.inr (.inr ⟨a, o, h1, h2, hq⟩))))
  · exact h.elim
theorem ok_notin : OpOk K E (rNotInAll K) oNotIn := by
  intro p S H x y v u Q R rx ry h
  unfold oNotIn at h
  split at h
  · rename_i b e
    have hq : Q (.bl (!b)) H := h.val R (.bl _)
    rcases cIn_V R rx ry e with ⟨c, z, h1, h2, rfl⟩ | ⟨i, j, h1, h2, rfl⟩ | ⟨q, xs, h1, h2, h3, h4, rfl⟩ | ⟨d, ds, h1, h2, h3, h4, rfl⟩ | ⟨d, ds, h1, h2, h3, h4, rfl⟩ | ⟨a, o, h1, h2, rfl⟩
    · exact .inl ⟨c, z, h1, h2, hq⟩
    · exact .inr (.inl ⟨i, j, h1, h2, hq⟩)
    · exact .inr (.inr (.inl ⟨q, xs, h1, h2, h3, h4, hq⟩))
    · exact .inr (.inr (.inr (.inl ⟨d, ds, h1, h2, h3, h4, hq⟩)))
    · exact .inr (.inr (.inr (.inr (.inl ⟨d, ds, h1, h2, h3, h4, hq⟩))))
    · exact .inr (.inr (.inr (.inr (.inr ⟨a, o, h1, h2, hq⟩))))
  · exact h.elim
end
def mCmp (op : D → D → Hs → R D) (f g : M) : MB := fun l S => (f l S).bind fun x S1 => (g l S1).bind fun y S2 => (op x y S2).bind fun d S3 => match d with
  | .bl b => .ok b S3
  | _ => .bad
section
variable {X : Cx} {E : St → XK} {a b : Expr} {f g : M} {pos : Pos} {r : R2} {op : D → D → Hs → R D} {o : CmpOp}
theorem e_cmp (ho : OpR X (compareOp o) r) (hk : OpOk X.K E r op) (ha : EM X E a f) (hb : EM X E b g) (h1 : behindInMarks o b = false) : EM X E (.Compare a [o] [b] pos) (mBin op f g) :=
  ⟨(pe_cmpR ho ha.pe hb.pe h1).weak fun s H Q ⟨p, l, S, R, L, h⟩ => T.of R L h fun p1 S1 H1 d v R1 x1 L1 r1 h1 => T.of R1 L1 h1 fun p2 S2 H2 d2 v2 R2 x2 L2 r2 h2 => hk p2 S2 H2 _ _ _ _ Q R2 (r1.ext x2 _ _) r2 h2⟩
theorem OpOk.test (hk : OpOk X.K E r op) {p : Nat → Addr} {S : Hs} {H : Hp} {x y : D} {v u : V} {Q : Bool → Hp → Prop} (R : Real X.K p S H) (rx : Rep X.K p S.length H x v) (ry : Rep X.K p S.length H y u)
    (h : Post X.K E S.length p H ((op x y S).bind fun d S3 => match d with | .bl b => Ly.R.ok b S3 | _ => Ly.R.bad) (QB Q)) : r v u H fun x H' => ∃ k, x = .bl k ∧ Q k H' := by
  refine hk p S H x y v u _ R rx ry (h.bind.mono fun d S3 p3 H3 _ x3 R3 q w rw' => ?_)
  cases rw' with
  | bl b => exact ⟨b, rfl, Post.ok (Q := QB Q) q Ext.refl R3⟩
  | _ => exact q.elim
theorem b_cmp (ho : OpR X (compareOp o) r) (hk : OpOk X.K E r op) (ha : EM X E a f) (hb : EM X E b g) (h1 : behindInMarks o b = false) : BM X E (.Compare a [o] [b] pos) (mCmp op f g) :=
  ⟨(pt_cmpR ho ha.pe hb.pe h1).weak fun s H Q ⟨p, l, S, R, L, h⟩ => T.of R L h fun p1 S1 H1 d v R1 x1 L1 r1 h1 => T.of R1 L1 h1 fun p2 S2 H2 d2 v2 R2 x2 L2 r2 h2 => hk.test R2 (r1.ext x2 _ _) r2 h2⟩
end
end Ly
set_option Elab.async false
set_option linter.all false
set_option maxRecDepth 100000
namespace Ly
open PySem PySem.Spec L2
open PyProof.Rows hiding St
def lNil : ML := fun _ S => .ok [] S
def lCons (f : M) (g : ML) : ML := fun l S => (f l S).bind fun x S1 => (g l S1).bind fun xs S2 => .ok (x :: xs) S2
section
variable {X : Cx} {E : St → XK} {e : Expr} {es : List Expr} {f : M} {g : ML} {pos : Pos}
theorem l_nil : LM X E [] lNil := ⟨pa_nil.weak fun s H Q ⟨p, l, S, R, L, h⟩ => Post.ok h Ext.refl R _ .nil⟩
theorem l_cons (ha : EM X E e f) (hb : LM X E es g) (hs : starEach (e :: es) X.env = (false, eval e X.env) :: starEach es X.env := by rfl) : LM X E (e :: es) (lCons f g) :=
  ⟨(pa_cons ha.pe hb.pa hs).weak fun s H Q ⟨p, l, S, R, L, h⟩ => T.of R L h fun p1 S1 H1 d v R1 x1 L1 r1 h1 => TL.of R1 L1 h1 fun p2 S2 H2 d2 v2 R2 x2 L2 r2 h2 => Post.ok h2 Ext.refl R2 _ (.cons (r1.ext x2 _ _) r2)⟩
def tru (x : D) (S : Hs) : Option Bool := match x with
  | .non => some false
  | .bl b => some b
  | .int i => some (i != 0)
  | .str x => if x.length ≤ sizeLine then some ((x.length : Int) != 0) else none
  | .tup xs => some (!xs.isEmpty)
  | .wt xs => some (!xs.isEmpty)
  | .ref i => match S[i]? with
    | some (.lst xs) => some (!xs.isEmpty)
    | some (.rol xs) => some (!xs.isEmpty)
    | some (.dic xs) => some (!xs.isEmpty)
    | _ => none
  | .wl xs => some (!xs.isEmpty)
  | .cst _ => none
def oTru (x : D) (S : Hs) : R Bool := match tru x S with
  | some b => .ok b S
  | none => .bad
def oNot (x : D) (S : Hs) : R D := match tru x S with
  | some b => .ok (.bl (!b)) S
  | none => .bad
theorem empty_len {α β : Type} {xs : List α} {ys : List β} (h : xs.length = ys.length) : xs.isEmpty = ys.isEmpty := by cases xs <;> cases ys <;> first | rfl | simp at h
theorem tru_V {K : PySem.W.Frag} {p : Nat → Addr} {S : Hs} {H : Hp} {x : D} {v : V} {b : Bool} (R : Real K p S H) (rx : Rep K p S.length H x v) (h : tru x S = some b) : TruV K v H b := by
  unfold tru at h
  cases rx with
  | non => cases h; rfl
  | bl b => cases h; rfl
  | int i => cases h; rfl
  | str x => simp only at h; split at h <;> cases h; exact ⟨by assumption, rfl⟩
  | tup t r => cases h; exact .inr (.inl ⟨_, SqT.of t, by rw [empty_len r.len]⟩)
  | wt t r => cases h; exact .inr (.inl ⟨_, t.sq, by rw [empty_len r.len]⟩)
  | wl t r => cases h; exact .inl ⟨_, t.sq, by rw [empty_len r.len]⟩
  | ref hi =>
    simp only at h
    split at h
    · rename_i q
      obtain ⟨vs, h1, r⟩ := R.lst q
      cases h; exact .inl ⟨_, SqL.of h1, by rw [empty_len r.len]⟩
    · rename_i q
      obtain ⟨o, vs, h1, r⟩ := R.ob _ _ q
      cases h; exact .inl ⟨_, .inl (.inr ⟨o, h1⟩), by rw [empty_len r.len]⟩
    · rename_i q
      obtain ⟨ks, h1, h2, h3⟩ := R.ob _ _ q
      cases h; exact .inr (.inr ⟨_, h1, by rw [empty_len (show ks.length = _ from by simpa using congrArg List.length h2)]⟩)
    · cases h
  | cst a => cases h
def mTru (f : M) : MB := fun l S => (f l S).bind oTru
theorem oTru_of {K : PySem.W.Frag} {p : Nat → Addr} {S : Hs} {H : Hp} {x : D} {v : V} {Q : Bool → Hp → Prop} (R : Real K p S H) (rx : Rep K p S.length H x v) (h : Post K E S.length p H (oTru x S) (QB Q)) : ∃ k, TruV K v H k ∧ Q k H := by
  unfold oTru at h
  split at h
  · rename_i b e; exact ⟨b, tru_V R rx e, Post.ok (Q := QB Q) h Ext.refl R⟩
  · exact h.elim
theorem b_tru {a : Expr} (ha : EM X E a f) (he : ∀ whole, isTrue a X.env whole = (do let v ← whole; standAt a.pos; holding [v] (truthy v)) := by intro _; rfl) : BM X E a (mTru f) :=
  ⟨(pt_truth ha.pe he).weak fun s H Q ⟨p, l, S, R, L, h⟩ => T.of R L h fun p1 S1 H1 d v R1 x1 L1 r1 h1 => oTru_of R1 r1 h1⟩
def mNotB (f : MB) : MB := fun l S => (f l S).bind fun b S1 => .ok (!b) S1
def mAndB (f g : MB) : MB := fun l S => (f l S).bind fun b S1 => if b = true then g l S1 else .ok false S1
def mOrB (f g : MB) : MB := fun l S => (f l S).bind fun b S1 => if b = true then .ok true S1 else g l S1
theorem TB.last {K : PySem.W.Frag} {s : St} {H : Hp} {f : MB} {p : Nat → Addr} {l : Ls} {S : Hs} {Q : Bool → Hp → Prop} (R : Real K p S H) (L : Sl K p S.length H l s) (h : Post K E S.length p H (f l S) (QB Q)) : TB K E f s H Q := ⟨p, l, S, R, L, h⟩
variable {a b : Expr} {rest : List Expr} {fb gb : MB}
theorem b_not (ha : BM X E a fb) : BM X E (.UnaryOp .Not a pos) (mNotB fb) :=
  ⟨(pt_not ha.pt).weak fun s H Q ⟨p, l, S, R, L, h⟩ => TB.of R L h fun p1 S1 H1 b R1 x1 L1 h1 => Post.ok (Q := QB Q) h1 Ext.refl R1⟩
theorem w_and1 (ha : BM X E a fb) : BW X E (.BoolOp .And [a] pos) fb := ⟨pw_and1 ha.pt⟩
theorem w_or1 (ha : BM X E a fb) : BW X E (.BoolOp .Or [a] pos) fb := ⟨pw_or1 ha.pt⟩
theorem w_and (ha : BM X E a fb) (hb : BW X E (.BoolOp .And (b :: rest) pos) gb) : BW X E (.BoolOp .And (a :: b :: rest) pos) (mAndB fb gb) :=
  ⟨(pw_and ha.pt hb.pw).weak fun s H Q ⟨p, l, S, R, L, h⟩ => TB.of R L h fun p1 S1 H1 b R1 x1 L1 h1 => by
    cases b with
    | true => exact TB.last R1 L1 h1
    | false => exact Post.ok (Q := QB Q) h1 Ext.refl R1⟩
theorem w_or (ha : BM X E a fb) (hb : BW X E (.BoolOp .Or (b :: rest) pos) gb) : BW X E (.BoolOp .Or (a :: b :: rest) pos) (mOrB fb gb) :=
  ⟨(pw_or ha.pt hb.pw).weak fun s H Q ⟨p, l, S, R, L, h⟩ => TB.of R L h fun p1 S1 H1 b R1 x1 L1 h1 => by
    cases b with
    | false => exact TB.last R1 L1 h1
    | true => exact Post.ok (Q := QB Q) h1 Ext.refl R1⟩
theorem b_of {e : Expr} (h : BW X E e fb) : BM X E e fb := ⟨h.pw.pt⟩
def mAnd (f g : M) : M := fun l S => (f l S).bind fun x S1 => (oTru x S1).bind fun b S2 => if b = true then g l S2 else .ok x S2
def mOr (f g : M) : M := fun l S => (f l S).bind fun x S1 => (oTru x S1).bind fun b S2 => if b = true then .ok x S2 else g l S2
def mIf (c : MB) (f g : M) : M := fun l S => (c l S).bind fun b S1 => if b = true then f l S1 else g l S1
variable {h' : M} {t : List Expr}
theorem oTru_bind {β : Type} {K : PySem.W.Frag} {p : Nat → Addr} {S : Hs} {H : Hp} {x : D} {v : V} {k : Bool → Hs → R β} {QQ : β → Hs → (Nat → Addr) → Hp → Prop} (R : Real K p S H) (rx : Rep K p S.length H x v)
    (h : Post K E S.length p H ((oTru x S).bind k) QQ) : ∃ b, TruV K v H b ∧ Post K E S.length p H (k b S) QQ := by
  unfold oTru at h
  split at h
  · rename_i b e; exact ⟨b, tru_V R rx e, h⟩
  · exact h.elim
theorem e_one {op : BoolOp} (ha : EM X E a f) : EM X E (.BoolOp op [a] pos) f := ⟨pe_one ha.pe⟩
theorem e_and {g : M} (ha : EM X E a f) (hb : EM X E (.BoolOp .And (b :: rest) pos) g) : EM X E (.BoolOp .And (a :: b :: rest) pos) (mAnd f g) :=
  ⟨(pe_andT ha.pe hb.pe).weak fun s H Q ⟨p, l, S, R, L, h⟩ => T.of R L h fun p1 S1 H1 d v R1 x1 L1 r1 h1 => by
    obtain ⟨k, hk, h2⟩ := oTru_bind R1 r1 h1
    refine ⟨k, hk, ?_⟩
    cases k with
    | true => exact T.last R1 L1 h2
    | false => exact Post.val h2 R1 r1⟩
theorem e_or {g : M} (ha : EM X E a f) (hb : EM X E (.BoolOp .Or (b :: rest) pos) g) : EM X E (.BoolOp .Or (a :: b :: rest) pos) (mOr f g) :=
  ⟨(pe_orT ha.pe hb.pe).weak fun s H Q ⟨p, l, S, R, L, h⟩ => T.of R L h fun p1 S1 H1 d v R1 x1 L1 r1 h1 => by
    obtain ⟨k, hk, h2⟩ := oTru_bind R1 r1 h1
    refine ⟨k, hk, ?_⟩
    cases k with
    | false => exact T.last R1 L1 h2
    | true => exact Post.val h2 R1 r1⟩
theorem e_not (ha : EM X E a f) : EM X E (.UnaryOp .Not a pos) (mUn oNot f) :=
  ⟨(pe_notT ha.pe).weak fun s H Q ⟨p, l, S, R, L, h⟩ => T.of R L h fun p1 S1 H1 d v R1 x1 L1 r1 h1 => by
    unfold oNot at h1
    split at h1
    · rename_i b e; exact ⟨b, tru_V R1 r1 e, h1.val R1 (.bl _)⟩
    · exact h1.elim⟩
theorem e_if {c : Expr} {g : M} (hc : BM X E c fb) (ha : EM X E a f) (hb : EM X E b g) : EM X E (.IfExp c a b pos) (mIf fb f g) :=
  ⟨(pe_ifExp hc.pt ha.pe hb.pe).weak fun s H Q ⟨p, l, S, R, L, h⟩ => TB.of R L h fun p1 S1 H1 b R1 x1 L1 h1 => by
    cases b with
    | true => exact T.last R1 L1 h1
    | false => exact T.last R1 L1 h1⟩
end
def oIx (x y : D) (S : Hs) : R D := match x, y with
  | .str z, .int i => if z.length ≤ sizeLine then (match atI z.cps.toList i with
    | some c => .ok (.str ⟨#[c]⟩) S
    | none => .bad) else .bad
  | .tup xs, .int i => match atI xs i with
    | some d => .ok d S
    | none => .bad
  | .wt xs, .int i => match atI xs i with
    | some d => .ok d S
    | none => .bad
  | .wl xs, .int i => match atI xs i with
    | some d => .ok d S
    | none => .bad
  | .ref j, y => match S[j]? with
    | some (.lst xs) => (match y with
      | .int i => (match atI xs i with
        | some d => .ok d S
        | none => .bad)
      | _ => .bad)
    | some (.rol xs) => (match y with
      | .int i => (match atI xs i with
        | some d => .ok d S
        | none => .bad)
      | _ => .bad)
    | some (.dic _) => (match dGet x y S with
      | some (some d) => .ok d S
      | _ => .bad)
    | some (.dit _) => (match dGet x y S with
      | some (some d) => .ok d S
      | _ => .bad)
    | _ => .bad
  | _, _ => .bad
abbrev rIxDic : R2 := fun x y H Q => ∃ a v, x = .ref a ∧ DGet H a y (some v) ∧ Q v H
theorem ix_dic {X : Cx} (hu : X.A.units + 1 < cLine) : IxR X rIxDic := by
  intro value slice pins s σ H x y v u Q I rx ry h hs
  obtain ⟨a, w, rfl, g, q⟩ := h
  obtain rfl : v = Value.ref a := rx
  exact tail_any (dict_typeIs I g) PySem.F.slot_dict_getitem.lookup (d_getItem hu I g ry fun w' s3 I3 rw' => ⟨w, H, I3, rw', q⟩) hs
abbrev rIxAll (K : PySem.W.Frag) : R2 := orR rIxS (orR (rIxL K) (orR (rIxT K) rIxDic))
theorem ix_all {X : Cx} (hu : X.A.units + 1 < cLine) : IxR X (rIxAll X.K) := IxR.or ix_str (IxR.or ix_list (IxR.or ix_tup (ix_dic hu)))
section
variable {K : PySem.W.Frag} {E : St → XK} {p : Nat → Addr} {S : Hs} {H : Hp} {n : Nat} {pi : Nat → Addr}
theorem Reps.atI {ds : List D} {vs : List V} (h : Reps K pi n H ds vs) {i : Int} {d : D} (e : atI ds i = some d) : ∃ v, L2.atI vs i = some v ∧ Rep K pi n H d v := by
  unfold L2.atI at e ⊢
  rw [← h.len]
  cases q : ixN ds.length i with
  | none => rw [q] at e; cases e
  | some j =>
    rw [q] at e
    exact h.get e
theorem ok_ix : OpOk K E (rIxAll K) oIx := by
  intro p S H x y v u Q R rx ry h
  unfold oIx at h
  split at h
  · split at h
    · rename_i hl
      split at h
      · rename_i c e; cases rx; cases ry; exact .inl ⟨_, _, c, rfl, rfl, hl, e, h.val R (.str _)⟩
      · exact h.elim
    · exact h.elim
  · split at h
    · rename_i d e
      cases ry
      cases rx with
      | tup t r =>
      obtain ⟨w, e2, r2⟩ := r.atI e
      exact .inr (.inr (.inl ⟨_, _, _, w, rfl, rfl, SqT.of t, e2, h.val R r2⟩))
    · exact h.elim
  · split at h
    · rename_i d e
      cases ry
      cases rx with
      | wt t r =>
      obtain ⟨w, e2, r2⟩ := r.atI e
      exact .inr (.inr (.inl ⟨_, _, _, w, rfl, rfl, t.sq, e2, h.val R r2⟩))
    · exact h.elim
  · split at h
    · rename_i d e
      cases ry
      cases rx with
      | wl t r =>
      obtain ⟨w, e2, r2⟩ := r.atI e
      exact .inr (.inl ⟨_, _, _, w, rfl, rfl, t.sq, e2, h.val R r2⟩)
    · exact h.elim
  · split at h
    · rename_i q
      split at h
      · split at h
        · rename_i d e
          obtain ⟨vs, h1, r⟩ := R.lst q
          obtain ⟨w, e2, r2⟩ := r.atI e
          cases rx; cases ry
          exact .inr (.inl ⟨_, _, _, w, rfl, rfl, SqL.of h1, e2, h.val R r2⟩)
        · exact h.elim
      · exact h.elim
    · rename_i q
      split at h
      · split at h
        · rename_i d e
          obtain ⟨o, vs, h1, r⟩ := R.ob _ _ q
          obtain ⟨w, e2, r2⟩ := r.atI e
          cases rx; cases ry
          exact .inr (.inl ⟨_, _, _, w, rfl, rfl, .inl (.inr ⟨o, h1⟩), e2, h.val R r2⟩)
        · exact h.elim
      · exact h.elim
    · split at h
      · rename_i d e
        obtain ⟨a, w, e1, g, m⟩ := dGet_V R rx ry e
        obtain ⟨z, e3, r3⟩ := m
        subst e3
        exact .inr (.inr (.inr ⟨a, z, e1, g, h.val R r3⟩))
      · exact h.elim
    · split at h
      · rename_i d e
        obtain ⟨a, w, e1, g, m⟩ := dGet_V R rx ry e
        obtain ⟨z, e3, r3⟩ := m
        subst e3
        exact .inr (.inr (.inr ⟨a, z, e1, g, h.val R r3⟩))
      · exact h.elim
    · exact h.elim
  · exact h.elim
end
abbrev MO := Ls → Hs → R (Option Int)
def oNo : MO := fun _ S => .ok none S
def oSome (f : M) : MO := fun l S => (f l S).bind fun d S1 => match d with
  | .int i => .ok (some i) S1
  | _ => .bad
def cutD (xs : List D) (lo hi : Option Int) : List D := (xs.drop (HT.sIx xs.length 0 lo)).take (HT.sIx xs.length xs.length hi - HT.sIx xs.length 0 lo)
def oSl (x : D) (lo hi : Option Int) (S : Hs) : R D := match x with
  | .str z => if z.length ≤ sizeLine then .ok (.str (cutS z lo hi)) S else .bad
  | .tup xs => .ok (.tup (cutD xs lo hi)) S
  | .ref i => match S[i]? with
    | some (.lst xs) => .ok (.ref S.length) (S ++ [.lst (cutD xs lo hi)])
    | some (.rol xs) => .ok (.ref S.length) (S ++ [.lst (cutD xs lo hi)])
    | _ => .bad
  | _ => .bad
def mSl (f : M) (lo hi : MO) : M := fun l S => (f l S).bind fun x S1 => (lo l S1).bind fun a S2 => (hi l S2).bind fun b S3 => oSl x a b S3
def TO' (K : PySem.W.Frag) (E : St → XK) (f : MO) : TO := fun s H Q => ∃ p l S, Real K p S H ∧ Sl K p S.length H l s ∧ Post K E S.length p H (f l S) (fun d _ _ H => Q d H)
structure OM (X : Cx) (E : St → XK) (e : Option Expr) (f : MO) : Prop where po : PO X e (TO' X.K E f)
section
variable {X : Cx} {E : St → XK} {e a b : Expr} {f g : M} {pos p2 : Pos} {lo hi : Option Expr} {fl fh : MO}
theorem _root_.L2.PO.weak {X : Cx} {e : Option Expr} {t t' : TO} (h : PO X e t) (w : ∀ s H Q, t' s H Q → t s H Q) : PO X e t' := ⟨fun pins s σ H Q I q => h.run pins s σ H Q I (w σ H Q q)⟩
theorem o_no : OM X E none oNo := ⟨po_none.weak fun s H Q ⟨p, l, S, R, L, h⟩ => Post.ok (Q := fun d _ _ H => Q d H) h Ext.refl R⟩
theorem o_some (ha : EM X E a f) : OM X E (some a) (oSome f) := ⟨(po_some ha.pe).weak fun s H Q ⟨p, l, S, R, L, h⟩ => T.of R L h fun p1 S1 H1 d v R1 x1 L1 r1 h1 => by
  split at h1
  · cases r1; exact ⟨_, rfl, Post.ok (Q := fun d _ _ H => Q d H) h1 Ext.refl R1⟩
  · exact h1.elim⟩
theorem OM.of {K : PySem.W.Frag} {s : St} {H : Hp} {β : Type} {QQ : β → Hs → (Nat → Addr) → Hp → Prop} {f : MO} {k : Option Int → Hs → R β} {p : Nat → Addr} {l : Ls} {S : Hs} {Q' : Option Int → Hp → Prop} (R : Real K p S H) (L : Sl K p S.length H l s) (h : Post K E S.length p H ((f l S).bind k) QQ)
    (st : ∀ p1 S1 H1 b, Real K p1 S1 H1 → Ext S.length S1.length p p1 H H1 → Sl K p1 S1.length H1 l s → Post K E S1.length p1 H1 (k b S1) QQ → Q' b H1) : TO' K E f s H Q' :=
  ⟨p, l, S, R, L, h.bind.mono fun a S1 p1 H1 _ x R1 q => st p1 S1 H1 a R1 x (L.ext x) q⟩
theorem Reps.cut {K : PySem.W.Frag} {pi : Nat → Addr} {n : Nat} {H : Hp} {ds : List D} {vs : List V} (h : Reps K pi n H ds vs) (a b : Option Int) : Reps K pi n H (cutD ds a b) (cutV vs a b) := by
  unfold cutD cutV
  rw [← h.len]
  exact (h.drop _).take _
theorem cut_whole {vs : List V} {a b : Option Int} (h : HT.sIx vs.length 0 a = 0 ∧ HT.sIx vs.length vs.length b = vs.length) : cutV vs a b = vs := by
  unfold cutV
  rw [h.1, h.2, List.drop_zero, Nat.sub_zero, List.take_length]
theorem e_slice (ha : EM X E a f) (hl : OM X E lo fl) (hu : OM X E hi fh) : EM X E (.Subscript a (.Slice lo hi none p2) pos) (mSl f fl fh) :=
  ⟨(pe_slice (SlR.or sl_str (SlR.or sl_list sl_tupA)) ha.pe hl.po hu.po).weak fun s H Q ⟨p, l, S, R, L, h⟩ => T.of R L h fun p1 S1 H1 d v R1 x1 L1 r1 h1 => OM.of R1 L1 h1 fun p2 S2 H2 ba R2 x2 L2 h2 => OM.of R2 L2 h2 fun p3 S3 H3 bb R3 x3 L3 h3 => by
    have r3 := r1.ext (x2.trans x3) _ _
    unfold oSl at h3
    split at h3
    · split at h3
      · rename_i hl; cases r3; exact .inl ⟨_, rfl, hl, h3.val R3 (.str _)⟩
      · exact h3.elim
    · cases r3 with
      | @tup q _ vs t r =>
      refine .inr (.inr ⟨q, vs, rfl, SqT.of t, fun w => ?_, fun _ z hz => h3.valT R3 (r.cut ba bb) hz⟩)
      have := r.cut ba bb
      rw [cut_whole w] at this
      exact h3.val R3 (.tup t this)
    · split at h3
      · rename_i q
        obtain ⟨vs, e1, r⟩ := R3.lst q
        cases r3
        exact .inr (.inl ⟨_, vs, rfl, SqL.of e1, fun z hz => h3.newL R3 (r.cut ba bb) hz⟩)
      · rename_i q
        obtain ⟨o, vs, e1, r⟩ := R3.ob _ _ q
        cases r3
        exact .inr (.inl ⟨_, vs, rfl, .inl (.inr ⟨o, e1⟩), fun z hz => h3.newL R3 (r.cut ba bb) hz⟩)
      · exact h3.elim
    · exact h3.elim⟩
theorem e_ix (hu : X.A.units + 1 < cLine) (ha : EM X E a f) (hb : EM X E b g) (hs : PlainIx b := by intro _ _; rfl) : EM X E (.Subscript a b pos) (mBin oIx f g) :=
  ⟨(pe_ix (ix_all hu) ha.pe hb.pe hs).weak fun s H Q ⟨p, l, S, R, L, h⟩ => T.of R L h fun p1 S1 H1 d v R1 x1 L1 r1 h1 => T.of R1 L1 h1 fun p2 S2 H2 d2 v2 R2 x2 L2 r2 h2 => ok_ix p2 S2 H2 _ _ _ _ Q R2 (r1.ext x2 _ _) r2 h2⟩
def mTup (f : ML) : M := fun l S => (f l S).bind fun ds S1 => if ds.length ≤ sizeLine then .ok (.tup ds) S1 else .bad
def mLst (f : ML) : M := fun l S => (f l S).bind fun ds S1 => if ds.length ≤ sizeLine then .ok (.ref S1.length) (S1 ++ [.lst ds]) else .bad
theorem e_tup {es : List Expr} {fl : ML} {x1 : Nat} (h : LM X E es fl) : EM X E (.Tuple es x1 pos) (mTup fl) :=
  ⟨(pe_tup h.pa).weak fun s H Q ⟨p, l, S, R, L, h⟩ => TL.of R L h fun p1 S1 H1 d v R1 x1 L1 r1 h1 => by
    split at h1
    · rename_i hl; exact ⟨by rw [← r1.len]; exact hl, fun q hq => h1.valT R1 r1 hq⟩
    · exact h1.elim⟩
theorem e_lst {es : List Expr} {fl : ML} (h : LM X E es fl) : EM X E (.List es pos) (mLst fl) :=
  ⟨(pe_lst h.pa).weak fun s H Q ⟨p, l, S, R, L, h⟩ => TL.of R L h fun p1 S1 H1 d v R1 x1 L1 r1 h1 => by
    split at h1
    · rename_i hl; exact ⟨by rw [← r1.len]; exact hl, fun q hq => h1.newL R1 r1 hq⟩
    · exact h1.elim⟩
def mDicK : M := fun _ S => .ok (.ref S.length) (S ++ [.dic []])
def mDicT : M := fun _ S => .ok (.ref S.length) (S ++ [.dit []])
end
end Ly
set_option Elab.async false
set_option linter.all false
set_option maxRecDepth 100000
namespace Ly
open PySem PySem.Spec L2
open PyProof.Rows hiding St
def mCall (op : List D → Hs → R D) (f : ML) : M := fun l S => (f l S).bind op
def CallOk (K : PySem.W.Frag) (E : St → XK) (r : List V → Hp → VK → Prop) (op : List D → Hs → R D) : Prop :=
  ∀ p S H ds vs Q, Real K p S H → Reps K p S.length H ds vs → Post K E S.length p H (op ds S) (QD K Q) → r vs H Q
abbrev orC (r r' : List V → Hp → VK → Prop) : List V → Hp → VK → Prop := fun xs H Q => r xs H Q ∨ r' xs H Q
section
variable {X : Cx} {E : St → XK} {e : Expr} {es : List Expr} {f : ML} {x : Str} {p pos : Pos} {id T : String} {r : List V → Hp → VK → Prop} {op : List D → Hs → R D}
theorem e_callB (hc : CallR X (.builtin id) r) (hk : CallOk X.K E r op) (hg : Gl X x) (hm : X.mg x = none) (hv : bootBuiltins x = some (.builtin id)) (ha : LM X E (e :: es) f) (hn : x ≠ "__name__" := by decide) (hdb : (x == ("__debug__" : Str)) = false := by decide)
    (he : starEach (e :: es) X.env = (false, eval e X.env) :: starEach es X.env := by rfl) (hpl : (backTo pos (starEach es X.env)).any (·.1) = false := by rfl) : EM X E (.Call (.Name x p) (e :: es) [] pos) (mCall op f) :=
  ⟨(pe_callB hc hg hm hv ha.pa hn hdb he hpl).weak fun s H Q ⟨p, l, S, R, L, h⟩ => TL.of R L h fun p1 S1 H1 d v R1 x1 L1 r1 h1 => hk p1 S1 H1 _ _ Q R1 r1 h1⟩
theorem e_callT (hc : CallR X (.type T) r) (hk : CallOk X.K E r op) (hg : Gl X x) (hm : X.mg x = none) (hv : bootBuiltins x = some (.type T)) (ha : LM X E (e :: es) f) (hn : x ≠ "__name__" := by decide) (hdb : (x == ("__debug__" : Str)) = false := by decide)
    (he : starEach (e :: es) X.env = (false, eval e X.env) :: starEach es X.env := by rfl) (hpl : (backTo pos (starEach es X.env)).any (·.1) = false := by rfl) : EM X E (.Call (.Name x p) (e :: es) [] pos) (mCall op f) :=
  ⟨(pe_callTy hc hg hm hv ha.pa hn hdb he hpl).weak fun s H Q ⟨p, l, S, R, L, h⟩ => TL.of R L h fun p1 S1 H1 d v R1 x1 L1 r1 h1 => hk p1 S1 H1 _ _ Q R1 r1 h1⟩
end
def lenD (x : D) (S : Hs) : Option Nat := match x with
  | .str y => if y.length ≤ sizeLine then some y.length else none
  | .tup xs => some xs.length
  | .wt xs => some xs.length
  | .wl xs => some xs.length
  | .ref i => match S[i]? with
    | some (.lst xs) => some xs.length
    | some (.rol xs) => some xs.length
    | some (.dic xs) => some xs.length
    | _ => none
  | _ => none
def bLen : List D → Hs → R D
  | [x], S => match lenD x S with
    | some n => .ok (.int (n : Int)) S
    | none => .bad
  | _, _ => .bad
def bInt : List D → Hs → R D
  | [.int i], S => .ok (.int i) S
  | [.bl b], S => .ok (.int (b2i b)) S
  | [.str x], S => match intText? x with
    | some n => if x.length ≤ 640 then .ok (.int n) S else .bad
    | none => .bad
  | _, _ => .bad
def bStr : List D → Hs → R D
  | [.int i], S => if i.natAbs.log2 < 1920 then .ok (.str (Str.ofString (toString i))) S else .bad
  | [.str x], S => .ok (.str x) S
  | _, _ => .bad
def intsD : List D → Option (List Int)
  | [] => some []
  | .int i :: r => (intsD r).map (i :: ·)
  | _ => none
def strsD : List D → Option (List Str)
  | [] => some []
  | .str i :: r => (strsD r).map (i :: ·)
  | _ => none
def seqD (x : D) (S : Hs) : Option (List D) := match x with
  | .ref i => match S[i]? with
    | some (.lst xs) => some xs
    | some (.rol xs) => some xs
    | _ => none
  | .wl xs => some xs
  | _ => none
def leastI : Int → List Int → Int
  | m, [] => m
  | m, x :: r => leastI (if x < m then x else m) r
def bMin : List D → Hs → R D
  | [.int i, .int j], S => .ok (.int (if j < i then j else i)) S
  | [x], S => match (seqD x S).bind intsD with
    | some (n :: r) => .ok (.int (leastI n r)) S
    | _ => .bad
  | _, _ => .bad
def bTuple : List D → Hs → R D
  | [.tup xs], S => .ok (.tup xs) S
  | [.wt xs], S => .ok (.wt xs) S
  | [.ref i], S => match seqD (.ref i) S with
    | some xs => .ok (.tup xs) S
    | none => .bad
  | _, _ => .bad
section
variable {K : PySem.W.Frag} {E : St → XK} {X : Cx}
abbrev rLenAll (K : PySem.W.Frag) : List V → Hp → VK → Prop := orC (fun xs H Q => ∃ x n, xs = [x] ∧ LenV K x H n ∧ Q (V.int ((n : Nat) : Int)) H) (fun xs H Q => ∃ a kvs, xs = [V.ref a] ∧ H a = some (.dK kvs) ∧ Q (V.int ((kvs.length : Nat) : Int)) H)
theorem cr_lenA : CallR X (.builtin "len") (rLenAll X.K) := CallR.or call_len call_lenD
theorem ok_len : CallOk K E (rLenAll K) bLen := by
  intro p S H ds vs Q R r h
  unfold bLen at h
  split at h
  · cases r with
    | cons r0 rs =>
    cases rs
    split at h
    · rename_i n e
      have hq : Q (V.int ((n : Nat) : Int)) H := h.val R (.int _)
      unfold lenD at e
      split at e
      · split at e
        · cases e; cases r0; exact .inl ⟨_, _, rfl, ⟨by assumption, rfl⟩, hq⟩
        · cases e
      · cases e
        cases r0 with
        | tup t r => exact .inl ⟨_, _, rfl, .inr ⟨_, SqT.of t, r.len⟩, hq⟩
      · cases e
        cases r0 with
        | wt t r => exact .inl ⟨_, _, rfl, .inr ⟨_, t.sq, r.len⟩, hq⟩
      · cases e
        cases r0 with
        | wl t r => exact .inl ⟨_, _, rfl, .inl ⟨_, t.sq, r.len⟩, hq⟩
      · split at e
        · rename_i q
          obtain ⟨vs, h1, r⟩ := R.lst q
          cases e; cases r0; exact .inl ⟨_, _, rfl, .inl ⟨_, SqL.of h1, r.len⟩, hq⟩
        · rename_i q
          obtain ⟨o, vs, h1, r⟩ := R.ob _ _ q
          cases e; cases r0; exact .inl ⟨_, _, rfl, .inl ⟨_, .inl (.inr ⟨o, h1⟩), r.len⟩, hq⟩
        · rename_i zs q
          obtain ⟨ks, h1, h2, h3⟩ := R.ob _ _ q
          cases e; cases r0
          have hl : ks.length = zs.length := by simpa using congrArg List.length h2
          exact .inr ⟨_, _, rfl, h1, by rw [hl]; exact hq⟩
        · cases e
      · cases e
    · exact h.elim
  · exact h.elim
abbrev rIntAll : List V → Hp → VK → Prop := orC (fun xs H Q => (∃ i, xs = [.int i] ∧ Q (.int i) H) ∨ ∃ k, xs = [.bl k] ∧ Q (.int (b2i k)) H) (fun xs H Q => ∃ a n, xs = [V.str a] ∧ intText? a = some n ∧ a.length ≤ 640 ∧ Q (V.int n) H)
theorem cr_intA : CallR X (.type "int") rIntAll := CallR.or call_int1 call_int_str
theorem ok_int : CallOk K E rIntAll bInt := by
  intro p S H ds vs Q R r h
  unfold bInt at h
  split at h
  · cases r with
    | cons r0 rs => cases rs; cases r0; exact .inl (.inl ⟨_, rfl, h.val R (.int _)⟩)
  · cases r with
    | cons r0 rs => cases rs; cases r0; exact .inl (.inr ⟨_, rfl, h.val R (.int _)⟩)
  · cases r with
    | cons r0 rs =>
    cases rs; cases r0
    split at h
    · rename_i n e
      split at h
      · rename_i hl; exact .inr ⟨_, _, rfl, e, hl, h.val R (.int _)⟩
      · exact h.elim
    · exact h.elim
  · exact h.elim
abbrev rStrAll : List V → Hp → VK → Prop := orC (fun xs H Q => ∃ i, xs = [V.int i] ∧ i.natAbs.log2 < 1920 ∧ Q (V.str (Str.ofString (toString i))) H) (fun xs H Q => ∃ a, xs = [.str a] ∧ Q (.str a) H)
theorem cr_strA : CallR X (.type "str") rStrAll := CallR.or call_str_int SkE.call_str_str
theorem ok_str : CallOk K E rStrAll bStr := by
  intro p S H ds vs Q R r h
  unfold bStr at h
  split at h
  · split at h
    · rename_i hl
      cases r with
      | cons r0 rs => cases rs; cases r0; exact .inl ⟨_, rfl, hl, h.val R (.str _)⟩
    · exact h.elim
  · cases r with
    | cons r0 rs => cases rs; cases r0; exact .inr ⟨_, rfl, h.val R (.str _)⟩
  · exact h.elim
theorem ints_V {pi : Nat → Addr} {n : Nat} {H : Hp} {ds : List D} {vs : List V} {ns : List Int} (r : Reps K pi n H ds vs) (h : intsD ds = some ns) : vs = ns.map V.int := by
  induction ds generalizing vs ns with
  | nil => cases r; simp [intsD] at h; subst h; rfl
  | cons d ds ih =>
    cases r with
    | cons r s =>
      cases r <;> simp [intsD] at h
      obtain ⟨ms, h1, rfl⟩ := h
      rw [ih s h1]; rfl
theorem strs_V {pi : Nat → Addr} {n : Nat} {H : Hp} {ds : List D} {vs : List V} {ns : List Str} (r : Reps K pi n H ds vs) (h : strsD ds = some ns) : vs = ns.map V.str := by
  induction ds generalizing vs ns with
  | nil => cases r; simp [strsD] at h; subst h; rfl
  | cons d ds ih =>
    cases r with
    | cons r s =>
      cases r <;> simp [strsD] at h
      obtain ⟨ms, h1, rfl⟩ := h
      rw [ih s h1]; rfl
theorem seq_V {p : Nat → Addr} {S : Hs} {H : Hp} {x : D} {v : V} {ds : List D} (R : Real K p S H) (r : Rep K p S.length H x v) (h : seqD x S = some ds) : ∃ a vs, v = .ref a ∧ SqL K H a vs ∧ Reps K p S.length H ds vs := by
  unfold seqD at h
  split at h
  · split at h
    · rename_i q
      cases h; cases r
      obtain ⟨vs, h1, r⟩ := R.lst q
      exact ⟨_, vs, rfl, SqL.of h1, r⟩
    · rename_i q
      cases h; cases r
      obtain ⟨o, vs, h1, r⟩ := R.ob _ _ q
      exact ⟨_, vs, rfl, .inl (.inr ⟨o, h1⟩), r⟩
    · cases h
  · cases h
    cases r with
    | wl t r => exact ⟨_, _, rfl, t.sq, r⟩
  · cases h
theorem leastI_le (r : List Int) : ∀ m, leastI m r ≤ m ∧ (∀ y ∈ r, leastI m r ≤ y) ∧ (leastI m r = m ∨ leastI m r ∈ r) := by
  induction r with
  | nil => intro m; exact ⟨Int.le_refl _, by simp, .inl rfl⟩
  | cons x r ih =>
    intro m
    obtain ⟨h1, h2, h3⟩ := ih (if x < m then x else m)
    simp only [leastI]
    refine ⟨?_, fun y hy => ?_, ?_⟩
    · split at h1 <;> split <;> omega
    · rcases List.mem_cons.mp hy with rfl | hy
      · split at h1 <;> split <;> omega
      · exact h2 y hy
    · rcases h3 with h3 | h3
      · rw [h3]; split
        · exact .inr (List.mem_cons_self ..)
        · exact .inl rfl
      · exact .inr (List.mem_cons_of_mem _ h3)
abbrev rMin2 : List V → Hp → VK → Prop := fun xs H Q => ∃ i j, xs = [V.int i, V.int j] ∧ Q (V.int (if j < i then j else i)) H
theorem cr_minA (hc : X.calm = true) : CallR X (.builtin "min") (orC rMin2 (rMin X.K)) := CallR.or (call_min2 hc) (cr_min hc)
theorem ok_min : CallOk K E (orC rMin2 (rMin K)) bMin := by
  intro p S H ds vs Q R r h
  unfold bMin at h
  split at h
  · cases r with
    | cons r0 rs => cases rs with | cons r1 rs => cases rs; cases r0; cases r1; exact .inl ⟨_, _, rfl, h.val R (.int _)⟩
  · split at h
    · rename_i n t e
      rw [Option.bind_eq_some_iff] at e
      obtain ⟨ds, e1, e2⟩ := e
      cases r with
      | cons r0 rs =>
      cases rs
      obtain ⟨a, vs, rfl, hs, r⟩ := seq_V R r0 e1
      rw [ints_V r e2] at hs
      have hq : Q _ H := h.val R (.int _)
      refine .inr ⟨a, _, rfl, hs, by simp, fun m hm hle => ?_⟩
      obtain ⟨h1, h2, h3⟩ := leastI_le t n
      have : m = leastI n t := by
        have a1 : leastI n t ≤ m := by
          rcases List.mem_cons.mp hm with rfl | hm
          · exact h1
          · exact h2 m hm
        have a2 : m ≤ leastI n t := hle _ (h3.elim (fun e => by rw [e]; exact List.mem_cons_self ..) (List.mem_cons_of_mem _))
        omega
      rw [this]; exact hq
    · exact h.elim
  · exact h.elim
abbrev rTupleOf (K : PySem.W.Frag) : List V → Hp → VK → Prop := fun xs H Q => ∃ p ys, xs = [V.ref p] ∧ ((SqL K H p ys ∧ ∀ l, H l = none → Q (V.ref l) (upd H l (.tup ys))) ∨ SqT K H p ys ∧ Q (V.ref p) H)
theorem ok_tuple : CallOk K E (rTupleOf K) bTuple := by
  intro p S H ds vs Q R r h
  unfold bTuple at h
  split at h
  · cases r with
    | cons r0 rs =>
    cases rs
    cases r0 with
    | tup t r => exact ⟨_, _, rfl, .inr ⟨SqT.of t, h.val R (.tup t r)⟩⟩
  · cases r with
    | cons r0 rs =>
    cases rs
    cases r0 with
    | wt t r => exact ⟨_, _, rfl, .inr ⟨t.sq, h.val R (.wt t r)⟩⟩
  · split at h
    · rename_i e
      cases r with
      | cons r0 rs =>
      cases rs
      obtain ⟨a, vs, rfl, hs, r⟩ := seq_V R r0 e
      exact ⟨a, vs, rfl, .inl ⟨hs, fun q hq => h.valT R r hq⟩⟩
    · exact h.elim
  · exact h.elim
end
section
variable {X : Cx} {E : St → XK} {e : Expr} {f : ML} {p pos : Pos} {es : List Expr}
theorem c_len (hm : X.mg "len" = none) (ha : LM X E [e] f) (hg : Gl X "len" := by rfl) (he : starEach [e] X.env = (false, eval e X.env) :: starEach [] X.env := by rfl) : EM X E (.Call (.Name "len" p) [e] [] pos) (mCall bLen f) := e_callB cr_lenA ok_len hg hm (by decide +kernel) ha (by decide) (by decide) he (by rfl)
theorem c_int (hm : X.mg "int" = none) (ha : LM X E [e] f) (hg : Gl X "int" := by rfl) (he : starEach [e] X.env = (false, eval e X.env) :: starEach [] X.env := by rfl) : EM X E (.Call (.Name "int" p) [e] [] pos) (mCall bInt f) := e_callT cr_intA ok_int hg hm (by decide +kernel) ha (by decide) (by decide) he (by rfl)
theorem c_str (hm : X.mg "str" = none) (ha : LM X E [e] f) (hg : Gl X "str" := by rfl) (he : starEach [e] X.env = (false, eval e X.env) :: starEach [] X.env := by rfl) : EM X E (.Call (.Name "str" p) [e] [] pos) (mCall bStr f) := e_callT cr_strA ok_str hg hm (by decide +kernel) ha (by decide) (by decide) he (by rfl)
theorem c_tuple (hm : X.mg "tuple" = none) (ha : LM X E [e] f) (hg : Gl X "tuple" := by rfl) (he : starEach [e] X.env = (false, eval e X.env) :: starEach [] X.env := by rfl) : EM X E (.Call (.Name "tuple" p) [e] [] pos) (mCall bTuple f) := e_callT call_tuple_of ok_tuple hg hm (by decide +kernel) ha (by decide) (by decide) he (by rfl)
theorem c_min (hc : X.calm = true) (hm : X.mg "min" = none) (ha : LM X E (e :: es) f) (hg : Gl X "min" := by rfl) (he : starEach (e :: es) X.env = (false, eval e X.env) :: starEach es X.env := by rfl) (hpl : (backTo pos (starEach es X.env)).any (·.1) = false := by rfl) : EM X E (.Call (.Name "min" p) (e :: es) [] pos) (mCall bMin f) := e_callB (cr_minA hc) ok_min hg hm (by decide +kernel) ha (by decide) (by decide) he hpl
end
end Ly
set_option Elab.async false
set_option linter.all false
set_option maxRecDepth 100000
namespace Ly
open PySem PySem.Spec L2
open PyProof.Rows hiding St
def hasTy (T : String) (x : D) (S : Hs) : Bool := match x with
  | .str _ => decide (T = "str")
  | .int _ => decide (T = "int")
  | .ref i => match S[i]? with
    | some (.lst _) => decide (T = "list")
    | some (.rol _) => decide (T = "list")
    | some (.dic _) => decide (T = "dict")
    | some (.dit _) => decide (T = "dict")
    | _ => false
  | _ => false
theorem hasTy_V {K : PySem.W.Frag} {T : String} {p : Nat → Addr} {S : Hs} {H : Hp} {x : D} {v : V} (R : Real K p S H) (r : Rep K p S.length H x v) (h : hasTy T x S = true) : tyV K T v H := by
  unfold hasTy at h
  cases r with
  | str x => exact of_decide_eq_true (p := T = "str") h
  | int x => exact of_decide_eq_true (p := T = "int") h
  | ref hi =>
    simp only at h
    split at h
    · rename_i q
      obtain ⟨vs, h1, r⟩ := R.lst q
      exact .inl ⟨of_decide_eq_true h, _, SqL.of h1⟩
    · rename_i q
      obtain ⟨o, vs, h1, r⟩ := R.ob _ _ q
      exact .inl ⟨of_decide_eq_true h, _, .inl (.inr ⟨o, h1⟩)⟩
    · rename_i q
      obtain ⟨ks, h1, _⟩ := R.ob _ _ q
      exact .inr (.inr (.inl ⟨of_decide_eq_true h, .inl ⟨_, h1⟩⟩))
    · rename_i q
      obtain ⟨ks, h1, _⟩ := R.ob _ _ q
      exact .inr (.inr (.inl ⟨of_decide_eq_true h, .inr ⟨_, h1⟩⟩))
    · cases h
  | _ => cases h
def mBM (Tn : String) (op : D → List D → Hs → R D) (f : M) (g : ML) : M := fun l S => (f l S).bind fun x S1 => if hasTy Tn x S1 = true then (g l S1).bind fun ds S2 => op x ds S2 else .bad
def MtOk (K : PySem.W.Frag) (E : St → XK) (r : V → List V → Hp → VK → Prop) (op : D → List D → Hs → R D) : Prop :=
  ∀ p S H x v ds vs Q, Real K p S H → Rep K p S.length H x v → Reps K p S.length H ds vs → Post K E S.length p H (op x ds S) (QD K Q) → r v vs H Q
section
variable {X : Cx} {E : St → XK} {o e : Expr} {es : List Expr} {f : M} {g : ML} {name : Str} {apos cpos : Pos} {Tn id : String} {r : V → List V → Hp → VK → Prop} {op : D → List D → Hs → R D}
theorem e_bm (pa : PlainAttrs Tn) (slot : Slot Tn name id) (hty : typeOf (.builtin id) = pure (.type "method_descriptor")) (hm : MtR X id r) (hk : MtOk X.K E r op) (ho : EM X E o f) (ha : LM X E (e :: es) g)
    (hbase : attributeBase o name X.env (eval o X.env) = eval o X.env := by rfl)
    (hfew : ((backTo cpos (starEach (e :: es) X.env)).all (fun x => !x.1) && (backToKw cpos (keywordEach [] X.env)).all (fun x => x.1.isSome)
      && decide ((e :: es).length + ([] : List Keyword).length + (if ([] : List Keyword).isEmpty then 0 else 1) < 30)) = true := by rfl)
    (hline : (apos.endLine == cpos.line) = true := by rfl) (hs : starEach (e :: es) X.env = (false, eval e X.env) :: starEach es X.env := by rfl) (hplain : (backTo cpos (starEach es X.env)).any (·.1) = false := by rfl) :
    EM X E (.Call (.Attribute o name apos) (e :: es) [] cpos) (mBM Tn op f g) :=
  ⟨(pe_bm pa slot hty hm ho.pe ha.pa hbase hfew hline hs hplain).weak fun s H Q ⟨p, l, S, R, L, h⟩ => T.of R L h fun p1 S1 H1 d v R1 x1 L1 r1 h1 => by
    split at h1
    · rename_i ht
      exact ⟨hasTy_V R1 r1 ht, TL.of R1 L1 h1 fun p2 S2 H2 d2 v2 R2 x2 L2 r2 h2 => hk p2 S2 H2 _ _ _ _ Q R2 (r1.ext x2 _ _) r2 h2⟩
    · exact h1.elim⟩
end
def oAppend (x : D) (ds : List D) (S : Hs) : R D := match x, ds with
  | .ref i, [y] => match S[i]? with
    | some (.lst xs) => if xs.length < sizeLine then .ok .non (S.set i (.lst (xs ++ [y]))) else .bad
    | _ => .bad
  | _, _ => .bad
def oExtend (x : D) (ds : List D) (S : Hs) : R D := match x, ds with
  | .ref i, [.ref j] => match S[i]?, S[j]? with
    | some (.lst xs), some (.lst ys) => if xs.length + ys.length ≤ sizeLine then .ok .non (S.set i (.lst (xs ++ ys))) else .bad
    | _, _ => .bad
  | _, _ => .bad
def oPop (x : D) (ds : List D) (S : Hs) : R D := match x, ds with
  | .ref i, [] => match S[i]? with
    | some (.lst xs) => (match xs[xs.length - 1]? with
      | some y => .ok y (S.set i (.lst xs.dropLast))
      | none => .bad)
    | _ => .bad
  | _, _ => .bad
def oJoin (x : D) (ds : List D) (S : Hs) : R D := match x, ds with
  | .str a, [y] => match (match y with | .tup zs => some zs | .wt zs => some zs | y => seqD y S).bind strsD with
    | some ys => if (ys.map (·.length)).sum + ys.length * a.length ≤ 16777216 then .ok (.str (Txt.join a ys)) S else .bad
    | none => .bad
  | _, _ => .bad
section
variable {K : PySem.W.Frag} {E : St → XK} {X : Cx}
theorem ok_append : MtOk K E rAppend oAppend := by
  intro p S H x v ds vs Q R rx r h
  unfold oAppend at h
  split at h
  · split at h
    · rename_i y _ xs q
      split at h
      · rename_i hl
        obtain ⟨us, h1, r1⟩ := R.lst q
        cases rx
        cases r with
        | cons r0 rs =>
        cases rs
        have hi := Real.lt q
        refine ⟨_, us, _, rfl, rfl, h1, by rw [← r1.len]; exact hl, h.put R hi ⟨_, upd_same, ?_⟩ .non⟩
        exact (r1.ext (ext_upd (R.notup hi)) _ _).append (.cons (r0.ext (ext_upd (R.notup hi)) _ _) .nil)
      · exact h.elim
    · exact h.elim
  · exact h.elim
theorem Reps.dropLast {pi : Nat → Addr} {n : Nat} {H : Hp} {ds : List D} {vs : List V} (r : Reps K pi n H ds vs) : Reps K pi n H ds.dropLast vs.dropLast := by
  rw [List.dropLast_eq_take, List.dropLast_eq_take, ← r.len]; exact r.take _
abbrev rJoinA (K : PySem.W.Frag) : V → List V → Hp → VK → Prop := fun x xs H Q => ∃ a p ys, x = V.str a ∧ xs = [V.ref p] ∧ (SqL K H p (List.map V.str ys) ∨ SqT K H p (List.map V.str ys)) ∧ (List.map (fun x => x.length) ys).sum + ys.length * a.length ≤ 16777216 ∧ Q (V.str (Txt.join a ys)) H
theorem ok_join : MtOk K E (rJoinA K) oJoin := by
  intro p S H x v ds vs Q R rx r h
  unfold oJoin at h
  split at h
  · split at h
    · rename_i y ys e
      split at h
      · rename_i hl
        rw [Option.bind_eq_some_iff] at e
        obtain ⟨zs, e1, e2⟩ := e
        cases rx
        cases r with
        | cons r0 rs =>
        cases rs
        have hq := h.val R (.str _)
        split at e1
        · cases e1
          cases r0 with
          | tup t r => exact ⟨_, _, ys, rfl, rfl, .inr (SqT.of (by rw [← strs_V r e2]; exact t)), hl, hq⟩
        · cases e1
          cases r0 with
          | wt t r => exact ⟨_, _, ys, rfl, rfl, .inr (by rw [← strs_V r e2]; exact t.sq), hl, hq⟩
        · obtain ⟨a, vs, rfl, hs, r⟩ := seq_V R r0 e1
          exact ⟨_, _, ys, rfl, rfl, .inl (by rw [← strs_V r e2]; exact hs), hl, hq⟩
      · exact h.elim
    · exact h.elim
  · exact h.elim
end
def mSet (i : Nat) (f : M) : MS := fun l S => (f l S).bind fun d S1 => .ok (.nx (l.set i (some d))) S1
def mExpr (f : M) : MS := fun l S => (f l S).bind fun _ S1 => .ok (.nx l) S1
def mRet (f : M) : MS := fun l S => (f l S).bind fun d S1 => .ok (.rt d) S1
def mRetN : MS := fun _ S => .ok (.rt .non) S
def mPass : MS := fun l S => .ok (.nx l) S
def mBrk : MS := fun l S => .ok (.bk l) S
def mCnt : MS := fun l S => .ok (.ct l) S
def mBad : MS := fun _ _ => .bad
def mSeq (f g : MS) : MS := fun l S => (f l S).bind fun r S1 => match r with
  | .nx l1 => g l1 S1
  | r => .ok r S1
def mIfS (c : MB) (f g : MS) : MS := fun l S => (c l S).bind fun b S1 => if b = true then f l S1 else g l S1
section
variable {X : Cx} {E : St → XK} {st : Stmt} {sts : List Stmt} {f g : MS} {e : Expr} {m : M} {pos : Pos}
theorem Post.nx {K : PySem.W.Frag} {D0 : Ends} {p : Nat → Addr} {S : Hs} {H : Hp} {l : Ls} {s : St} (h : Post K E S.length p H (.ok (.nx l) S) (QF K D0)) (R : Real K p S H) (L : Sl K p S.length H l s) : D0.nx s H := Post.ok (Q := QF K D0) h Ext.refl R s L
theorem SMs.nil : SMs X E [] mPass := ⟨pss_nil.weak fun s H D0 ⟨p, l, S, R, L, h⟩ => Post.nx h R L⟩
theorem SMs.cons (h1 : SM X E st f) (h2 : SMs X E sts g) : SMs X E (st :: sts) (mSeq f g) := ⟨(pss_cons h1.ps h2.ps).weak fun s H D0 ⟨p, l, S, R, L, h⟩ => by
  refine ⟨p, l, S, R, L, (Post.bind (r := f l S) h).mono fun a S1 p1 H1 _ x R1 q => ?_⟩
  cases a with
  | nx l1 => exact fun s1 L1 => ⟨p1, l1, S1, R1, L1, q⟩
  | rt d => exact fun v r => Post.ok (Q := QF _ D0) q Ext.refl R1 v r
  | bk l1 => exact fun v r => Post.ok (Q := QF _ D0) q Ext.refl R1 v r
  | ct l1 => exact fun v r => Post.ok (Q := QF _ D0) q Ext.refl R1 v r⟩
theorem SMs.one (h1 : SM X E st f) : SMs X E [st] f := ⟨pss_one h1.ps⟩
theorem s_never : SM X E st mBad := ⟨(ps_never (X := X)).weak fun s H D0 ⟨p, l, S, R, L, h⟩ => h.elim⟩
theorem s_set {i : Nat} {x : Str} {pos' : Pos} (hN : X.N.Nodup) (he : EM X E e m) (hi : X.N[i]? = some x := by rfl) (hx : L2.Loc X.env.scope x := by first | exact Or.inl rfl | exact Or.inr rfl)
    (hs : swapsWith e (some (.Name x pos')) pos.line X.env = pure false := by rfl) (hf : X.fn x = true ∨ X.env.scope.names.lookup x = some .local := by first | exact .inl rfl | exact .inr rfl | assumption) :
    SM X E (.Assign [.Name x pos'] e pos) (mSet i m) :=
  ⟨(ps_set hN hi hx he.pe hs hf).weak fun s H D0 ⟨p, l, S, R, L, h⟩ => T.of R L h fun p1 S1 H1 d v R1 x1 L1 r1 h1 => Post.nx h1 R1 (L1.set i r1)⟩
theorem s_expr (he : EM X E e m) (hs : swapsWith e none pos.line X.env = pure false := by rfl) : SM X E (.Expr e pos) (mExpr m) :=
  ⟨(ps_expr he.pe hs).weak fun s H D0 ⟨p, l, S, R, L, h⟩ => T.of R L h fun p1 S1 H1 d v R1 x1 L1 r1 h1 => Post.nx h1 R1 L1⟩
theorem s_ret (he : EM X E e m) : SM X E (.Return (some e) pos) (mRet m) :=
  ⟨(ps_ret he.pe).weak fun s H D0 ⟨p, l, S, R, L, h⟩ => T.of R L h fun p1 S1 H1 d v R1 x1 L1 r1 h1 => Post.ok (Q := QF _ D0) h1 Ext.refl R1 v r1⟩
theorem TSt.last {K : PySem.W.Frag} {s : St} {H : Hp} {D0 : Ends} {p : Nat → Addr} {l : Ls} {S : Hs} (R : Real K p S H) (L : Sl K p S.length H l s) (h : Post K E S.length p H (f l S) (QF K D0)) : TSt K E f D0 s H := ⟨p, l, S, R, L, h⟩
theorem s_if {c : Expr} {a b : List Stmt} {cm : MB} (hc : BM X E c cm) (ha : SMs X E a f) (hb : SMs X E b g) : SM X E (.If c a b pos) (mIfS cm f g) :=
  ⟨(ps_if hc.pt ha.ps hb.ps).weak fun s H D0 ⟨p, l, S, R, L, h⟩ => TB.of R L h fun p1 S1 H1 b R1 x1 L1 h1 => by
    cases b with
    | true => exact TSt.last R1 L1 h1
    | false => exact TSt.last R1 L1 h1⟩
end
def iter {A β : Type} (step : A → Sum A (R β)) : Nat → A → R β
  | 0, _ => .bad
  | n + 1, a => Sum.elim (iter step n) id (step a)
theorem iter_succ {A β : Type} (step : A → Sum A (R β)) : ∀ n a, iter step n a ≠ .bad → iter step (n + 1) a = iter step n a
  | 0, a, h => absurd rfl h
  | n + 1, a, h => by
    simp only [iter] at h ⊢
    cases e : step a with
    | inl a' => rw [e] at h; exact iter_succ step n a' h
    | inr r => rfl
theorem iter_le {A β : Type} (step : A → Sum A (R β)) {n m : Nat} (hnm : n ≤ m) {a : A} (h : iter step n a ≠ .bad) : iter step m a = iter step n a := by
  induction hnm with
  | refl => rfl
  | step _ ih => rw [iter_succ step _ a (by rw [ih]; exact h), ih]
open Classical in
noncomputable def runI {A β : Type} (step : A → Sum A (R β)) (a : A) : R β := if h : ∃ n, iter step n a ≠ .bad then iter step h.choose a else .bad
theorem runI_of {A β : Type} {step : A → Sum A (R β)} {n : Nat} {a : A} (h : iter step n a ≠ .bad) : runI step a = iter step n a := by
  have hx : ∃ n, iter step n a ≠ .bad := ⟨n, h⟩
  unfold runI
  rw [dif_pos hx]
  rcases Nat.le_total n hx.choose with q | q
  · exact iter_le step q h
  · exact (iter_le step q hx.choose_spec).symm
theorem runI_ex {A β : Type} {step : A → Sum A (R β)} {a : A} (h : runI step a ≠ .bad) : ∃ n, iter step n a = runI step a ∧ iter step n a ≠ .bad := by
  apply Classical.byContradiction
  intro hx
  refine h ?_
  have : ¬ ∃ n, iter step n a ≠ .bad := fun ⟨n, hn⟩ => hx ⟨n, (runI_of hn).symm, hn⟩
  unfold runI; rw [dif_neg this]
theorem runI_eq {A β : Type} (step : A → Sum A (R β)) (a : A) : runI step a = match step a with
    | .inl a' => runI step a'
    | .inr r => r := by
  cases e : step a with
  | inr r =>
    show runI step a = r
    by_cases hr : r = .bad
    · subst hr
      apply Classical.byContradiction
      intro h
      obtain ⟨n, _, hn⟩ := runI_ex h
      cases n with
      | zero => exact hn rfl
      | succ n => simp only [iter, e] at hn; exact hn rfl
    · have : iter step 1 a = r := by simp only [iter, e]; rfl
      rw [runI_of (n := 1) (by rw [this]; exact hr), this]
  | inl a' =>
    show runI step a = runI step a'
    by_cases h : runI step a' = .bad
    · rw [h]
      apply Classical.byContradiction
      intro h2
      obtain ⟨n, _, hn⟩ := runI_ex h2
      cases n with
      | zero => exact hn rfl
      | succ n =>
        simp only [iter, e] at hn
        exact hn (by rw [Sum.elim_inl, ← runI_of hn]; exact h)
    · obtain ⟨n, e1, hn⟩ := runI_ex h
      have : iter step (n + 1) a = iter step n a' := by simp only [iter, e]; rfl
      rw [runI_of (n := n + 1) (by rw [this]; exact hn), this, e1]
def turnOf {A : Type} (r : R F) (next : Ls → Hs → A) : Sum A (R F) := match r with
  | .ok (.nx l) S => .inl (next l S)
  | .ok (.ct l) S => .inl (next l S)
  | .ok (.bk l) S => .inr (.ok (.nx l) S)
  | .ok (.rt d) S => .inr (.ok (.rt d) S)
  | .exc c fs l S => .inr (.exc c fs l S)
  | .bad => .inr .bad
def wStep (c : MB) (b : MS) (a : Ls × Hs) : Sum (Ls × Hs) (R F) := match c a.1 a.2 with
  | .ok t S1 => if t = true then turnOf (b a.1 S1) Prod.mk else .inr (.ok (.nx a.1) S1)
  | .exc c fs l S => .inr (.exc c fs l S)
  | .bad => .inr .bad
noncomputable def mWhile (c : MB) (b : MS) : MS := fun l S => runI (wStep c b) (l, S)
theorem mWhile_eq (c : MB) (b : MS) (l : Ls) (S : Hs) : mWhile c b l S = (c l S).bind fun t S1 => if t = true then (b l S1).bind fun r S2 => match r with
    | .nx l2 => mWhile c b l2 S2
    | .ct l2 => mWhile c b l2 S2
    | .bk l2 => .ok (.nx l2) S2
    | .rt d => .ok (.rt d) S2
    else .ok (.nx l) S1 := by
  unfold mWhile
  rw [runI_eq]
  unfold wStep turnOf
  simp only []
  cases c l S with
  | ok t S1 =>
    cases t with
    | false => rfl
    | true =>
      simp only [if_true, R.bind_ok]
      cases b l S1 with
      | ok r S2 => cases r <;> rfl
      | exc _ _ _ _ => rfl
      | bad => rfl
  | exc _ _ _ _ => rfl
  | bad => rfl
theorem Post.ne {α : Type} {K : PySem.W.Frag} {E : St → XK} {n : Nat} {p : Nat → Addr} {H : Hp} {r : R α} {Q : α → Hs → (Nat → Addr) → Hp → Prop} (h : Post K E n p H r Q) : r ≠ .bad := fun e => by subst e; exact h
section
variable {X : Cx} {E : St → XK} {g : MS} {pos : Pos}
theorem turn_post {K : PySem.W.Frag} {A : Type} {step : A → Sum A (R F)} {m : Nat} {p : Nat → Addr} {S : Hs} {H : Hp} {D0 : Ends} {r : R F} {next : Ls → Hs → A} {N : St → Hp → Prop}
    (h : Post K E S.length p H (Sum.elim (iter step m) id (turnOf r next)) (QF K D0))
    (hN : ∀ l S2 p2 H2 s, Ext S.length S2.length p p2 H H2 → Real K p2 S2 H2 → Sl K p2 S2.length H2 l s → Post K E S2.length p2 H2 (iter step m (next l S2)) (QF K D0) → N s H2) :
    Post K E S.length p H r (QF K { D0 with nx := N, ct := N, bk := D0.nx }) := by
  unfold turnOf at h
  cases r with
  | ok f S2 =>
    intro p2 H2 x R2
    cases f with
    | nx l => exact fun s L => hN l S2 p2 H2 s x R2 L (Post.ext h x)
    | ct l => exact fun s L => hN l S2 p2 H2 s x R2 L (Post.ext h x)
    | bk l => exact fun s L => Post.nx (Post.ext h x) R2 L
    | rt d => exact fun v r => Post.ok (Q := QF _ D0) (Post.ext h x) Ext.refl R2 v r
  | exc c fs l S2 => exact h
  | bad => exact h
end
end Ly
set_option Elab.async false
set_option linter.all false
set_option maxRecDepth 100000
namespace Ly
open PySem PySem.Spec L2
open PyProof.Rows hiding St
def R.at {α : Type} (r : R α) (l : Ls) : R α := match r with
  | .exc c fs _ S => .exc c fs l S
  | r => r
@[simp] theorem R.at_ok {α : Type} (a : α) (S : Hs) (l : Ls) : (R.ok a S).at l = .ok a S := (show (R.ok a S).at l = .ok a S from rfl).trans (Eq.refl _)
@[simp] theorem R.at_exc {α : Type} (c fs l2) (S : Hs) (l : Ls) : (R.exc c fs l2 S : R α).at l = .exc c fs l S := (show (R.exc c fs l2 S : R α).at l = .exc c fs l S from rfl).trans (Eq.refl _)
@[simp] theorem R.at_bad {α : Type} (l : Ls) : (R.bad : R α).at l = .bad := rfl
abbrev MD := List D → Hs → R D
def endOf (r : R F) : R D := match r with
  | .ok (.nx _) S => .ok .non S
  | .ok (.rt d) S => .ok d S
  | .ok _ _ => .bad
  | .exc c fs _ S => .exc c fs [] S
  | .bad => .bad
def mDef (np nl : Nat) (body : MS) : MD := fun ds S => if ds.length = np then endOf (body (ds.map some ++ List.replicate nl none) S) else .bad
def spM (K : PySem.W.Frag) (np : Nat) (m : MD) : Sp := fun vs H Q E => ∃ p S ds, Real K p S H ∧ Reps K p S.length H ds vs ∧ ds.length = np ∧ Post K (fun _ => E) S.length p H (m ds S) (QD K Q)
theorem spM_len {K : PySem.W.Frag} {np : Nat} {m : MD} {vs : List V} {H : Hp} {Q : VK} {E : XK} (h : spM K np m vs H Q E) : vs.length = np := by
  obtain ⟨p, S, ds, R, r, hl, _⟩ := h
  rw [← r.len]; exact hl
theorem Reps.sl {K : PySem.W.Frag} {p : Nat → Addr} {n : Nat} {H : Hp} {ds : List D} {vs : List V} (r : Reps K p n H ds vs) (m : Nat) : Sl K p n H (ds.map some ++ List.replicate m none) (vs.map some ++ List.replicate m none) := by
  induction ds generalizing vs with
  | nil =>
    cases r
    simp only [List.map_nil, List.nil_append]
    induction m with
    | zero => exact .nil
    | succ m ih => exact .no _ ih
  | cons d ds ih => cases r with | cons r s => exact .yes r (ih s)
section
variable {P : Program} {w : World} {K : PySem.W.Frag} {mg : Str → Option Value} {base : Heap}
theorem fn_def {x qual : Str} {st : Stmt} {f : Addr} {fd : FuncData} {N ps : List Str} {k : Nat} {np nl : Nat} {m : MS} (F : Fun K x qual st f fd) (S : FnScope N ps (defScope st)) (hp : ps.length = np) (hn : N.length = np + nl)
    (hb : ∀ (cdv : Value) (A : Around) (outer : List Env) (s : Shared) (H : Hp) (E : XK), Room k (A.deeper (PyProof.Rows.envOfC qual (defScope st) s.heap.objs.size f cdv)) →
      SMs (cxOf (L2.CX P w) P w K mg base N qual (defScope st) f cdv A outer s H E) (fun _ => E) (defBody st) m) : FnOk P w K mg base (L2.CX P w) (k + 1) f fd ps (spM K np (mDef np nl m)) := by
  refine F.okX S (fun vs H Q E h => (spM_len h).trans hp.symm) fun cdv A outer s H vs Q E hr h => ⟨_, (hb cdv A outer s H E hr).ps, ?_⟩
  obtain ⟨p, S0, ds, R, r, hl, h⟩ := h
  have e : L2.start N vs = vs.map some ++ List.replicate nl none := by
    unfold L2.start
    rw [hn, ← r.len, hl, Nat.add_sub_cancel_left]
  refine ⟨p, ds.map some ++ List.replicate nl none, S0, R, by rw [e]; exact r.sl nl, ?_⟩
  unfold mDef at h
  rw [if_pos hl] at h
  revert h
  generalize m _ S0 = res
  intro h
  cases res with
  | ok a S1 =>
    intro p1 H1 x1 R1
    cases a with
    | nx l1 => exact fun s1 L1 => Post.ok (Q := QD K Q) h x1 R1 _ .non
    | rt d => exact fun v r => Post.ok (Q := QD K Q) h x1 R1 v r
    | bk l1 => exact h.elim
    | ct l1 => exact h.elim
  | exc c fs l S1 => exact fun p1 H1 u d s1 x1 R1 rc rf L1 => h p1 H1 u d [] x1 R1 rc rf .nil
  | bad => exact h
theorem pass_def {N : List Str} {qual : Str} {scope : Scope} {f : Addr} {cdv : Value} {A : Around} {outer : List Env} {s : Shared} {H : Hp} {E : XK} :
    Passes (L2.CX P w) (cxOf (L2.CX P w) P w K mg base N qual scope f cdv A outer s H E) E :=
  passes_call (takes_of rfl rfl rfl rfl) fun _ _ _ _ h => h
end
section
variable {X : Cx} {E : St → XK} {CX : CXT} {k : Nat} {f C : Addr} {fd : FuncData} {ps : List Str} {np : Nat} {md : MD} {x m : Str} {p pos apos : Pos} {e o : Expr} {es : List Expr} {g : ML} {E0 : XK}
def mFn (md : MD) (g : ML) : M := fun l S => (g l S).bind fun ds S1 => (md ds S1).at l
theorem fn_post {α : Type} {K : PySem.W.Frag} {n : Nat} {q : Nat → Addr} {H : Hp} {r : R α} {l : Ls} {s : St} {Q : α → Hs → (Nat → Addr) → Hp → Prop} (L : Sl K q n H l s) (h : Post K E n q H (r.at l) Q) : Post K (fun _ => E s) n q H r Q := by
  cases r with
  | ok a S => exact h
  | exc c fs l2 S => exact fun p1 H1 u d s1 x1 R1 rc rf L1 => h p1 H1 u d s x1 R1 rc rf (L.ext x1)
  | bad => exact h
theorem e_fn (F : FnOk X.prog X.w X.K X.mg X.base CX k f fd ps (spM X.K np md)) (hp : ∀ ds S, ds.length ≠ np → md ds S = .bad) (hr : Room k X.A) (hg : Gl X x) (hm : X.mg x = some (.ref f)) (hk : PySem.W.keepIn X.K (.ref f) = true) (hb : Binds X.K fd ps [])
    (hx : ∀ σ, PassesAt CX X σ (E σ)) (ha : LM X E (e :: es) g) (hdb : (x == ("__debug__" : Str)) = false := by decide) (he : starEach (e :: es) X.env = (false, eval e X.env) :: starEach es X.env := by rfl)
    (hpl : (backTo pos (starEach es X.env)).any (·.1) = false := by rfl) : EM X E (.Call (.Name x p) (e :: es) [] pos) (mFn md g) :=
  ⟨(pe_callSD F hr hg hm hk hb .nil hx ha.pa hdb he hpl).weak fun s H Q ⟨q, l, S, R, L, h⟩ => TL.of R L h fun p1 S1 H1 d v R1 x1 L1 r1 h1 => by
    refine ⟨p1, S1, d, R1, by rw [List.append_nil]; exact r1, ?_, fn_post L1 h1⟩
    apply Classical.byContradiction
    intro hne
    rw [hp d S1 hne] at h1
    exact h1⟩
theorem Passes.at (h : Passes CX X E0) (σ : St) : PassesAt CX X σ E0 := fun pins H s e s' => h pins σ H s e s'
end
theorem mDef_len {np nl : Nat} {b : MS} (ds : List D) (S : Hs) (h : ds.length ≠ np) : mDef np nl b ds S = .bad := if_neg h
mutual
def D.low (n : Nat) : D → Prop
  | .ref i => i < n
  | .tup ds => D.lows n ds
  | .wt ds => D.lows n ds
  | .wl ds => D.lows n ds
  | _ => True
def D.lows (n : Nat) : List D → Prop
  | [] => True
  | d :: ds => D.low n d ∧ D.lows n ds
end
def O.low (n : Nat) : O → Prop
  | .lst ds => D.lows n ds
  | .rol ds => D.lows n ds
  | .dic kvs => D.lows n (kvs.map (·.2))
  | .dit kvs => D.lows n (kvs.map (·.2))
  | .ins _ fs => D.lows n (fs.map (·.2))
def Wf (S : Hs) : Prop := ∀ (i : Nat) (o : O), S[i]? = some o → o.low S.length
section
variable {K : PySem.W.Frag} {pi : Nat → Addr} {n m : Nat} {H : Hp}
mutual
theorem Rep.low : ∀ (d : D) (v : V), Rep K pi n H d v → d.low n
  | .non, _, _ => by simp [D.low]
  | .bl _, _, _ => by simp [D.low]
  | .int _, _, _ => by simp [D.low]
  | .str _, _, _ => by simp [D.low]
  | .tup ds, _, .tup t r => by simp only [D.low]; exact Reps.low ds _ r
  | .wt ds, _, .wt t r => by simp only [D.low]; exact Reps.low ds _ r
  | .wl ds, _, .wl t r => by simp only [D.low]; exact Reps.low ds _ r
  | .ref i, _, .ref h => by simpa [D.low] using h
  | .cst _, _, _ => by simp [D.low]
theorem Reps.low : ∀ (d : List D) (v : List V), Reps K pi n H d v → D.lows n d
  | [], _, _ => by simp [D.lows]
  | d :: ds, _, .cons r s => by simp only [D.lows]; exact ⟨Rep.low d _ r, Reps.low ds _ s⟩
end
mutual
theorem Rep.cut : ∀ (d : D) (v : V), Rep K pi n H d v → d.low m → Rep K pi m H d v
  | .non, _, .non, _ => .non
  | .bl _, _, .bl _, _ => .bl _
  | .int _, _, .int _, _ => .int _
  | .str _, _, .str _, _ => .str _
  | .tup ds, _, .tup t r, h => .tup t (Reps.cutN ds _ r (by simpa only [D.low] using h))
  | .wt ds, _, .wt t r, h => .wt t (Reps.cutN ds _ r (by simpa only [D.low] using h))
  | .wl ds, _, .wl t r, h => .wl t (Reps.cutN ds _ r (by simpa only [D.low] using h))
  | .ref i, _, .ref _, h => .ref (by simpa only [D.low] using h)
  | .cst _, _, .cst _, _ => .cst _
theorem Reps.cutN : ∀ (d : List D) (v : List V), Reps K pi n H d v → D.lows m d → Reps K pi m H d v
  | [], _, .nil, _ => .nil
  | d :: ds, _, .cons r s, h => by
    simp only [D.lows] at h
    exact .cons (Rep.cut d _ r h.1) (Reps.cutN ds _ s h.2)
end
theorem RO.low {a : Addr} {o : O} (h : RO K pi n H a o) : o.low n := by
  cases o with
  | lst ds => obtain ⟨xs, _, h2⟩ := h; exact h2.low
  | rol ds => obtain ⟨o, xs, _, h2⟩ := h; exact h2.low
  | dic kvs => obtain ⟨ks, _, _, h3⟩ := h; exact h3.low
  | dit kvs => obtain ⟨ks, _, _, h3⟩ := h; exact h3.low
  | ins C fs => obtain ⟨dx, ks, _, _, h3⟩ := h; exact h3.low
theorem RO.cut {a : Addr} {o : O} (h : RO K pi n H a o) (l : o.low m) : RO K pi m H a o := by
  cases o with
  | lst ds => obtain ⟨xs, h1, h2⟩ := h; exact ⟨xs, h1, h2.cutN _ _ l⟩
  | rol ds => obtain ⟨o, xs, h1, h2⟩ := h; exact ⟨o, xs, h1, h2.cutN _ _ l⟩
  | dic kvs => obtain ⟨ks, h1, h2, h3⟩ := h; exact ⟨ks, h1, h2, h3.cutN _ _ l⟩
  | dit kvs => obtain ⟨ks, h1, h2, h3⟩ := h; exact ⟨ks, h1, h2, h3.cutN _ _ l⟩
  | ins C fs => obtain ⟨dx, ks, h1, h2, h3⟩ := h; exact ⟨dx, ks, h1, h2, h3.cutN _ _ l⟩
theorem Real.wf {S : Hs} (R : Real K pi S H) : Wf S := fun i o e => (R.ob i o e).low
theorem Real.drop {S g : Hs} (R : Real K pi (S ++ g) H) (w : Wf S) : Real K pi S H := by
  refine ⟨fun i o e => ?_, fun i j hi hj => R.inj i j (by simp; omega) (by simp; omega)⟩
  have hi := (List.getElem?_eq_some_iff.mp e).1
  exact (R.ob i o (by rw [List.getElem?_append_left hi]; exact e)).cut (w i o e)
end
def Fine (np : Nat) (m' m : MD) : Prop := ∀ ds S, Wf S → D.lows S.length ds → ds.length = np → match m' ds S with
  | .ok v S' => S.length ≤ S'.length ∧ Wf S' ∧ v.low S'.length ∧ ∃ g, m ds S = .ok v (S' ++ g)
  | .exc c fs l S' => l = [] ∧ S.length ≤ S'.length ∧ Wf S' ∧ (∀ l, fs = some l → D.lows S'.length (l.map (·.2))) ∧ ∃ g, m ds S = .exc c fs [] (S' ++ g)
  | .bad => True
theorem spM_fine {K : PySem.W.Frag} {np : Nat} {m' m : MD} (hf : Fine np m' m) {vs : List V} {H : Hp} {Q : VK} {E : XK} (h : spM K np m' vs H Q E) : spM K np m vs H Q E := by
  obtain ⟨p, S, ds, R, r, hl, h⟩ := h
  refine ⟨p, S, ds, R, r, hl, ?_⟩
  have f := hf ds S R.wf r.low hl
  revert f h
  cases m' ds S with
  | ok v S' =>
    intro h f
    obtain ⟨h1, h2, h3, g, e⟩ := f
    rw [e]
    intro p1 H1 x1 R1 u r1
    exact Post.ok (Q := QD K Q) h ⟨h1, x1.ag, x1.tp⟩ (R1.drop h2) u (r1.cut _ _ h3)
  | exc c fs l S' =>
    intro h f
    obtain ⟨rfl, h1, h2, h3, g, e⟩ := f
    rw [e]
    intro p1 H1 u d s x1 R1 rc rf L
    refine h p1 H1 u d s ⟨h1, x1.ag, x1.tp⟩ (R1.drop h2) rc ?_ ?_
    · unfold XFs at rf ⊢
      cases d <;> cases fs <;> first | exact rf | skip
      obtain ⟨ks, k1, k2, k3⟩ := rf
      exact ⟨ks, k1, k2, k3.cutN _ _ (h3 _ rfl)⟩
    · cases L; exact .nil
  | bad => intro h f; exact h.elim
end Ly
set_option Elab.async false
set_option linter.all false
set_option maxRecDepth 100000
namespace Ly
open PySem PySem.Spec L2
open PyProof.Rows hiding St
abbrev MG := D → Ls → Hs → R Ls
def TG' (K : PySem.W.Frag) (E : St → XK) (f : MG) : TG := fun v s H Q => ∃ p l S d, Real K p S H ∧ Sl K p S.length H l s ∧ Rep K p S.length H d v ∧ Post K E S.length p H (f d l S) (fun l1 S1 p1 H1 => ∀ s1, Sl K p1 S1.length H1 l1 s1 → Q s1 H1)
structure GM (X : Cx) (E : St → XK) (t : Expr) (f : MG) : Prop where pg : PG X t (TG' X.K E f)
theorem _root_.L2.PG.weak {X : Cx} {e : Expr} {t t' : TG} (h : PG X e t) (w : ∀ v s H Q, t' v s H Q → t v s H Q) : PG X e t' := ⟨fun pins s σ H v u Q I r q => h.run pins s σ H v u Q I r (w v σ H Q q)⟩
def gN (i : Nat) : MG := fun d l S => .ok (l.set i (some d)) S
abbrev MGs := List D → Ls → Hs → R Ls
def gsN : MGs := fun ds l S => match ds with
  | [] => .ok l S
  | _ => .bad
def gsC (f : MG) (g : MGs) : MGs := fun ds l S => match ds with
  | d :: r => (f d l S).bind fun l1 S1 => g r l1 S1
  | [] => .bad
def gT (n : Nat) (f : MGs) : MG := fun d l S => match d with
  | .tup ds => if ds.length = n then f ds l S else .bad
  | .wt ds => if ds.length = n then f ds l S else .bad
  | _ => .bad
def TGs' (K : PySem.W.Frag) (E : St → XK) (f : MGs) : TGs := fun v s H Q => ∃ p l S d, Real K p S H ∧ Sl K p S.length H l s ∧ Reps K p S.length H d v ∧ Post K E S.length p H (f d l S) (fun l1 S1 p1 H1 => ∀ s1, Sl K p1 S1.length H1 l1 s1 → Q s1 H1)
structure GMs (X : Cx) (E : St → XK) (t : List Expr) (f : MGs) : Prop where pgs : PGs X t (TGs' X.K E f)
section
variable {X : Cx} {E : St → XK} {pos : Pos}
theorem g_n {i : Nat} {x : Str} (hN : X.N.Nodup) (hi : X.N[i]? = some x := by rfl) (hx : L2.Loc X.env.scope x := by first | exact Or.inl rfl | exact Or.inr rfl) (hf : X.fn x = true ∨ X.env.scope.names.lookup x = some .local := by first | exact .inl rfl | exact .inr rfl | assumption) : GM X E (.Name x pos) (gN i) :=
  ⟨(pg_name hN hi hx hf).weak fun v s H Q ⟨p, l, S, d, R, L, r, h⟩ => Post.ok h Ext.refl R _ (L.set i r)⟩
theorem gs_nil : GMs X E [] gsN := ⟨⟨fun pins s σ H vs us Q I rv ⟨p, l, S, d, R, L, r, h⟩ => by
  refine pgs_nil.run pins s σ H vs us Q I rv ?_
  unfold gsN at h
  split at h
  · cases r; exact ⟨rfl, Post.ok h Ext.refl R _ L⟩
  · exact h.elim⟩⟩
theorem gs_cons {e : Expr} {es : List Expr} {f : MG} {g : MGs} (h1 : GM X E e f) (h2 : GMs X E es g) (hs : (assignEach (e :: es) X.env).map (·.2) = assign e X.env :: (assignEach es X.env).map (·.2) := by rfl) : GMs X E (e :: es) (gsC f g) :=
  ⟨⟨fun pins s σ H vs us Q I rv ⟨p, l, S, d, R, L, r, h⟩ => by
    refine (pgs_cons h1.pg h2.pgs hs).run pins s σ H vs us Q I rv ?_
    unfold gsC at h
    split at h
    · cases r with
      | cons r0 rs =>
      exact ⟨_, _, rfl, p, l, S, _, R, L, r0, h.bind.mono fun l1 S1 p1 H1 _ x1 R1 q s1 L1 => ⟨p1, l1, S1, _, R1, L1, rs.ext x1 _ _, q⟩⟩
    · exact h.elim⟩⟩
theorem g_tup {es : List Expr} {k n : Nat} {f : MGs} (hc : X.calm = true) (h : GMs X E es f) (hn : (assignEach es X.env).length = n := by rfl) (hst : (assignEach es X.env).findIdx? (·.1) = none := by rfl) : GM X E (.Tuple es k pos) (gT n f) :=
  ⟨(pg_tup hc h.pgs hn hst).weak fun v s H Q ⟨p, l, S, d, R, L, r, h⟩ => by
    unfold gT at h
    split at h
    · split at h
      · rename_i hl
        cases r with
        | tup t r => exact ⟨_, _, rfl, SqT.of t, by rw [← r.len]; exact hl, p, l, S, _, R, L, r, h⟩
      · exact h.elim
    · split at h
      · rename_i hl
        cases r with
        | wt t r => exact ⟨_, _, rfl, t.sq, by rw [← r.len]; exact hl, p, l, S, _, R, L, r, h⟩
      · exact h.elim
    · exact h.elim⟩
def mAsg (f : M) (g : MG) : MS := fun l S => (f l S).bind fun d S1 => (g d l S1).bind fun l1 S2 => .ok (.nx l1) S2
theorem s_asg {tg e : Expr} {f : M} {g : MG} (he : EM X E e f) (hg : GM X E tg g) (hs : swapsWithSole [tg] e pos.line X.env = pure false := by rfl) (hw : swappedStores [tg] e X.env = pure none := by rfl)
    (h1 : (assignEach [tg] X.env).map (·.2) = [assign tg X.env] := by rfl) : SM X E (.Assign [tg] e pos) (mAsg f g) :=
  ⟨(ps_asg he.pe hg.pg hs hw h1).weak fun s H D0 ⟨p, l, S, R, L, h⟩ => T.of R L h fun p1 S1 H1 d v R1 x1 L1 r1 h1 => ⟨p1, l, S1, d, R1, L1, r1, h1.bind.mono fun l1 S2 p2 H2 _ x2 R2 q s2 L2 => Post.nx q R2 L2⟩⟩
def oSet (x y d : D) (S : Hs) : R Unit := match x with
  | .ref i => match S[i]? with
    | some (.lst xs) => (match y with
      | .int k => (match ixN xs.length k with
        | some j => .ok () (S.set i (.lst (xs.set j d)))
        | none => .bad)
      | _ => .bad)
    | some (.dic kvs) => (match y.key with
      | some k => if kvs.length < sizeLine then .ok () (S.set i (.dic (setK kvs k d))) else .bad
      | none => .bad)
    | some (.dit kvs) => (match y.tkey with
      | some k => if kvs.length < sizeLine then .ok () (S.set i (.dit (setK kvs k d))) else .bad
      | none => .bad)
    | _ => .bad
  | _ => .bad
abbrev rSetD : V → V → V → Hp → (Hp → Prop) → Prop := fun o i v H Q => ∃ a H', o = .ref a ∧ DPut H a i v H' ∧ Q H'
theorem set_dic (hu : X.A.units + 1 < cLine) : PSet X rSetD := by
  intro pins s σ H o i v ov iv u Q I ro ri rv h
  obtain ⟨a, H', rfl, g, q⟩ := h
  obtain rfl : ov = Value.ref a := ro
  exact d_setItem hu I g ri rv fun s4 I4 => ⟨H', I4, q⟩
abbrev rSetA : V → V → V → Hp → (Hp → Prop) → Prop := fun o i v H Q => rSetL o i v H Q ∨ rSetD o i v H Q
theorem set_all (hu : X.A.units + 1 < cLine) : PSet X rSetA := fun pins s σ H o i v ov iv u Q I ro ri rv h => h.elim (set_list pins s σ H o i v ov iv u Q I ro ri rv) (set_dic hu pins s σ H o i v ov iv u Q I ro ri rv)
theorem setK_V {κ : Type} [DecidableEq κ] {K : PySem.W.Frag} {pi : Nat → Addr} {n : Nat} {H : Hp} {kvs : List (κ × D)} {ks : List (κ × V)} (h : ks.map (·.1) = kvs.map (·.1)) (r : Reps K pi n H (kvs.map (·.2)) (ks.map (·.2))) (k : κ) {d : D} {v : V} (rv : Rep K pi n H d v) :
    (putK ks k v).map (·.1) = (setK kvs k d).map (·.1) ∧ Reps K pi n H ((setK kvs k d).map (·.2)) ((putK ks k v).map (·.2)) := by
  have hany : (ks.any fun kv => decide (kv.1 = k)) = kvs.any fun kv => decide (kv.1 = k) := by
    have e1 : (ks.any fun kv => decide (kv.1 = k)) = (ks.map (·.1)).any fun z => decide (z = k) := by rw [List.any_map]; rfl
    have e2 : (kvs.any fun kv => decide (kv.1 = k)) = (kvs.map (·.1)).any fun z => decide (z = k) := by rw [List.any_map]; rfl
    rw [e1, e2, h]
  unfold putK setK
  rw [hany]
  split
  · rename_i hx
    clear hx hany
    induction kvs generalizing ks with
    | nil => cases ks with | nil => exact ⟨rfl, .nil⟩ | cons a b => cases h
    | cons a kvs ih =>
      cases ks with
      | nil => cases h
      | cons b ks =>
        simp only [List.map_cons, List.cons.injEq] at h
        cases r with
        | cons r s =>
          obtain ⟨i1, i2⟩ := ih h.2 s
          simp only [List.map_cons, List.cons.injEq]
          rw [h.1]
          by_cases e : a.1 = k
          · simp only [e, if_true]; exact ⟨⟨trivial, i1⟩, .cons rv i2⟩
          · simp only [e, if_false]; exact ⟨⟨h.1, i1⟩, .cons r i2⟩
  · rw [List.map_append, List.map_append, List.map_append, List.map_append, h]
    exact ⟨rfl, r.append (.cons rv .nil)⟩
theorem Post.put1 {K : PySem.W.Frag} {p : Nat → Addr} {S : Hs} {H : Hp} {i : Nat} {o : O} {u : HO} {Q : Unit → Hs → (Nat → Addr) → Hp → Prop} (h : Post K E S.length p H (.ok () (S.set i o)) Q) (R : Real K p S H) (hi : i < S.length)
    (ro : RO K p S.length (upd H (p i) u) (p i) o) : Q () (S.set i o) p (upd H (p i) u) := by
  have e : (S.set i o).length = S.length := by simp
  exact Post.ok h (by rw [e]; exact ext_upd (R.notup hi)) (R.put hi ro)
theorem ok_set {K : PySem.W.Frag} {p : Nat → Addr} {S : Hs} {H : Hp} {x y d : D} {v u w : V} {Q : Hp → Prop} {QQ : Unit → Hs → (Nat → Addr) → Hp → Prop} (R : Real K p S H) (rx : Rep K p S.length H x v) (ry : Rep K p S.length H y u) (rd : Rep K p S.length H d w)
    (h : Post K E S.length p H (oSet x y d S) QQ) (hq : ∀ S1 H1, Ext S.length S1.length p p H H1 → Real K p S1 H1 → QQ () S1 p H1 → Q H1) : rSetA v u w H Q := by
  have fin : ∀ {i : Nat} {o : O} {z : HO}, i < S.length → Post K E S.length p H (.ok () (S.set i o)) QQ → RO K p S.length (upd H (p i) z) (p i) o → Q (upd H (p i) z) := fun {i o z} hi h ro =>
    hq _ _ (by rw [List.length_set]; exact ext_upd (R.notup hi)) (R.put hi ro) (h.put1 R hi ro)
  unfold oSet at h
  split at h
  · split at h
    · rename_i q
      split at h
      · split at h
        · rename_i j e
          obtain ⟨vs, h1, r⟩ := R.lst q
          cases rx; cases ry
          refine .inl ⟨_, vs, _, j, rfl, rfl, h1, by rw [← r.len]; exact e, fin (Real.lt q) h ⟨_, upd_same, ?_⟩⟩
          exact (r.ext (ext_upd (R.notup (Real.lt q))) _ _).set j (rd.ext (ext_upd (R.notup (Real.lt q))) _ _)
        · exact h.elim
      · exact h.elim
    · rename_i kvs q
      split at h
      · rename_i k ek
        split at h
        · rename_i hl
          obtain ⟨ks, h1, h2, h3⟩ := R.ob _ _ q
          have hlen : ks.length = kvs.length := by simpa using congrArg List.length h2
          cases rx
          have sv := setK_V (H := upd H (p _) (.dK (putK ks k w))) h2 (h3.ext (ext_upd (R.notup (Real.lt q))) _ _) k (rd.ext (ext_upd (R.notup (Real.lt q))) _ _)
          exact .inr ⟨_, _, rfl, .inl ⟨ks, k, h1, key_V ry ek, by rw [hlen]; exact hl, rfl⟩, fin (Real.lt q) h ⟨_, upd_same, sv.1, sv.2⟩⟩
        · exact h.elim
      · exact h.elim
    · rename_i kvs q
      split at h
      · rename_i k ek
        split at h
        · rename_i hl
          obtain ⟨ks, h1, h2, h3⟩ := R.ob _ _ q
          have hlen : ks.length = kvs.length := by simpa using congrArg List.length h2
          cases rx
          have sv := setK_V (H := upd H (p _) (.dT (putK ks k w))) h2 (h3.ext (ext_upd (R.notup (Real.lt q))) _ _) k (rd.ext (ext_upd (R.notup (Real.lt q))) _ _)
          unfold D.tkey at ek
          split at ek
          · cases ry with
            | @tup b _ us t r =>
            exact .inr ⟨_, _, rfl, .inr ⟨ks, k, b, h1, rfl, by rw [← keys_V r ek]; exact t, by rw [hlen]; exact hl, rfl⟩, fin (Real.lt q) h ⟨_, upd_same, sv.1, sv.2⟩⟩
          · cases ek
        · exact h.elim
      · exact h.elim
    · exact h.elim
  · exact h.elim
def gSb (f g : M) : MG := fun d l S => (f l S).bind fun x S1 => (g l S1).bind fun y S2 => (oSet x y d S2).bind fun _ S3 => .ok l S3
theorem g_sub {o i : Expr} {f g : M} (hu : X.A.units + 1 < cLine) (ho : EM X E o f) (hi : EM X E i g)
    (ha : ∀ v, assign (.Subscript o i pos) X.env v = (do
      let ov ← holding [v] (eval o X.env)
      let iv ← holding [v, ov] (eval i X.env)
      standAt pos
      holding [v, ov, iv] (setItem ov iv v)
      release [v, ov, iv] []) := by intro _; rfl) : GM X E (.Subscript o i pos) (gSb f g) :=
  ⟨(pg_sub ho.pe hi.pe (set_all hu) ha).weak fun v s H Q ⟨p, l, S, d, R, L, r, h⟩ => T.of R L h fun p1 S1 H1 x vx R1 x1 L1 r1 h1 => T.of R1 L1 h1 fun p2 S2 H2 y vy R2 x2 L2 r2 h2 =>
    ok_set R2 (r1.ext x2 _ _) r2 ((r.ext x1 _ _).ext x2 _ _) h2.bind fun S3 H3 x3 R3 q => Post.ok q Ext.refl R3 _ (L2.ext x3)⟩
theorem s_sub {o i e : Expr} {f g m : M} {pos' : Pos} (hu : X.A.units + 1 < cLine) (he : EM X E e m) (ho : EM X E o f) (hi : EM X E i g)
    (hs : swapsWithSole [Expr.Subscript o i pos'] e pos.line X.env = pure false := by rfl) (hw : swappedStores [Expr.Subscript o i pos'] e X.env = pure none := by rfl) (h1 : (assignEach [Expr.Subscript o i pos'] X.env).map (·.2) = [assign (Expr.Subscript o i pos') X.env] := by rfl)
    (ha : ∀ v, assign (.Subscript o i pos') X.env v = (do
      let ov ← holding [v] (eval o X.env)
      let iv ← holding [v, ov] (eval i X.env)
      standAt pos'
      holding [v, ov, iv] (setItem ov iv v)
      release [v, ov, iv] []) := by intro _; rfl) : SM X E (.Assign [.Subscript o i pos'] e pos) (mAsg m (gSb f g)) := s_asg he (g_sub hu ho hi ha) hs hw h1
def mAug (i : Nat) (op : D → D → Hs → R D) (f : M) : MS := fun l S => match l[i]? with
  | some (some x) => (f l S).bind fun y S1 => (op x y S1).bind fun d S2 => .ok (.nx (l.set i (some d))) S2
  | _ => .bad
def oIAdd : D → D → Hs → R D
  | .int i, .int j, S => .ok (.int (i + j)) S
  | .str x, .str y, S => if x.length + y.length ≤ sizeLine then .ok (.str (x ++ y)) S else .bad
  | _, _, _ => .bad
abbrev rIAdd2 : R2 := orR (rI0 fun i j => .int (i + j)) (fun x y H Q => ∃ i j, x = V.str i ∧ y = V.str j ∧ i.length + j.length ≤ sizeLine ∧ Q (V.str (i ++ j)) H)
theorem ok_iadd {K : PySem.W.Frag} : OpOk K E rIAdd2 oIAdd := by
  intro p S H x y v u Q R rx ry h
  unfold oIAdd at h
  split at h
  · cases rx; cases ry; exact .inl ⟨_, _, rfl, rfl, h.val R (.int _)⟩
  · split at h
    · rename_i hl; cases rx; cases ry; exact .inr ⟨_, _, rfl, rfl, hl, h.val R (.str _)⟩
    · exact h.elim
  · exact h.elim
end
end Ly
set_option Elab.async false
set_option linter.all false
set_option maxRecDepth 100000
namespace LyI
open PySem PySem.Spec L2
open PyProof.Rows hiding St
def SqB (k : Bool) (K : PySem.W.Frag) (H : Hp) (a : Addr) (xs : List V) : Prop := match k with
  | true => SqL K H a xs
  | false => SqT K H a xs
def ItB (k : Bool) (h : Heap) (it a : Addr) (i : Nat) : Prop := match k with
  | true => h.IsListIter it a i
  | false => h.IsTupleIter it a i
def IsB (k : Bool) (h : Heap) (a : Addr) (items : Array Value) : Prop := match k with
  | true => h.IsList a items
  | false => h.IsTuple a items
def itO (k : Bool) (a : Addr) : Obj := match k with
  | true => { cls := .type "list_iterator", data := .fields #[.ref a, .int 0 0] }
  | false => { cls := .type "tuple_iterator", data := .fields #[.ref a, .int 0 0] }
theorem drawsB {prog : Program} {w : World} {A : Around} (k : Bool) (hh : A.handled = none) (it a : Addr) (hne : a ≠ it) (items : Array Value) :
    Draws prog w A it [it, a] items.size (fun i v => items[i]? = some v) (fun i h => ItB k h it a i ∧ IsB k h a items) := by
  cases k
  · exact .tuple hh it a hne items
  · exact .list hh it a hne items
theorem beginsB (k : Bool) (a : Addr) (items : Array Value) : Begins (.ref a) (itO k a) fun h => IsB k h a items := by
  cases k
  · exact begins_tuple a items
  · exact begins_list a items
theorem itB_new (k : Bool) {h : Heap} {it a : Addr} (e : h.get? it = some (itO k a)) : ItB k h it a 0 := by
  cases k
  · exact ⟨_, e, rfl, rfl⟩
  · exact ⟨_, e, rfl, rfl⟩
theorem ItB.at {k : Bool} {h h' : Heap} {it a : Addr} {i : Nat} (x : ItB k h it a i) (e : ∀ o, h.get? it = some o → h'.get? it = some o) : ItB k h' it a i := by
  cases k
  · exact Heap.IsTupleIter.at x e
  · exact Heap.IsListIter.at x e
theorem ItB.obj {k : Bool} {h : Heap} {it a : Addr} {i : Nat} (x : ItB k h it a i) : ∃ o, h.get? it = some o ∧ ∀ v, o.data ≠ .cell v := by
  cases k
  · obtain ⟨o, e, _, d⟩ := x; exact ⟨o, e, fun v q => by rw [d] at q; cases q⟩
  · obtain ⟨o, e, _, d⟩ := x; exact ⟨o, e, fun v q => by rw [d] at q; cases q⟩
section
variable {X : Cx} {pins : List (Addr × Obj)} {σ : St} {H : Hp} {s : Shared} {a : Addr} {xs ys : List V} {k : Bool}
theorem seqB (I : Inv X pins σ H s) (h : SqB k X.K H a xs) : ∃ its : List Value, Vals xs its ∧ IsB k s.heap a its.toArray ∧ a < s.heap.objs.size := by
  cases k
  · obtain ⟨its, r, p, _⟩ := I.tuple h
    obtain ⟨o, e, _⟩ := id p
    exact ⟨its, r, p, Heap.lt_size e⟩
  · obtain ⟨its, r, p, _⟩ := I.list h
    exact ⟨its, r, p.isList, p.lt⟩
theorem seqB_inj (I : Inv X pins σ H s) (h : SqB k X.K H a xs) (h' : SqB k X.K H a ys) : xs = ys := by
  cases k
  · exact I.tuple_inj h h'
  · exact I.list_inj h h'
end
def IteB (k : Bool) (K : PySem.W.Frag) (a : Addr) : It :=
  ⟨fun i H => ∃ (xs : List V) (x : V), SqB k K H a xs ∧ xs[i]? = some x, fun i H v H' => ∃ T x, v = .ref T ∧ H T = none ∧ H' = upd H T (.tup [.int (i : Nat), x]) ∧ ∀ xs, SqB k K H a xs → xs[i]? = some x, fun i H => ∃ xs : List V, SqB k K H a xs ∧ xs.length = i⟩
theorem turn_enumB {P : Program} {w : World} {K : PySem.W.Frag} {elts : List Expr} {kk : Nat} {tpos : Pos} (k : Bool) (a e it : Addr) :
    Turn P w K (.Tuple elts kk tpos) (IteB k K a) [e, it] e (fun i h => (∃ old, IsEnum h e it ((i : Nat) : Int) old) ∧ ItB k h it a i ∧ e ≠ it ∧ a ≠ it ∧ a ≠ e) where
  mem := by simp
  obj := fun i h st b hb => by
    obtain ⟨⟨old, he⟩, hi, _⟩ := st
    have e' : b = e ∨ b = it := by simpa using hb
    rcases e' with z | z
    · rw [z]; exact ⟨_, he, fun v q => nomatch q⟩
    · rw [z]; exact hi.obj
  keep := fun i h h' st k => let ⟨⟨old, he⟩, hi, hne⟩ := st; ⟨⟨old, k e (by simp) _ he⟩, hi.at fun o q => k it (by simp) o q, hne⟩
  item := by
    intro X hP hw hK hc i pins s σ H E I hf st hg
    subst hP hw hK
    obtain ⟨⟨old, he⟩, hit, hne, hai, hae⟩ := st
    obtain ⟨xs, x, hq, hx⟩ := hg
    obtain ⟨its, rv, p, hz⟩ := seqB I hq
    obtain ⟨u, hu, ru⟩ := rv.get hx
    have hel : e < s.heap.objs.size := Heap.lt_size he
    have hil : it < s.heap.objs.size := by obtain ⟨_, q, _⟩ := hit.obj; exact Heap.lt_size q
    have hlt : i < its.toArray.size := by
      obtain ⟨h1, _⟩ := List.getElem?_eq_some_iff.mp hu
      simpa using h1
    refine wpAny_pyNext_enum_itemD (drawsB k (by exact I.ok.hd hc) it a hai its.toArray) he ⟨hit, p⟩ hlt hne (by simp [hne, Ne.symm hae]) fun x' h' tk hx' ho hit' hT hsz hk => ?_
    have hxu : x' = u := by
      have : its[i]? = some x' := by simpa using hx'
      rw [hu] at this; cases this; rfl
    subst hxu
    refine ⟨_, rfl, wpAny_letOwnedTupleGo_enum (s := { s with heap := h', toks := tk + 1 }) ho fun h'' he' sb => ?_⟩
    have hT2 : h''.get? s.heap.objs.size = some { cls := .type "tuple", data := .seq #[.int i tk, x'] } := (sb.2 _ (Nat.ne_of_gt hel)).trans hT
    have new : ObjOk X.prog X.w (upd H s.heap.objs.size (.tup [.int (i : Nat), x])) h'' s.heap.objs.size (.tup [.int (i : Nat), x]) :=
      ⟨by show 2 ≤ sizeLine; decide, [.int i tk, x'], .cons ⟨_, rfl⟩ (.cons ru .nil), ⟨_, hT2, rfl, _, rfl⟩⟩
    have I1 : Inv X pins σ (upd H s.heap.objs.size (.tup [.int (i : Nat), x])) { s with heap := h'', toks := tk + 1 } :=
      I.turnedNew (ch := [e, it]) (fun b ob hb q => (sb.2 b (fun z => hb (by simp [z]))).trans (hk b ob (fun z => hb (by simp [z])) (fun z => hb (by simp [z])) q)) hf (Nat.le_refl _) new
    refine ⟨.ref s.heap.objs.size, _, I1, rfl, ⟨_, x, rfl, I.hok.fresh (Nat.le_refl _), rfl, fun ys hy => by rw [seqB_inj I hy hq]; exact hx⟩, ⟨⟨x', ?_⟩, hit'.1.at fun o q => (sb.2 it (Ne.symm hne)).trans q, hne, hai, hae⟩, fun b hb => ?_⟩
    · have e1 : ((i + 1 : Nat) : Int) = (i : Int) + 1 := by omega
      rw [e1]; exact he'
    · have hb' : b < s.heap.objs.size := by
        have e' : b = e ∨ b = it := by simpa using hb
        rcases e' with z | z
        · rw [z]; exact hel
        · rw [z]; exact hil
      rw [upd_ne (Nat.ne_of_lt hb')]
      exact (hf b hb).1
  done := by
    intro X hP hw hK hc i pins s σ H E I hf st hg
    subst hP hw hK
    obtain ⟨⟨old, he⟩, hit, hne, hai, hae⟩ := st
    obtain ⟨xs, hq, hx⟩ := hg
    obtain ⟨its, rv, p, hz⟩ := seqB I hq
    obtain ⟨f0, f1, f2, f3, f4, f5⟩ := hf it (by simp)
    have hl := rv.length
    have hi : i = its.toArray.size := by simp; omega
    subst hi
    exact wpAny_pyNext_enum_endD (drawsB k (by exact I.ok.hd hc) it a hai its.toArray) he ⟨hit, p⟩ fun h' eb => ⟨rfl, I.turned (t' := s.toks) (fun b o hb q => eb b o hb q) f0 f1 f3 f4 f5⟩
  self := fun A i s Q E st h => let ⟨⟨_, he⟩, _⟩ := st; wpAny_pyIter_enum he h
set_option maxHeartbeats 1000000 in
theorem meets_enumerate_newB0 {v : Value} {o : Obj} {H : Heap → Prop} (B : Begins v o H) :
    Meets (Builtin.«enumerate.__new__» ⟨[.type "enumerate", v], []⟩) (fun _ R s => H s.heap ∧
      R (.ok (.ret (.ref (s.heap.push o).objs.size))) { s with heap := (s.heap.push o).push { cls := .type "enumerate", data := .fields #[.none, .bool false, .ref s.heap.objs.size, rawInt 0, .none, .none] } }) :=
  .of_wp fun prog w A R s h => by
    obtain ⟨hp, g, d, tk, os⟩ := s; obtain ⟨h1, h⟩ := h
    have hsub := sub_enumerate
    have q1 : ∀ {A' : Around} {E : Value → Shared → Prop} {Q : Value → Shared → Prop}, Q (.ref hp.objs.size) ⟨hp.push o, g, d, tk, os⟩ → wpAny (model prog w) A' (pyIter v) Q E ⟨hp, g, d, tk, os⟩ :=
      fun q => B.iter prog w _ _ ⟨hp, g, d, tk, os⟩ _ h1 q
    wp_walk using q1
    refine wpAny_stack_any fun st => wpAny_pure ?_
    split
    · rename_i c _ _ _ _ _
      cases (c == Value.type "enumerate")
      · wp_walk using q1
        exact ⟨_, rfl, h⟩
      · wp_walk using q1
        exact ⟨_, rfl, h⟩
    · wp_walk using q1
      exact ⟨_, rfl, h⟩
theorem enum_begins0 {prog : Program} {w : World} {A : Around} {E : Value → Shared → Prop} {s : Shared} {v : Value} {o : Obj} {H : Heap → Prop} {Q : Value → Shared → Prop} (B : Begins v o H) (h1 : H s.heap)
    (h : ∀ h', IsEnum h' (s.heap.objs.size + 1) s.heap.objs.size 0 .none → h'.get? s.heap.objs.size = some o → h'.objs.size = s.heap.objs.size + 2 →
      (∀ b o, s.heap.get? b = some o → h'.get? b = some o) → Q (.ref (s.heap.objs.size + 1)) { s with heap := h' }) :
    wpAny (model prog w) A (call (.type "enumerate") [v]) Q E s := by
  refine callType_new F.called_enumerate (by decide) (F.typeCall_enumerate_1 _) (F.newCall_enumerate_1 _) (fun obj => F.args_object_init_2 obj _) F.entry_enumerate_new
    (meets_enumerate_newB0 B) ⟨h1, ?_⟩
  have hz : (s.heap.push o).objs.size = s.heap.objs.size + 1 := Heap.size_push ..
  show _ ∧ _
  rw [hz]
  have he : IsEnum ((s.heap.push o).push { cls := .type "enumerate", data := .fields #[.none, .bool false, .ref s.heap.objs.size, rawInt 0, .none, .none] }) (s.heap.objs.size + 1) s.heap.objs.size 0 .none := by
    have := Heap.get?_push_size (s.heap.push o) (o := { cls := .type "enumerate", data := .fields #[.none, .bool false, .ref s.heap.objs.size, rawInt 0, .none, .none] }) rfl
    rw [hz] at this; exact this
  refine ⟨⟨_, he, rfl⟩, h _ he (Heap.get?_push_of_some _ (Heap.get?_push_size _ B.free)) (by rw [Heap.size_push, hz]) fun b o x => Heap.get?_push_of_some _ (Heap.get?_push_of_some _ x)⟩
def iEnumB (K : PySem.W.Frag) (ta : TA) : TI := fun σ H R => ta σ H fun vs H1 => ∃ k a xs, vs = [.ref a] ∧ SqB k K H1 a xs ∧ R (IteB k K a) H1
theorem pi_enumB {X : Cx} {e : Expr} {ta : TA} {p pos tpos : Pos} {elts : List Expr} {kk : Nat} (hg : Gl X "enumerate") (hm : X.mg "enumerate" = none) (ha : PA X [e] ta) (hs : starEach [e] X.env = [(false, eval e X.env)] := by rfl) :
    PI X (.Tuple elts kk tpos) (.Call (.Name "enumerate" p) [e] [] pos) (iEnumB X.K ta) := by
  refine ⟨fun pins s σ H R I h => ?_⟩
  refine Call_ (ld_blt I hg hm boot_enumerate (PyProof.Rows.callWith_type1 (thn (ha.run pos pins s σ H _ I h) fun us s1 ⟨vs, H1, I1, r1, q1⟩ => ?_) hs rfl))
  obtain ⟨k, a, xs, ex, hq, q⟩ := q1
  subst ex
  cases r1 with
  | cons r rr =>
    cases rr
    cases r
    obtain ⟨its, rv, p', hz⟩ := seqB I1 hq
    refine enum_begins0 (beginsB k a its.toArray) p' fun h' he hit hsz hk => wpAny_pyIter_enum he ?_
    have I2 : Inv X pins σ H1 { s1 with heap := h' } := I1.kept (t' := s1.toks) hk
    refine ⟨s1.heap.objs.size + 1, [s1.heap.objs.size + 1, s1.heap.objs.size], _, _, H1, rfl, I2, turn_enumB k a (s1.heap.objs.size + 1) s1.heap.objs.size, ⟨⟨.none, he⟩, itB_new k hit, Nat.succ_ne_self _, Nat.ne_of_lt hz, Nat.ne_of_lt (Nat.lt_succ_of_lt hz)⟩, fun b hb => ?_, q⟩
    have e' : b = s1.heap.objs.size + 1 ∨ b = s1.heap.objs.size := by simpa using hb
    have hle : s1.heap.objs.size ≤ b := by
      rcases e' with z | z
      · rw [z]; exact Nat.le_add_right _ _
      · rw [z]; exact Nat.le_refl _
    exact I1.fpOk hle (I1.hok.fresh hle)
def ItzB (k1 k2 : Bool) (K : PySem.W.Frag) (a b : Addr) : It :=
  ⟨fun i H => ∃ (xs ys : List V) (x y : V), SqB k1 K H a xs ∧ SqB k2 K H b ys ∧ xs[i]? = some x ∧ ys[i]? = some y,
    fun i H v H' => ∃ T x y, v = .ref T ∧ H T = none ∧ H' = upd H T (.tup [x, y]) ∧ (∀ xs, SqB k1 K H a xs → xs[i]? = some x) ∧ ∀ ys, SqB k2 K H b ys → ys[i]? = some y,
    fun i H => ∃ xs ys : List V, SqB k1 K H a xs ∧ SqB k2 K H b ys ∧ i ≤ xs.length ∧ i ≤ ys.length ∧ (xs.length = i ∨ ys.length = i)⟩
theorem turn_zipB {P : Program} {w : World} {K : PySem.W.Frag} {elts : List Expr} {kk : Nat} {tpos : Pos} (k1 k2 : Bool) {a b z TI TO i1 i2 : Addr} (D : ZipApart z TI TO i1 i2 a b) (D2 : ZipApart z TI TO i2 i1 b a) :
    Turn P w K (.Tuple elts kk tpos) (ItzB k1 k2 K a b) [z, TI, TO, i1, i2] z (fun i h => IsZip h z TI TO .none ∧ IsTupOf2 h TI (.ref i1) (.ref i2) ∧ (∃ x y, IsTupOf2 h TO x y) ∧ ItB k1 h i1 a i ∧ ItB k2 h i2 b i) where
  mem := by simp
  obj := fun i h st c hc => by
    obtain ⟨hz, hTI, ⟨x, y, hTO⟩, h1, h2⟩ := st
    have e' : c = z ∨ c = TI ∨ c = TO ∨ c = i1 ∨ c = i2 := by simpa using hc
    rcases e' with q | q | q | q | q
    · rw [q]; exact ⟨_, hz, fun v q => nomatch q⟩
    · rw [q]; exact ⟨_, hTI, fun v q => nomatch q⟩
    · rw [q]; exact ⟨_, hTO, fun v q => nomatch q⟩
    · rw [q]; exact h1.obj
    · rw [q]; exact h2.obj
  keep := fun i h h' st k => by
    obtain ⟨hz, hTI, ⟨x, y, hTO⟩, h1, h2⟩ := st
    exact ⟨k z (by simp) _ hz, k TI (by simp) _ hTI, ⟨x, y, k TO (by simp) _ hTO⟩, h1.at fun o q => k i1 (by simp) o q, h2.at fun o q => k i2 (by simp) o q⟩
  item := by
    intro X hP hw hK hc i pins s σ H E I hf st hg
    subst hP hw hK
    obtain ⟨hz, hTI, ⟨x0, y0, hTO⟩, h1, h2⟩ := st
    obtain ⟨xs, ys, x, y, hqx, hqy, hx, hy⟩ := hg
    obtain ⟨its, rv, p, _⟩ := seqB I hqx
    obtain ⟨its2, rv2, p2, _⟩ := seqB I hqy
    obtain ⟨u, hu, ru⟩ := rv.get hx
    obtain ⟨u2, hu2, ru2⟩ := rv2.get hy
    have hzl : z < s.heap.objs.size := Heap.lt_size hz
    have S : ZipSep2 z TI TO i1 i2 [i1, a] [i2, b] := ⟨D.TIz, D.TOz, D.TITO, D.TIi1, by simp, by simp [Ne.symm D.i1z, Ne.symm D.l1z], by simp [D.TOi1, Ne.symm D.l1TO], D.TIi2, by simp, by simp [Ne.symm D.i2z, Ne.symm D2.l1z], by simp [D.TOi2, Ne.symm D2.l1TO], by simp [D.i12, Ne.symm D2.l1i2], by simp [Ne.symm D.i12, Ne.symm D.l1i2]⟩
    refine wpAny_pyNext_zipD2_item S (drawsB k1 (by exact I.ok.hd hc) i1 a D.l1i1 its.toArray) (drawsB k2 (by exact I.ok.hd hc) i2 b D2.l1i1 its2.toArray) hz hTI hTO ⟨h1, p⟩ ⟨h2, p2⟩
      (by obtain ⟨q, _⟩ := List.getElem?_eq_some_iff.mp hu; simpa using q) (by obtain ⟨q, _⟩ := List.getElem?_eq_some_iff.mp hu2; simpa using q) fun x' y' h' tk hx' hy' z' TO' h1' h2' hT hsz hk => ?_
    have hxu : x' = u := by
      have : its[i]? = some x' := by simpa using hx'
      rw [hu] at this; cases this; rfl
    have hyu : y' = u2 := by
      have : its2[i]? = some y' := by simpa using hy'
      rw [hu2] at this; cases this; rfl
    subst hxu hyu
    refine ⟨_, rfl, wpAny_letOwnedTupleGo_zip (s := { s with heap := h', toks := tk }) z' fun h'' z'' sb => ?_⟩
    have hT2 : h''.get? s.heap.objs.size = some { cls := .type "tuple", data := .seq #[x', y'] } := (sb.2 _ (Nat.ne_of_gt hzl)).trans hT
    have new : ObjOk X.prog X.w (upd H s.heap.objs.size (.tup [x, y])) h'' s.heap.objs.size (.tup [x, y]) :=
      ⟨by show 2 ≤ sizeLine; decide, [x', y'], .cons ru (.cons ru2 .nil), ⟨_, hT2, rfl, _, rfl⟩⟩
    have I1 : Inv X pins σ (upd H s.heap.objs.size (.tup [x, y])) { s with heap := h'', toks := tk } :=
      I.turnedNew (ch := [z, TI, TO, i1, i2]) (fun c o hb q => (sb.2 c (fun q' => hb (by simp [q']))).trans (hk c o (fun q' => hb (by simp [q'])) (fun q' => hb (by simp [q'])) (fun q' => hb (by simp [q'])) (fun q' => hb (by simp [q'])) q)) hf (Nat.le_refl _) new
    refine ⟨.ref s.heap.objs.size, _, I1, rfl, ⟨_, x, y, rfl, I.hok.fresh (Nat.le_refl _), rfl, fun l hl => by rw [seqB_inj I hl hqx]; exact hx, fun l hl => by rw [seqB_inj I hl hqy]; exact hy⟩, ⟨z'', ?_, ⟨x', y', ?_⟩, ?_, ?_⟩, fun c hcm => ?_⟩
    · exact (sb.2 _ D.TIz).trans (hk _ _ D.TIz D.TITO D.TIi1 D.TIi2 hTI)
    · exact (sb.2 _ D.TOz).trans TO'
    · exact h1'.1.at fun o q => (sb.2 _ D.i1z).trans q
    · exact h2'.1.at fun o q => (sb.2 _ D.i2z).trans q
    · have hlt : c < s.heap.objs.size := by
        have e' : c = z ∨ c = TI ∨ c = TO ∨ c = i1 ∨ c = i2 := by simpa using hcm
        rcases e' with q | q | q | q | q
        · rw [q]; exact hzl
        · rw [q]; exact Heap.lt_size hTI
        · rw [q]; exact Heap.lt_size hTO
        · rw [q]; obtain ⟨_, e1, _⟩ := h1.obj; exact Heap.lt_size e1
        · rw [q]; obtain ⟨_, e2, _⟩ := h2.obj; exact Heap.lt_size e2
      rw [upd_ne (Nat.ne_of_lt hlt)]
      exact (hf c hcm).1
  done := by
    intro X hP hw hK hc i pins s σ H E I hf st hg
    subst hP hw hK
    obtain ⟨hz, hTI, ⟨x0, y0, hTO⟩, h1, h2⟩ := st
    obtain ⟨xs, ys, hqx, hqy, hl1, hl2, hend⟩ := hg
    obtain ⟨its, rv, p, _⟩ := seqB I hqx
    obtain ⟨its2, rv2, p2, _⟩ := seqB I hqy
    have l1 := rv.length
    have l2 := rv2.length
    have S : ZipSep2 z TI TO i1 i2 [i1, a] [i2, b] := ⟨D.TIz, D.TOz, D.TITO, D.TIi1, by simp, by simp [Ne.symm D.i1z, Ne.symm D.l1z], by simp [D.TOi1, Ne.symm D.l1TO], D.TIi2, by simp, by simp [Ne.symm D.i2z, Ne.symm D2.l1z], by simp [D.TOi2, Ne.symm D2.l1TO], by simp [D.i12, Ne.symm D2.l1i2], by simp [Ne.symm D.i12, Ne.symm D.l1i2]⟩
    refine wpAny_pyNext_zipD2_end S (drawsB k1 (by exact I.ok.hd hc) i1 a D.l1i1 its.toArray) (drawsB k2 (by exact I.ok.hd hc) i2 b D2.l1i1 its2.toArray) hz hTI hTO ⟨h1, p⟩ ⟨h2, p2⟩
      (by simp; omega) (by simp; omega) (by rcases hend with q | q <;> simp <;> omega) fun h' tk hk => ⟨rfl, I.turnedL (t' := tk) (ch := [z, TI, TO, i1, i2]) (fun c o hb q =>
      hk c o (fun q' => hb (by simp [q'])) (fun q' => hb (by simp [q'])) (fun q' => hb (by simp [q'])) (fun q' => hb (by simp [q'])) q) hf⟩
  self := fun A i s Q E st h => wpAny_pyIter_zip st.1 h
def iZipB (K : PySem.W.Frag) (ta : TA) : TI := fun σ H R => ta σ H fun vs H1 => ∃ k1 k2 a b xs ys, vs = [.ref a, .ref b] ∧ SqB k1 K H1 a xs ∧ SqB k2 K H1 b ys ∧ R (ItzB k1 k2 K a b) H1
theorem pi_zipB {X : Cx} {e e2 : Expr} {ta : TA} {p pos tpos : Pos} {elts : List Expr} {kk : Nat} (hg : Gl X "zip") (hm : X.mg "zip" = none) (ha : PA X [e, e2] ta)
    (hs : starEach [e, e2] X.env = (false, eval e X.env) :: starEach [e2] X.env := by rfl) (hpl : (backTo pos (starEach [e2] X.env)).any (·.1) = false := by rfl) :
    PI X (.Tuple elts kk tpos) (.Call (.Name "zip" p) [e, e2] [] pos) (iZipB X.K ta) := by
  refine ⟨fun pins s σ H R I h => ?_⟩
  refine Call_ (ld_blt I hg hm PyProof.Rows.boot_zip (PyProof.Rows.callWith_type1 (thn (ha.run pos pins s σ H _ I h) fun us s1 ⟨vs, H1, I1, r1, q1⟩ => ?_) hs hpl))
  obtain ⟨k1, k2, a, b, xs, ys, ex, hqx, hqy, q⟩ := q1
  subst ex
  cases r1 with
  | cons r rr =>
    cases rr with
    | cons r' rr =>
      cases rr
      cases r
      cases r'
      have fresh5 : ∀ c, c ∈ [s1.heap.objs.size + 4, s1.heap.objs.size + 2, s1.heap.objs.size + 3, s1.heap.objs.size, s1.heap.objs.size + 1] → FpOk X pins H1 c := fun c hcm => by
        have hle : s1.heap.objs.size ≤ c := by
          simp only [List.mem_cons, List.not_mem_nil, or_false] at hcm
          omega
        exact I1.fpOk hle (I1.hok.fresh hle)
      obtain ⟨its, rv, p1, l1⟩ := seqB I1 hqx
      obtain ⟨its2, rv2, p2, l2⟩ := seqB I1 hqy
      refine zip_begins2 (beginsB k1 a its.toArray) (beginsB k2 b its2.toArray) p1 p2 fun h' hz hTI hTO h1 h2 hsz hk => wpAny_pyIter_zip hz ?_
      have I2 : Inv X pins σ H1 { s1 with heap := h' } := I1.kept (t' := s1.toks) hk
      have D : ZipApart (s1.heap.objs.size + 4) (s1.heap.objs.size + 2) (s1.heap.objs.size + 3) s1.heap.objs.size (s1.heap.objs.size + 1) a b := PySem.W.ktu_apart s1.heap.objs.size a b l1 l2
      have D2 : ZipApart (s1.heap.objs.size + 4) (s1.heap.objs.size + 2) (s1.heap.objs.size + 3) (s1.heap.objs.size + 1) s1.heap.objs.size b a := ⟨D.TIz, D.TOz, D.i2z, D.i1z, D.TITO, D.TIi2, D.TIi1, D.TOi2, D.TOi1, D.i12.symm, D.l2z, D.l2TO, D.l2i2, D.l2i1, D.l1z, D.l1TO, D.l1i2, D.l1i1⟩
      exact ⟨s1.heap.objs.size + 4, [s1.heap.objs.size + 4, s1.heap.objs.size + 2, s1.heap.objs.size + 3, s1.heap.objs.size, s1.heap.objs.size + 1], _, _, H1, rfl, I2, turn_zipB k1 k2 D D2, ⟨hz, hTI, ⟨_, _, hTO⟩, itB_new k1 h1, itB_new k2 h2⟩, fresh5, q⟩
end LyI
set_option Elab.async false
set_option linter.all false
set_option maxRecDepth 100000
namespace LyI
open PySem PySem.Spec L2
open PyProof.Rows hiding St
section
variable {prog : Program} {w : World} {A : Around} {E : Value → Shared → Prop} {s : Shared} {z TI TO i1 i2 : Addr} {fp1 fp2 : List Addr} {n1 n2 i : Nat} {P1 P2 : Nat → Value → Prop} {St1 St2 : Nat → Heap → Prop}
end
def ItezB (k1 k2 : Bool) (K : PySem.W.Frag) (a b : Addr) : It :=
  ⟨fun i H => ∃ (xs ys : List V) (x y : V), SqB k1 K H a xs ∧ SqB k2 K H b ys ∧ xs[i]? = some x ∧ ys[i]? = some y,
    fun i H v H' => ∃ T T' x y, v = .ref T' ∧ H T = none ∧ T' ≠ T ∧ H T' = none ∧ H' = upd (upd H T (.tup [x, y])) T' (.tup [.int (i : Nat), .ref T]) ∧ (∀ xs, SqB k1 K H a xs → xs[i]? = some x) ∧ ∀ ys, SqB k2 K H b ys → ys[i]? = some y,
    fun i H => ∃ xs ys : List V, SqB k1 K H a xs ∧ SqB k2 K H b ys ∧ i ≤ xs.length ∧ i ≤ ys.length ∧ (xs.length = i ∨ ys.length = i)⟩
theorem FpOk.upd {X : Cx} {pins : List (Addr × Obj)} {H : Hp} {b T : Addr} {o : HO} (h : FpOk X pins H b) (hb : b ≠ T) : FpOk X pins (upd H T o) b := ⟨by rw [upd_ne hb]; exact h.1, h.2⟩
end LyI
set_option Elab.async false
set_option linter.all false
set_option maxRecDepth 100000
namespace Ly
open PySem PySem.Spec L2
open PyProof.Rows hiding St
inductive Sq where
  | l (i : Nat) | t (ds : List D)
inductive J where
  | tup (ds : List D) | lst (i : Nat) | rng (lo : Int) (n : Nat) | str (x : Str) | enum (s : Sq) | zip (s t : Sq) | cnt (lo c : Int) (n : Nat) | rev (s : Sq) (n : Nat) | ez (s t : Sq)
def seqAt (S : Hs) (i : Nat) : Option (List D) := seqD (.ref i) S
def Sq.at (S : Hs) : Sq → Option (List D)
  | .l i => seqAt S i
  | .t ds => some ds
def sqOf (x : D) (S : Hs) : Option Sq := match x with
  | .ref i => (seqAt S i).map fun _ => .l i
  | .tup ds => some (.t ds)
  | .wt ds => some (.t ds)
  | _ => none
def SqR (K : PySem.W.Frag) (p : Nat → Addr) (n : Nat) (H : Hp) : Sq → Bool → Addr → Prop
  | .l i, k, a => i < n ∧ k = true ∧ a = p i
  | .t ds, k, a => k = false ∧ ∃ vs, (H a = some (.tup vs) ∨ Wt K a vs) ∧ Reps K p n H ds vs
def itGo (j : J) (k : Nat) (S : Hs) : Option (Option D) := match j with
  | .tup ds => some ds[k]?
  | .lst i => (seqAt S i).map (·[k]?)
  | .rng lo n => some (if k < n then some (.int (lo + k)) else none)
  | .str x => some (x.cps[k]?.map fun c => .str ⟨#[c]⟩)
  | .cnt lo c n => some (if k < n then some (.int (lo + k * c)) else none)
  | .enum s => (s.at S).bind fun ds => if k ≤ ds.length then some (ds[k]?.map fun d => .tup [.int k, d]) else none
  | .zip a b => match a.at S, b.at S with
    | some xs, some ys => if k ≤ xs.length ∧ k ≤ ys.length then some (match xs[k]?, ys[k]? with
      | some x, some y => some (.tup [x, y])
      | _, _ => none) else none
    | _, _ => none
  | .rev s n => (s.at S).bind fun ds => if ds.length = n then some (if k < n then ds[n - 1 - k]? else none) else none
  | .ez a b => match a.at S, b.at S with
    | some xs, some ys => if k ≤ xs.length ∧ k ≤ ys.length then some (match xs[k]?, ys[k]? with
      | some x, some y => some (.tup [.int k, .tup [x, y]])
      | _, _ => none) else none
    | _, _ => none
def JRel (K : PySem.W.Frag) (p : Nat → Addr) (n : Nat) (H : Hp) : J → It → Prop
  | .tup ds, I => ∃ a vs, Rep K p n H (.tup ds) (.ref a) ∧ (H a = some (.tup vs) ∧ Reps K p n H ds vs) ∧ I = Itt K a ∨ Rep K p n H (.wt ds) (.ref a) ∧ (Wt K a vs ∧ Reps K p n H ds vs) ∧ I = Itt K a
  | .lst i, I => i < n ∧ I = Itl K (p i)
  | .rng lo m, I => I = Itr lo m
  | .str x, I => I = Its x
  | .cnt lo c m, I => I = Itc lo c m
  | .enum s, I => ∃ k a, SqR K p n H s k a ∧ I = LyI.IteB k K a
  | .zip s t, I => ∃ k1 a k2 b, SqR K p n H s k1 a ∧ SqR K p n H t k2 b ∧ I = LyI.ItzB k1 k2 K a b
  | .rev s m, I => ∃ b a, SqR K p n H s b a ∧ I = (if b = true then Itv K a m else RT.ItvT K a m)
  | .ez s t, I => ∃ k1 a k2 b, SqR K p n H s k1 a ∧ SqR K p n H t k2 b ∧ I = LyI.ItezB k1 k2 K a b
section
variable {K : PySem.W.Frag} {E : St → XK} {p q : Nat → Addr} {n m : Nat} {H H' : Hp} {S : Hs} {j : J} {I : It} {k : Nat}
theorem SqR.ext {s : Sq} {k : Bool} {a : Addr} (h : SqR K p n H s k a) (x : Ext n m p q H H') : SqR K q m H' s k a := by
  cases s with
  | l i => obtain ⟨h1, h2, h3⟩ := h; exact ⟨Nat.lt_of_lt_of_le h1 x.le, h2, by rw [x.ag i h1]; exact h3⟩
  | t ds =>
    obtain ⟨h1, vs, h2, h3⟩ := h
    refine ⟨h1, vs, ?_, h3.ext x _ _⟩
    rcases h2 with h2 | h2
    · exact .inl (x.tp _ _ h2)
    · exact .inr h2
theorem JRel.ext (h : JRel K p n H j I) (x : Ext n m p q H H') : JRel K q m H' j I := by
  cases j with
  | tup ds =>
    obtain ⟨a, vs, h⟩ := h
    rcases h with ⟨h1, ⟨h2, h3⟩, h4⟩ | ⟨h1, ⟨h2, h3⟩, h4⟩
    · exact ⟨a, vs, .inl ⟨h1.ext x _ _, ⟨x.tp _ _ h2, h3.ext x _ _⟩, h4⟩⟩
    · exact ⟨a, vs, .inr ⟨h1.ext x _ _, ⟨h2, h3.ext x _ _⟩, h4⟩⟩
  | lst i => obtain ⟨h1, h2⟩ := h; exact ⟨Nat.lt_of_lt_of_le h1 x.le, by rw [x.ag i h1]; exact h2⟩
  | rng lo m => exact h
  | str z => exact h
  | cnt lo c m => exact h
  | enum s => obtain ⟨k, a, h1, h2⟩ := h; exact ⟨k, a, h1.ext x, h2⟩
  | zip s t => obtain ⟨k1, a, k2, b, h1, h2, h3⟩ := h; exact ⟨k1, a, k2, b, h1.ext x, h2.ext x, h3⟩
  | rev s n => obtain ⟨b, a, h1, h2⟩ := h; exact ⟨b, a, h1.ext x, h2⟩
  | ez s t => obtain ⟨k1, a, k2, b, h1, h2, h3⟩ := h; exact ⟨k1, a, k2, b, h1.ext x, h2.ext x, h3⟩
theorem seqAt_V {i : Nat} {ds : List D} (R : Real K p S H) (h : seqAt S i = some ds) : ∃ vs, SqL K H (p i) vs ∧ Reps K p S.length H ds vs := by
  have hi : i < S.length := by
    unfold seqAt seqD at h
    simp only at h
    split at h
    · rename_i q; exact Real.lt q
    · rename_i q; exact Real.lt q
    · cases h
  obtain ⟨a, vs, e, h1, r⟩ := seq_V R (.ref hi) h
  cases e
  exact ⟨vs, h1, r⟩
theorem SqR.seq {s : Sq} {b : Bool} {a : Addr} {ds : List D} (R : Real K p S H) (h : SqR K p S.length H s b a) (e : s.at S = some ds) : ∃ vs, LyI.SqB b K H a vs ∧ Reps K p S.length H ds vs := by
  cases s with
  | l i =>
    obtain ⟨h1, rfl, rfl⟩ := h
    obtain ⟨vs, hs, r⟩ := seqAt_V R e
    exact ⟨vs, hs, r⟩
  | t es =>
    obtain ⟨rfl, vs, h2, h3⟩ := h
    cases e
    refine ⟨vs, ?_, h3⟩
    rcases h2 with h2 | h2
    · exact SqT.of h2
    · exact h2.sq
theorem sqOf_R {x : D} {v : V} {s : Sq} (R : Real K p S H) (r : Rep K p S.length H x v) (h : sqOf x S = some s) : ∃ b a ds, v = .ref a ∧ SqR K p S.length H s b a ∧ s.at S = some ds := by
  cases x with
  | ref i =>
    simp only [sqOf, Option.map_eq_some_iff] at h
    obtain ⟨ds, e, rfl⟩ := h
    cases r with
    | ref hi => exact ⟨true, _, ds, rfl, ⟨hi, rfl, rfl⟩, e⟩
  | tup ds =>
    cases h
    cases r with
    | tup t r => exact ⟨false, _, ds, rfl, ⟨rfl, _, .inl t, r⟩, rfl⟩
  | wt ds =>
    cases h
    cases r with
    | wt t r => exact ⟨false, _, ds, rfl, ⟨rfl, _, .inr t, r⟩, rfl⟩
  | _ => cases h
theorem Reps.none {ds : List D} {vs : List V} (r : Reps K p n H ds vs) (e : ds[k]? = none) : vs.length ≤ k := by
  rw [← r.len]; exact List.getElem?_eq_none_iff.mp e
theorem it_stop (R : Real K p S H) (h : JRel K p S.length H j I) (e : itGo j k S = some none) : I.stop k H := by
  cases j with
  | tup ds =>
    obtain ⟨a, vs, h⟩ := h
    simp only [itGo, Option.some.injEq] at e
    rcases h with ⟨h1, ⟨h2, h3⟩, rfl⟩ | ⟨h1, ⟨h2, h3⟩, rfl⟩
    · exact ⟨vs, SqT.of h2, h3.none e⟩
    · exact ⟨vs, h2.sq, h3.none e⟩
  | lst i =>
    obtain ⟨h1, rfl⟩ := h
    simp only [itGo, Option.map_eq_some_iff] at e
    obtain ⟨ds, e, e2⟩ := e
    obtain ⟨vs, hs, r⟩ := seqAt_V R e
    exact ⟨vs, hs, r.none e2⟩
  | rng lo m =>
    cases h
    simp only [itGo, Option.some.injEq] at e
    split at e
    · cases e
    · rename_i hk; exact Nat.le_of_not_lt hk
  | str x =>
    cases h
    simp only [itGo, Option.some.injEq, Option.map_eq_none_iff] at e
    exact Array.getElem?_eq_none_iff.mp e
  | cnt lo c m =>
    cases h
    simp only [itGo, Option.some.injEq] at e
    split at e
    · cases e
    · rename_i hk; exact Nat.le_of_not_lt hk
  | enum s =>
    obtain ⟨b, a, h1, rfl⟩ := h
    simp only [itGo, Option.bind_eq_some_iff] at e
    obtain ⟨ds, e, e2⟩ := e
    obtain ⟨vs, hs, r⟩ := h1.seq R e
    split at e2
    · rename_i hk
      simp only [Option.some.injEq, Option.map_eq_none_iff, List.getElem?_eq_none_iff] at e2
      exact ⟨vs, hs, by rw [← r.len]; omega⟩
    · cases e2
  | zip s t =>
    obtain ⟨b1, a, b2, b, h1, h2, rfl⟩ := h
    simp only [itGo] at e
    split at e
    · rename_i xs ys e1 e2
      obtain ⟨vs, hs, r⟩ := h1.seq R e1
      obtain ⟨us, hs', r'⟩ := h2.seq R e2
      split at e
      · rename_i hk
        simp only [Option.some.injEq] at e
        have l1 := r.len
        have l2 := r'.len
        refine ⟨vs, us, hs, hs', by omega, by omega, ?_⟩
        split at e
        · cases e
        · rename_i hno
          cases q1 : xs[k]? with
          | none => have := List.getElem?_eq_none_iff.mp q1; exact .inl (by omega)
          | some x =>
            cases q2 : ys[k]? with
            | none => have := List.getElem?_eq_none_iff.mp q2; exact .inr (by omega)
            | some y => exact (hno x y q1 q2).elim
      · cases e
    · cases e
  | rev s n =>
    obtain ⟨b, a, h1, rfl⟩ := h
    simp only [itGo, Option.bind_eq_some_iff] at e
    obtain ⟨ds, e, e2⟩ := e
    have hn : n ≤ k := by
      split at e2
      · rename_i hl
        simp only [Option.some.injEq] at e2
        split at e2
        · rename_i hk
          have := List.getElem?_eq_none_iff.mp e2
          omega
        · omega
      · cases e2
    cases b
    · exact hn
    · exact hn
  | ez s t =>
    obtain ⟨b1, a, b2, b, h1, h2, rfl⟩ := h
    simp only [itGo] at e
    split at e
    · rename_i xs ys e1 e2
      obtain ⟨vs, hs, r⟩ := h1.seq R e1
      obtain ⟨us, hs', r'⟩ := h2.seq R e2
      split at e
      · rename_i hk
        simp only [Option.some.injEq] at e
        have l1 := r.len
        have l2 := r'.len
        refine ⟨vs, us, hs, hs', by omega, by omega, ?_⟩
        split at e
        · cases e
        · rename_i hno
          cases q1 : xs[k]? with
          | none => have := List.getElem?_eq_none_iff.mp q1; exact .inl (by omega)
          | some x =>
            cases q2 : ys[k]? with
            | none => have := List.getElem?_eq_none_iff.mp q2; exact .inr (by omega)
            | some y => exact (hno x y q1 q2).elim
      · cases e
    · cases e
theorem it_go (R : Real K p S H) (h : JRel K p S.length H j I) {d : D} (e : itGo j k S = some (some d)) :
    I.go k H ∧ ∀ x H', I.yld k H x H' → Ext S.length S.length p p H H' ∧ Real K p S H' ∧ Rep K p S.length H' d x := by
  cases j with
  | tup ds =>
    obtain ⟨a, vs, h⟩ := h
    simp only [itGo, Option.some.injEq] at e
    rcases h with ⟨h1, ⟨h2, h3⟩, rfl⟩ | ⟨h1, ⟨h2, h3⟩, rfl⟩
    · obtain ⟨v, e2, r⟩ := h3.get e
      refine ⟨⟨vs, v, SqT.of h2, e2⟩, fun x H' y => ?_⟩
      obtain ⟨rfl, y⟩ := y
      have := (y vs (SqT.of h2)).symm.trans e2
      cases this
      exact ⟨Ext.refl, R, r⟩
    · obtain ⟨v, e2, r⟩ := h3.get e
      refine ⟨⟨vs, v, h2.sq, e2⟩, fun x H' y => ?_⟩
      obtain ⟨rfl, y⟩ := y
      have := (y vs h2.sq).symm.trans e2
      cases this
      exact ⟨Ext.refl, R, r⟩
  | lst i =>
    obtain ⟨h1, rfl⟩ := h
    simp only [itGo, Option.map_eq_some_iff] at e
    obtain ⟨ds, e, e2⟩ := e
    obtain ⟨vs, hs, r⟩ := seqAt_V R e
    obtain ⟨v, e3, r3⟩ := r.get e2
    refine ⟨⟨vs, v, hs, e3⟩, fun x H' y => ?_⟩
    obtain ⟨rfl, y⟩ := y
    have := (y vs hs).symm.trans e3
    cases this
    exact ⟨Ext.refl, R, r3⟩
  | rng lo m =>
    cases h
    simp only [itGo, Option.some.injEq] at e
    split at e
    · rename_i hk
      cases e
      refine ⟨hk, fun x H' y => ?_⟩
      obtain ⟨rfl, rfl⟩ := y
      exact ⟨Ext.refl, R, .int _⟩
    · cases e
  | str z =>
    cases h
    simp only [itGo, Option.some.injEq, Option.map_eq_some_iff] at e
    obtain ⟨c, e, rfl⟩ := e
    refine ⟨(Array.getElem?_eq_some_iff.mp e).1, fun x H' y => ?_⟩
    obtain ⟨rfl, c', e', rfl⟩ := y
    rw [e] at e'; cases e'
    exact ⟨Ext.refl, R, .str _⟩
  | cnt lo c m =>
    cases h
    simp only [itGo, Option.some.injEq] at e
    split at e
    · rename_i hk
      cases e
      refine ⟨hk, fun x H' y => ?_⟩
      obtain ⟨rfl, rfl⟩ := y
      exact ⟨Ext.refl, R, .int _⟩
    · cases e
  | enum s =>
    obtain ⟨b, a, h1, rfl⟩ := h
    simp only [itGo, Option.bind_eq_some_iff] at e
    obtain ⟨ds, e, e2⟩ := e
    obtain ⟨vs, hs, r⟩ := h1.seq R e
    split at e2
    · rename_i hk
      simp only [Option.some.injEq, Option.map_eq_some_iff] at e2
      obtain ⟨c, e2, rfl⟩ := e2
      obtain ⟨v, e3, r3⟩ := r.get e2
      refine ⟨⟨vs, v, hs, e3⟩, fun x H' y => ?_⟩
      obtain ⟨T, z, rfl, hT, rfl, y⟩ := y
      have := (y vs hs).symm.trans e3
      cases this
      exact ⟨ext_junk hT, R.junk hT, .tup upd_same (.cons (.int _) (.cons (r3.ext (ext_junk hT) _ _) .nil))⟩
    · cases e2
  | zip s t =>
    obtain ⟨b1, a, b2, b, h1, h2, rfl⟩ := h
    simp only [itGo] at e
    split at e
    · rename_i xs ys e1 e2
      obtain ⟨vs, hs, r⟩ := h1.seq R e1
      obtain ⟨us, hs', r'⟩ := h2.seq R e2
      split at e
      · simp only [Option.some.injEq] at e
        split at e
        · rename_i x y q1 q2
          cases e
          obtain ⟨v, e3, r3⟩ := r.get q1
          obtain ⟨u, e4, r4⟩ := r'.get q2
          refine ⟨⟨vs, us, v, u, hs, hs', e3, e4⟩, fun z H' w => ?_⟩
          obtain ⟨T, z1, z2, rfl, hT, rfl, y1, y2⟩ := w
          have := (y1 vs hs).symm.trans e3
          cases this
          have := (y2 us hs').symm.trans e4
          cases this
          exact ⟨ext_junk hT, R.junk hT, .tup upd_same (.cons (r3.ext (ext_junk hT) _ _) (.cons (r4.ext (ext_junk hT) _ _) .nil))⟩
        · cases e
      · cases e
    · cases e
  | rev s n =>
    obtain ⟨b, a, h1, rfl⟩ := h
    simp only [itGo, Option.bind_eq_some_iff] at e
    obtain ⟨ds, e, e2⟩ := e
    obtain ⟨vs, hs, r⟩ := h1.seq R e
    split at e2
    · simp only [Option.some.injEq] at e2
      split at e2
      · rename_i hk
        obtain ⟨v, e3, r3⟩ := r.get e2
        cases b with
        | true =>
          refine ⟨⟨hk, vs, v, hs, e3⟩, fun x H' y => ?_⟩
          obtain ⟨rfl, y⟩ := y
          have := (y vs hs).symm.trans e3
          cases this
          exact ⟨Ext.refl, R, r3⟩
        | false =>
          refine ⟨⟨hk, vs, v, hs, e3⟩, fun x H' y => ?_⟩
          obtain ⟨rfl, y⟩ := y
          have := (y vs hs).symm.trans e3
          cases this
          exact ⟨Ext.refl, R, r3⟩
      · cases e2
    · cases e2
  | ez s t =>
    obtain ⟨b1, a, b2, b, h1, h2, rfl⟩ := h
    simp only [itGo] at e
    split at e
    · rename_i xs ys e1 e2
      obtain ⟨vs, hs, r⟩ := h1.seq R e1
      obtain ⟨us, hs', r'⟩ := h2.seq R e2
      split at e
      · simp only [Option.some.injEq] at e
        split at e
        · rename_i x y q1 q2
          cases e
          obtain ⟨v, e3, r3⟩ := r.get q1
          obtain ⟨u, e4, r4⟩ := r'.get q2
          refine ⟨⟨vs, us, v, u, hs, hs', e3, e4⟩, fun z H' w => ?_⟩
          obtain ⟨T, T', z1, z2, rfl, hT, hne, hT', rfl, y1, y2⟩ := w
          have := (y1 vs hs).symm.trans e3
          cases this
          have := (y2 us hs').symm.trans e4
          cases this
          have hn : upd H T (.tup [v, u]) T' = none := (upd_ne hne).trans hT'
          have x1 : Ext S.length S.length p p H (upd H T (.tup [v, u])) := ext_junk hT
          have x2 : Ext S.length S.length p p (upd H T (.tup [v, u])) (upd (upd H T (.tup [v, u])) T' (.tup [.int (k : Nat), .ref T])) := ext_junk hn
          have rp : Rep K p S.length (upd H T (.tup [v, u])) (.tup [x, y]) (.ref T) := .tup upd_same (.cons (r3.ext x1 _ _) (.cons (r4.ext x1 _ _) .nil))
          exact ⟨x1.trans x2, (R.junk hT).junk hn, .tup upd_same (.cons (.int _) (.cons (rp.ext x2 _ _) .nil))⟩
        · cases e
      · cases e
    · cases e
end
abbrev MI := Ls → Hs → R J
def TI' (K : PySem.W.Frag) (E : St → XK) (f : MI) : TI := fun s H Q => ∃ p l S, Real K p S H ∧ Sl K p S.length H l s ∧ Post K E S.length p H (f l S) (fun j S1 p1 H1 => ∀ I, JRel K p1 S1.length H1 j I → Q I H1)
structure IM (X : Cx) (E : St → XK) (tg e : Expr) (f : MI) : Prop where pi : PI X tg e (TI' X.K E f)
theorem _root_.L2.PI.weak {X : Cx} {tg e : Expr} {t t' : TI} (h : PI X tg e t) (w : ∀ s H Q, t' s H Q → t s H Q) : PI X tg e t' := ⟨fun pins s σ H Q I q => h.run pins s σ H Q I (w σ H Q q)⟩
theorem _root_.L2.PI.or {X : Cx} {tg e : Expr} {t t' : TI} (h : PI X tg e t) (h' : PI X tg e t') : PI X tg e (fun s H Q => t s H Q ∨ t' s H Q) := ⟨fun pins s σ H Q I q => q.elim (h.run pins s σ H Q I) (h'.run pins s σ H Q I)⟩
def oIt (x : D) (S : Hs) : R J := match x with
  | .tup ds => .ok (.tup ds) S
  | .wt ds => .ok (.tup ds) S
  | .str x => .ok (.str x) S
  | .ref i => match seqAt S i with
    | some _ => .ok (.lst i) S
    | none => .bad
  | _ => .bad
def mIt (f : M) : MI := fun l S => (f l S).bind oIt
def oRng1 (ds : List D) (S : Hs) : R J := match ds with
  | [.int n] => if -(2 ^ 62) ≤ n ∧ n < 2 ^ 62 then .ok (.rng 0 n.toNat) S else .bad
  | _ => .bad
def oRng2 (ds : List D) (S : Hs) : R J := match ds with
  | [.int a, .int b] => if -(2 ^ 62) ≤ a ∧ a < 2 ^ 62 ∧ -(2 ^ 62) ≤ b ∧ b < 2 ^ 62 then .ok (.rng a (b - a).toNat) S else .bad
  | _ => .bad
def mRng1 (f : ML) : MI := fun l S => (f l S).bind oRng1
def mRng2 (f : ML) : MI := fun l S => (f l S).bind oRng2
def oEnum (ds : List D) (S : Hs) : R J := match ds with
  | [x] => match sqOf x S with
    | some s => .ok (.enum s) S
    | none => .bad
  | _ => .bad
def mEnum (f : ML) : MI := fun l S => (f l S).bind oEnum
def oZip (ds : List D) (S : Hs) : R J := match ds with
  | [x, y] => match sqOf x S, sqOf y S with
    | some s, some t => .ok (.zip s t) S
    | _, _ => .bad
  | _ => .bad
def mZip (f : ML) : MI := fun l S => (f l S).bind oZip
def oEz (ds : List D) (S : Hs) : R J := match ds with
  | [x, y] => match sqOf x S, sqOf y S with
    | some s, some t => .ok (.ez s t) S
    | _, _ => .bad
  | _ => .bad
def mEz (f : ML) : MI := fun l S => (f l S).bind oEz
section
variable {X : Cx} {E : St → XK} {tg e e2 : Expr} {f : M} {g : ML} {p0 pos : Pos}
abbrev QJ (K : PySem.W.Frag) (Q : It → Hp → Prop) : J → Hs → (Nat → Addr) → Hp → Prop := fun j S1 p1 H1 => ∀ I, JRel K p1 S1.length H1 j I → Q I H1
theorem seqAt_lt {S : Hs} {i : Nat} {ds : List D} (h : seqAt S i = some ds) : i < S.length := by
  unfold seqAt seqD at h
  simp only at h
  split at h
  · rename_i q; exact Real.lt q
  · rename_i q; exact Real.lt q
  · cases h
theorem i_it (he : EM X E e f) : IM X E tg e (mIt f) :=
  ⟨(PI.or (pi_list he.pe) (PI.or (pi_tup he.pe) (pi_str he.pe))).weak fun s H Q ⟨p, l, S, R, L, h⟩ => by
    unfold mIt at h
    have hc : ∃ d S1, f l S = .ok d S1 ∨ ∃ c fs l1, f l S = .exc c fs l1 S1 := by
      cases q : f l S with
      | ok d S1 => exact ⟨d, S1, .inl rfl⟩
      | exc c fs l1 S1 => exact ⟨.non, S1, .inr ⟨c, fs, l1, rfl⟩⟩
      | bad => rw [q] at h; exact h.elim
    obtain ⟨d, S1, hc | ⟨c, fs, l1, hc⟩⟩ := hc
    · rw [hc] at h
      simp only [Ly.R.bind_ok] at h
      unfold oIt at h
      split at h
      · refine .inr (.inl ⟨p, l, S, R, L, ?_⟩)
        rw [hc]
        intro p1 H1 x1 R1 v r
        cases r with
        | tup t r => exact ⟨_, rfl, ⟨_, SqT.of t⟩, Post.ok (Q := QJ _ Q) h x1 R1 _ ⟨_, _, .inl ⟨.tup t r, ⟨t, r⟩, rfl⟩⟩⟩
      · refine .inr (.inl ⟨p, l, S, R, L, ?_⟩)
        rw [hc]
        intro p1 H1 x1 R1 v r
        cases r with
        | wt t r => exact ⟨_, rfl, ⟨_, t.sq⟩, Post.ok (Q := QJ _ Q) h x1 R1 _ ⟨_, _, .inr ⟨.wt t r, ⟨t, r⟩, rfl⟩⟩⟩
      · refine .inr (.inr ⟨p, l, S, R, L, ?_⟩)
        rw [hc]
        intro p1 H1 x1 R1 v r
        cases r
        exact ⟨_, rfl, Post.ok (Q := QJ _ Q) h x1 R1 _ rfl⟩
      · refine .inl ⟨p, l, S, R, L, ?_⟩
        rw [hc]
        split at h
        · rename_i ds q
          intro p1 H1 x1 R1 v r
          obtain ⟨vs, hs, _⟩ := seqAt_V R1 q
          cases r
          exact ⟨_, rfl, ⟨_, hs⟩, Post.ok (Q := QJ _ Q) h x1 R1 _ ⟨seqAt_lt q, rfl⟩⟩
        · exact h.elim
      · exact h.elim
    · rw [hc] at h
      refine .inl ⟨p, l, S, R, L, ?_⟩
      rw [hc]
      exact h⟩
theorem i_rng1 {a : Expr} (hm : X.mg "range" = none) (ha : LM X E [a] g) (hg : Gl X "range" := by rfl) (hs : starEach [a] X.env = [(false, eval a X.env)] := by rfl) : IM X E tg (.Call (.Name "range" p0) [a] [] pos) (mRng1 g) :=
  ⟨(pi_range1 hg hm ha.pa hs).weak fun s H Q ⟨p, l, S, R, L, h⟩ => TL.of R L h fun p1 S1 H1 d v R1 x1 L1 r1 h1 => by
    unfold oRng1 at h1
    split at h1
    · split at h1
      · rename_i hb
        cases r1 with
        | cons r0 rs => cases rs; cases r0; exact ⟨_, rfl, hb.1, hb.2, Post.ok (Q := QJ _ Q) h1 Ext.refl R1 _ rfl⟩
      · exact h1.elim
    · exact h1.elim⟩
theorem i_enum {elts : List Expr} {kk : Nat} {tpos : Pos} (hm : X.mg "enumerate" = none) (ha : LM X E [e] g) (hg : Gl X "enumerate" := by rfl) (hs : starEach [e] X.env = [(false, eval e X.env)] := by rfl) : IM X E (.Tuple elts kk tpos) (.Call (.Name "enumerate" p0) [e] [] pos) (mEnum g) :=
  ⟨(LyI.pi_enumB hg hm ha.pa hs).weak fun s H Q ⟨p, l, S, R, L, h⟩ => TL.of R L h fun p1 S1 H1 d v R1 x1 L1 r1 h1 => by
    unfold oEnum at h1
    split at h1
    · split at h1
      · rename_i q
        cases r1 with
        | cons r0 rs =>
          cases rs
          obtain ⟨b, a, ds, rfl, h2, e⟩ := sqOf_R R1 r0 q
          obtain ⟨vs, hs, _⟩ := h2.seq R1 e
          exact ⟨b, a, vs, rfl, hs, Post.ok (Q := QJ _ Q) h1 Ext.refl R1 _ ⟨b, a, h2, rfl⟩⟩
      · exact h1.elim
    · exact h1.elim⟩
theorem i_zip {elts : List Expr} {kk : Nat} {tpos : Pos} (hm : X.mg "zip" = none) (ha : LM X E [e, e2] g) (hg : Gl X "zip" := by rfl) (hs : starEach [e, e2] X.env = (false, eval e X.env) :: starEach [e2] X.env := by rfl) (hpl : (backTo pos (starEach [e2] X.env)).any (·.1) = false := by rfl) :
    IM X E (.Tuple elts kk tpos) (.Call (.Name "zip" p0) [e, e2] [] pos) (mZip g) :=
  ⟨(LyI.pi_zipB hg hm ha.pa hs hpl).weak fun s H Q ⟨p, l, S, R, L, h⟩ => TL.of R L h fun p1 S1 H1 d v R1 x1 L1 r1 h1 => by
    unfold oZip at h1
    split at h1
    · split at h1
      · rename_i q q'
        cases r1 with
        | cons r0 rs =>
          cases rs with
          | cons r2 rs =>
            cases rs
            obtain ⟨b, a, ds, rfl, h2, e⟩ := sqOf_R R1 r0 q
            obtain ⟨b', a', ds', rfl, h2', e'⟩ := sqOf_R R1 r2 q'
            obtain ⟨vs, hs, _⟩ := h2.seq R1 e
            obtain ⟨us, hs', _⟩ := h2'.seq R1 e'
            exact ⟨b, b', a, a', vs, us, rfl, hs, hs', Post.ok (Q := QJ _ Q) h1 Ext.refl R1 _ ⟨b, a, b', a', h2, h2', rfl⟩⟩
      · exact h1.elim
    · exact h1.elim⟩
end
def fStep (j : J) (g : MG) (b : MS) (a : Nat × Ls × Hs) : Sum (Nat × Ls × Hs) (R F) := match itGo j a.1 a.2.2 with
  | none => .inr .bad
  | some none => .inr (.ok (.nx a.2.1) a.2.2)
  | some (some d) => match g d a.2.1 a.2.2 with
    | .ok l1 S1 => turnOf (b l1 S1) fun l2 S2 => (a.1 + 1, l2, S2)
    | .exc c fs l1 S1 => .inr (.exc c fs l1 S1)
    | .bad => .inr .bad
noncomputable def fLoop (j : J) (g : MG) (b : MS) (k : Nat) : MS := fun l S => runI (fStep j g b) (k, l, S)
noncomputable def mFor (it : MI) (g : MG) (b : MS) : MS := fun l S => (it l S).bind fun j S1 => fLoop j g b 0 l S1
theorem fLoop_eq (j : J) (g : MG) (b : MS) (k : Nat) (l : Ls) (S : Hs) : fLoop j g b k l S = match itGo j k S with
    | none => .bad
    | some none => .ok (.nx l) S
    | some (some d) => (g d l S).bind fun l1 S1 => (b l1 S1).bind fun r S2 => match r with
      | .nx l2 => fLoop j g b (k + 1) l2 S2
      | .ct l2 => fLoop j g b (k + 1) l2 S2
      | .bk l2 => .ok (.nx l2) S2
      | .rt d => .ok (.rt d) S2 := by
  unfold fLoop
  rw [runI_eq]
  unfold fStep turnOf
  simp only []
  cases itGo j k S with
  | none => rfl
  | some o =>
    cases o with
    | none => rfl
    | some d =>
      simp only []
      cases g d l S with
      | ok l1 S1 =>
        simp only [R.bind_ok]
        cases b l1 S1 with
        | ok r S2 => cases r <;> rfl
        | exc _ _ _ _ => rfl
        | bad => rfl
      | exc _ _ _ _ => rfl
      | bad => rfl
section
variable {X : Cx} {E : St → XK} {tg e : Expr} {it : MI} {g : MG} {b : MS} {pos : Pos} {body : List Stmt}
theorem s_for (hp : PassesOwn (model X.prog X.w) X.A X.env X.xe) (hc : X.calm = true) (hi : IM X E tg e it) (hg : GM X E tg g) (hb : SMs X E body b) (hs : ∀ x, foldedSetIterable e X.env x = pure x := by intro _; rfl) : SM X E (.For tg e body [] pos) (mFor it g b) :=
  ⟨(ps_for hp hc hi.pi hg.pg hb.ps hs).weak fun s H D0 ⟨p, l, S, R, L, h⟩ => by
    refine ⟨p, l, S, R, L, (Post.bind (r := it l S) h).mono fun j S1 p1 H1 _ x1 R1 q I hI => ?_⟩
    obtain ⟨n, hn, _⟩ := runI_ex (Post.ne q)
    rw [show fLoop j g b 0 l S1 = _ from hn.symm] at q
    refine ⟨fun k m s H => ∃ p l S, Real X.K p S H ∧ Sl X.K p S.length H l s ∧ JRel X.K p S.length H j I ∧ Post X.K E S.length p H (iter (fStep j g b) m (k, l, S)) (QF X.K D0), ⟨n, p1, l, S1, R1, L.ext x1, hI, q⟩, ?_⟩
    rintro k m s H ⟨p, l, S, R, L, hI, h⟩
    cases m with
    | zero => exact h.elim
    | succ m =>
      simp only [iter, fStep] at h
      cases e1 : itGo j k S with
      | none => rw [e1] at h; exact h.elim
      | some o =>
        cases o with
        | none => rw [e1] at h; exact .inl ⟨it_stop R hI e1, Post.nx h R L⟩
        | some d =>
          obtain ⟨g1, g2⟩ := it_go R hI e1
          rw [e1] at h
          simp only [] at h
          refine .inr ⟨g1, fun s H => ∃ p l S, Real X.K p S H ∧ Sl X.K p S.length H l s ∧ JRel X.K p S.length H j I ∧ Post X.K E S.length p H (iter (fStep j g b) m (k + 1, l, S)) (QF X.K D0), fun s' H' w => ⟨m, Nat.lt_succ_self m, w⟩, fun x H' y => ?_⟩
          obtain ⟨x2, R2, r2⟩ := g2 x H' y
          refine ⟨p, l, S, d, R2, L.ext x2, r2, ?_⟩
          have h2 := Post.ext h x2
          cases e2 : g d l S with
          | bad => rw [e2] at h2; exact h2
          | exc c fs l1 S1 => rw [e2] at h2; exact h2
          | ok l1 S3 =>
            rw [e2] at h2
            simp only [] at h2
            intro p3 H3 x3 R3 s3 L3
            refine ⟨p3, l1, S3, R3, L3, turn_post (Post.ext h2 x3) fun l2 S4 p4 H4 s4 x4 R4 L4 h4 => ⟨p4, l2, S4, R4, L4, hI.ext (x2.trans (x3.trans x4)), h4⟩⟩⟩
end
end Ly
set_option Elab.async false
set_option linter.all false
set_option maxRecDepth 100000
namespace Ly
open PySem PySem.Spec L2
open PyProof.Rows hiding St
def wipeL (l : Ls) : List Nat → Ls
  | [] => l
  | v :: vs => (wipeL l vs).set v none
theorem Sl.wipe {K : PySem.W.Frag} {p : Nat → Addr} {n : Nat} {H : Hp} {l : Ls} {s : St} (h : Sl K p n H l s) : ∀ vs, Sl K p n H (wipeL l vs) (L2.wipe s vs)
  | [] => h
  | v :: vs => (Sl.wipe h vs).skip v none
abbrev CG := D → Ls → Option Ls
def GOk (K : PySem.W.Frag) (vs : List Nat) (g : TG) (gl : CG) : Prop := ∀ (p : Nat → Addr) (n : Nat) (H : Hp) (d : D) (x : V) (l l1 : Ls) (s : St) (Q : St → Hp → Prop), Sl K p n H l (L2.wipe s vs) → Rep K p n H d x → gl d l = some l1 →
  (∀ s2, L2.wipe s2 vs = L2.wipe s vs → Sl K p n H l1 s2 → Q s2 H) → g x (L2.wipe s vs) H Q
def cN (i : Nat) : CG := fun d l => some (l.set i (some d))
def cT : List Nat → CG := fun is d l => match d with
  | .tup ds => if ds.length = is.length then some ((is.zip ds).foldl (fun l x => l.set x.1 (some x.2)) l) else none
  | .wt ds => if ds.length = is.length then some ((is.zip ds).foldl (fun l x => l.set x.1 (some x.2)) l) else none
  | _ => none
theorem gok_n {K : PySem.W.Frag} {i : Nat} {vs : List Nat} (hv : vs = [i]) : GOk K vs (gName i) (cN i) := by
  subst hv
  intro p n H d x l l1 s Q L r e hq
  cases e
  refine hq _ ?_ (L.set i r)
  simp only [L2.wipe, List.set_set]
def gNames : List Nat → TGs
  | [] => gNil
  | i :: is => gCons (gName i) (gNames is)
theorem wipe_set {s : St} {vs : List Nat} {i : Nat} {o : Option V} (h : i ∈ vs) : L2.wipe (s.set i o) vs = L2.wipe s vs := by
  induction vs with
  | nil => cases h
  | cons v vs ih =>
    simp only [L2.wipe]
    by_cases e : i ∈ vs
    · rw [ih e]
    · have : i = v := by
        rcases List.mem_cons.mp h with h | h
        · exact h
        · exact absurd h e
      subst this
      clear ih h
      have key : ∀ ws : List Nat, i ∉ ws → L2.wipe (s.set i o) ws = (L2.wipe s ws).set i o := by
        intro ws
        induction ws with
        | nil => intro _; rfl
        | cons w ws ih =>
          intro hw
          simp only [L2.wipe]
          rw [ih fun z => hw (List.mem_cons_of_mem _ z), List.set_comm _ _ (fun z => hw (by rw [← z]; exact List.mem_cons_self ..))]
      rw [key vs e, List.set_set]
theorem wipe_wipe {s : St} (vs : List Nat) : L2.wipe (L2.wipe s vs) vs = L2.wipe s vs := by
  have key : ∀ ws : List Nat, (∀ i ∈ ws, i ∈ vs) → L2.wipe (L2.wipe s ws) vs = L2.wipe s vs := by
    intro ws
    induction ws with
    | nil => intro _; rfl
    | cons w ws ih =>
      intro h
      simp only [L2.wipe]
      rw [wipe_set (h w (List.mem_cons_self ..)), ih fun i hi => h i (List.mem_cons_of_mem _ hi)]
  exact key vs fun _ h => h
theorem gnames_ok {K : PySem.W.Frag} {p : Nat → Addr} {n : Nat} {H : Hp} : ∀ (is : List Nat) (ds : List D) (xs : List V) (l : Ls) (s : St) (Q : St → Hp → Prop), Sl K p n H l s → Reps K p n H ds xs → ds.length = is.length →
    (∀ s2, (∀ vs, (∀ i ∈ is, i ∈ vs) → L2.wipe s2 vs = L2.wipe s vs) → Sl K p n H ((is.zip ds).foldl (fun l x => l.set x.1 (some x.2)) l) s2 → Q s2 H) → gNames is xs s H Q
  | [], ds, xs, l, s, Q, L, r, e, hq => by
    cases ds with
    | nil => cases r; exact ⟨rfl, hq s (fun _ _ => rfl) L⟩
    | cons a b => simp at e
  | i :: is, ds, xs, l, s, Q, L, r, e, hq => by
    cases ds with
    | nil => simp at e
    | cons d ds =>
      cases r with
      | cons r0 rs =>
        refine ⟨_, _, rfl, gnames_ok is ds _ (l.set i (some d)) _ Q (L.set i r0) rs (by simpa using e) fun s2 h2 L2' => hq s2 (fun vs hv => ?_) L2'⟩
        rw [h2 vs fun j hj => hv j (List.mem_cons_of_mem _ hj), wipe_set (hv i (List.mem_cons_self ..))]
theorem gok_t {K : PySem.W.Frag} {is vs : List Nat} (hv : ∀ i ∈ is, i ∈ vs) : GOk K vs (gTup K is.length (gNames is)) (cT is) := by
  intro p n H d x l l1 s Q L r e hq
  unfold cT at e
  split at e
  · split at e
    · rename_i hl
      cases e
      cases r with
      | tup t r => exact ⟨_, _, rfl, SqT.of t, by rw [← r.len]; exact hl, gnames_ok is _ _ l _ Q L r hl fun s2 h2 L2' => hq s2 (by rw [h2 vs hv, wipe_wipe]) L2'⟩
    · cases e
  · split at e
    · rename_i hl
      cases e
      cases r with
      | wt t r => exact ⟨_, _, rfl, t.sq, by rw [← r.len]; exact hl, gnames_ok is _ _ l _ Q L r hl fun s2 h2 L2' => hq s2 (by rw [h2 vs hv, wipe_wipe]) L2'⟩
    · cases e
  · cases e
def mYes : MB := fun _ S => .ok true S
def cStep (j : J) (gl : CG) (tt : MB) (te : M) (l : Ls) (n : Nat) (a : Nat × Hs) : Sum (Nat × Hs) (R D) := match itGo j a.1 a.2 with
  | none => .inr .bad
  | some none => .inr (.ok (.ref n) a.2)
  | some (some d) => match gl d l with
    | none => .inr .bad
    | some l1 => match tt l1 a.2 with
      | .ok false S2 => .inl (a.1 + 1, S2)
      | .ok true S2 => (match te l1 S2 with
        | .ok y S3 => (match S3[n]? with
          | some (.lst acc) => if acc.length < sizeLine then .inl (a.1 + 1, S3.set n (.lst (acc ++ [y]))) else .inr .bad
          | _ => .inr .bad)
        | _ => .inr .bad)
      | _ => .inr .bad
noncomputable def cLoop (j : J) (gl : CG) (tt : MB) (te : M) (l : Ls) (n k : Nat) (S : Hs) : R D := runI (cStep j gl tt te l n) (k, S)
noncomputable def mLc (it : MI) (gl : CG) (tt : MB) (te : M) (vs : List Nat) : M := fun l S => (it l S).bind fun j S1 => cLoop j gl tt te (wipeL l vs) S1.length 0 (S1 ++ [.lst []])
theorem cLoop_eq (j : J) (gl : CG) (tt : MB) (te : M) (l : Ls) (n k : Nat) (S : Hs) : cLoop j gl tt te l n k S = match cStep j gl tt te l n (k, S) with
    | .inl a => cLoop j gl tt te l n a.1 a.2
    | .inr r => r := by
  unfold cLoop
  rw [runI_eq]
  cases cStep j gl tt te l n (k, S) <;> rfl
abbrev E00 : St → XK := fun _ => L2.E0
section
variable {X : Cx} {E : St → XK} {elt tg iter : Expr} {ifs : List Expr} {scope : Scope} {own : List (Str × Nat)} {pos : Pos} {it : MI} {g : TG} {gl : CG} {tm : MB} {te : M} {tt : TT}
structure CT (X : Cx) (ifs : List Expr) (tm : MB) : Prop where pts : PTs X ifs (TB X.K E00 tm)
theorem ct_nil : CT X [] mYes := ⟨⟨fun pins s σ H Q I ⟨p, l, S, R, L, h⟩ => pts_nil.run pins s σ H Q I (Post.ok (Q := QB Q) h Ext.refl R)⟩⟩
theorem lc_reading {K : PySem.W.Frag} {vs : List Nat} (hgk : GOk K vs g gl) {s : St} {H : Hp} {Q : VK} {p : Nat → Addr} {l : Ls} {S : Hs} {j : J} {I : It} (R : Real K p S H) (L : Sl K p S.length H l s) (hI : JRel K p S.length H j I)
    (h : Post K E S.length p H (cLoop j gl tm te (wipeL l vs) S.length 0 (S ++ [.lst []])) (QD K Q)) : ∀ D0, H D0 = none → ∃ W : Nat → Nat → Hp → Prop, (∃ m, W 0 m (upd H D0 (.lst []))) ∧ ∀ i m H, W i m H →
      (I.stop i H ∧ Q (.ref D0) H) ∨ (I.go i H ∧ ∃ Nx : Hp → Prop, (∀ H', Nx H' → ∃ m', m' < m ∧ W (i + 1) m' H') ∧ ∀ x H', I.yld i H x H' → g x (L2.wipe s vs) H' fun s2 H2 => L2.wipe s2 vs = L2.wipe s vs ∧
        TB K E00 tm s2 H2 fun b H3 => if b = true then T K E00 te s2 H3 fun y H4 => ∃ acc, H4 D0 = some (.lst acc) ∧ acc.length < sizeLine ∧ Nx (upd H4 D0 (.lst (acc ++ [y]))) else Nx H3) := by
  intro D0 hD
  obtain ⟨m0, hm, _⟩ := runI_ex (Post.ne h)
  rw [show cLoop j gl tm te (wipeL l vs) S.length 0 (S ++ [.lst []]) = _ from hm.symm] at h
  have x0 := ext_new (S := S) (pi := p) (u := .lst []) hD
  have R0 := R.new (u := .lst []) (o := .lst []) hD ⟨[], upd_same, .nil⟩
  have e0 : (S ++ [O.lst []]).length = S.length + 1 := by simp
  refine ⟨fun k m H => ∃ q S1, S.length < S1.length ∧ q S.length = D0 ∧ Real K q S1 H ∧ Sl K q S1.length H (wipeL l vs) (L2.wipe s vs) ∧ JRel K q S1.length H j I ∧ Post K E S1.length q H (iter (cStep j gl tm te (wipeL l vs) S.length) m (k, S1)) (QD K Q),
    ⟨m0, piN p S.length D0, S ++ [.lst []], by omega, piN_same, R0, by rw [e0]; exact (L.wipe vs).ext x0, by rw [e0]; exact hI.ext x0, Post.ext h (by rw [e0]; exact x0)⟩, ?_⟩
  rintro k m H1 ⟨q, S1, hn, hq, R1, L1, hI1, h1⟩
  cases m with
  | zero => exact h1.elim
  | succ m =>
    simp only [iter, cStep] at h1
    cases e1 : itGo j k S1 with
    | none => rw [e1] at h1; exact h1.elim
    | some o =>
      cases o with
      | none =>
        rw [e1] at h1
        refine .inl ⟨it_stop R1 hI1 e1, ?_⟩
        have := Post.ok (Q := QD K Q) h1 Ext.refl R1 (.ref (q S.length)) (.ref hn)
        rwa [hq] at this
      | some d =>
        obtain ⟨g1, g2⟩ := it_go R1 hI1 e1
        rw [e1] at h1
        simp only [] at h1
        refine .inr ⟨g1, fun H => ∃ q S1, S.length < S1.length ∧ q S.length = D0 ∧ Real K q S1 H ∧ Sl K q S1.length H (wipeL l vs) (L2.wipe s vs) ∧ JRel K q S1.length H j I ∧ Post K E S1.length q H (iter (cStep j gl tm te (wipeL l vs) S.length) m (k + 1, S1)) (QD K Q),
          fun H' w => ⟨m, Nat.lt_succ_self m, w⟩, fun x H' y => ?_⟩
        obtain ⟨x2, R2, r2⟩ := g2 x H' y
        have h2 := Post.ext h1 x2
        cases e2 : gl d (wipeL l vs) with
        | none => rw [e2] at h2; exact h2.elim
        | some l1 =>
          rw [e2] at h2
          simp only [] at h2
          refine hgk q S1.length H' d x _ l1 s _ (L1.ext x2) r2 e2 fun s2 w2 L2' => ⟨w2, ?_⟩
          refine ⟨q, l1, S1, R2, L2', ?_⟩
          cases e3 : tm l1 S1 with
          | bad => rw [e3] at h2; exact h2.elim
          | exc _ _ _ _ => rw [e3] at h2; exact h2.elim
          | ok b S2 =>
            rw [e3] at h2
            intro q3 H3 x3 R3
            have h3 := Post.ext h2 x3
            cases b with
            | false => exact ⟨q3, S2, Nat.lt_of_lt_of_le hn x3.le, (x3.ag _ hn).trans hq, R3, (L1.ext x2).ext x3, (hI1.ext x2).ext x3, h3⟩
            | true =>
              show T K E00 te s2 H3 _
              refine ⟨q3, l1, S2, R3, L2'.ext x3, ?_⟩
              simp only [] at h3
              cases e4 : te l1 S2 with
              | bad => rw [e4] at h3; exact h3.elim
              | exc _ _ _ _ => rw [e4] at h3; exact h3.elim
              | ok y S3 =>
                rw [e4] at h3
                simp only [] at h3
                intro q4 H4 x4 R4 v r4
                have h4 := Post.ext h3 x4
                have hn4 : S.length < S3.length := Nat.lt_of_lt_of_le hn (Nat.le_trans x3.le x4.le)
                have hq4 : q4 S.length = D0 := (x4.ag _ (Nat.lt_of_lt_of_le hn x3.le)).trans ((x3.ag _ hn).trans hq)
                cases e5 : S3[S.length]? with
                | none => rw [e5] at h4; exact h4.elim
                | some ob =>
                  cases ob with
                  | lst acc =>
                    rw [e5] at h4
                    simp only [] at h4
                    split at h4
                    · rename_i hl
                      obtain ⟨us, h5, r5⟩ := R4.lst e5
                      have xu : ∀ u, Ext S3.length S3.length q4 q4 H4 (upd H4 (q4 S.length) u) := fun u => ext_upd (R4.notup hn4)
                      rw [hq4] at h5
                      refine ⟨us, h5, by rw [← r5.len]; exact hl, q4, S3.set S.length (.lst (acc ++ [y])), by rw [List.length_set]; exact hn4, hq4, ?_, ?_, ?_, ?_⟩
                      · rw [← hq4]
                        exact R4.put hn4 ⟨_, upd_same, (r5.ext (xu _) _ _).append (.cons (r4.ext (xu _) _ _) .nil)⟩
                      · rw [← hq4, List.length_set]; exact (((L1.ext x2).ext x3).ext x4).ext (xu _)
                      · rw [← hq4, List.length_set]; exact (((hI1.ext x2).ext x3).ext x4).ext (xu _)
                      · rw [← hq4, List.length_set]; exact Post.ext h4 (xu _)
                    · exact h4.elim
                  | _ => rw [e5] at h4; exact h4.elim
theorem e_lc (hc : X.calm = true) (hN : X.N.Nodup) (hi : IM X E tg iter it) (ok : BlkOk X.N X.env.scope scope own) (hgk : GOk X.K (own.map (·.2)) g gl)
    (hg : ∀ (s : Shared) (H : Hp) (C : Addr) (cl : List (Str × Addr)) (fp : List Addr), PG (X.blk s H scope (compEnvC scope cl C X.env) fp) tg g)
    (ht : ∀ (s : Shared) (H : Hp) (C : Addr) (cl : List (Str × Addr)) (fp : List Addr), CT (X.blk s H scope (compEnvC scope cl C X.env) fp) ifs tm)
    (he : ∀ (s : Shared) (H : Hp) (C : Addr) (cl : List (Str × Addr)) (fp : List Addr), EM (X.blk s H scope (compEnvC scope cl C X.env) fp) E00 elt te) (hs : ∀ x, foldedSetIterable iter X.env x = pure x := by intro _; rfl) :
    EM X E (.ListComp elt [⟨tg, iter, ifs, 0⟩] scope pos) (mLc it gl tm te (own.map (·.2))) :=
  ⟨(pe_lc hc hN hi.pi ok hg (fun s H C cl fp => (ht s H C cl fp).pts) (fun s H C cl fp => (he s H C cl fp).pe) hs).weak fun s H Q ⟨p, l, S, R, L, h⟩ =>
    ⟨p, l, S, R, L, (Post.bind (r := it l S) h).mono fun j S1 p1 H1 _ x1 R1 q I hI => lc_reading hgk R1 (L.ext x1) hI q⟩⟩
theorem s_setLc {i : Nat} {y : Str} {py spos : Pos} (hc : X.calm = true) (hN : X.N.Nodup) (hsw : swapsWith (.ListComp elt [⟨tg, iter, ifs, 0⟩] scope pos) (some (.Name y py)) spos.line X.env = pure true) (hi : IM X E tg iter it) (ok : BlkOk X.N X.env.scope scope own) (hgk : GOk X.K (own.map (·.2)) g gl)
    (hg : ∀ (s : Shared) (H : Hp) (C : Addr) (cl : List (Str × Addr)) (fp : List Addr), PG (X.blk s H scope (compEnvC scope cl C X.env) fp) tg g)
    (ht : ∀ (s : Shared) (H : Hp) (C : Addr) (cl : List (Str × Addr)) (fp : List Addr), CT (X.blk s H scope (compEnvC scope cl C X.env) fp) ifs tm)
    (he : ∀ (s : Shared) (H : Hp) (C : Addr) (cl : List (Str × Addr)) (fp : List Addr), EM (X.blk s H scope (compEnvC scope cl C X.env) fp) E00 elt te) (hy : X.N[i]? = some y := by rfl) (hl : X.env.scope.names.lookup y = some .local := by rfl) (hs : ∀ x, foldedSetIterable iter X.env x = pure x := by intro _; rfl) :
    SM X E (.Assign [.Name y py] (.ListComp elt [⟨tg, iter, ifs, 0⟩] scope pos) spos) (mSet i (mLc it gl tm te (own.map (·.2)))) :=
  ⟨(ps_setLc hc hN hy hl hsw hi.pi ok hg (fun s H C cl fp => (ht s H C cl fp).pts) (fun s H C cl fp => (he s H C cl fp).pe) hs).weak fun s H D0 ⟨p, l, S, R, L, h⟩ => by
    have h' : Post X.K E S.length p H ((mLc it gl tm te (own.map (·.2)) l S).bind fun d S1 => .ok (.nx (l.set i (some d))) S1) (QF X.K D0) := h
    have h2 : Post X.K E S.length p H (mLc it gl tm te (own.map (·.2)) l S) (QD X.K fun v H' => D0.nx (s.set i (some v)) H') := h'.bind.mono fun d S1 p1 H1 _ x1 R1 q v r => Post.nx q R1 ((L.ext x1).set i r)
    exact ⟨p, l, S, R, L, (Post.bind (r := it l S) h2).mono fun j S1 p1 H1 _ x1 R1 q I hI => lc_reading hgk R1 (L.ext x1) hI q⟩⟩
end
end Ly
set_option Elab.async false
set_option linter.all false
set_option maxRecDepth 100000
namespace Ly
open PySem PySem.Spec L2
open PyProof.Rows hiding St
def tyName (x : D) (S : Hs) : Option String := match x with
  | .non => some "NoneType"
  | .bl _ => some "bool"
  | .int _ => some "int"
  | .str _ => some "str"
  | .tup _ => some "tuple"
  | .wt _ => some "tuple"
  | .wl _ => some "list"
  | .ref i => match S[i]? with
    | some (.lst _) => some "list"
    | some (.rol _) => some "list"
    | some (.dic _) => some "dict"
    | some (.dit _) => some "dict"
    | _ => none
  | .cst _ => none
def oIsi (c : String) (x : D) (S : Hs) : R D := match (tyName x S).bind fun t => kitB t c with
  | some b => .ok (.bl b) S
  | none => .bad
section
variable {K : PySem.W.Frag} {E : St → XK} {X : Cx} {p : Nat → Addr} {S : Hs} {H : Hp}
theorem tyName_V {x : D} {v : V} {t : String} (R : Real K p S H) (r : Rep K p S.length H x v) (h : tyName x S = some t) : TyX K H v (.type t) := by
  unfold tyName at h
  cases r with
  | non => cases h; exact .base .non
  | bl b => cases h; exact .base (.bl _)
  | int b => cases h; exact .base (.int _)
  | str b => cases h; exact .base (.str _)
  | tup t r => cases h; exact .base (.tup t)
  | wt t r => cases h; obtain ⟨o, its, n, h1, h2, _⟩ := t; exact .kTuple h1 h2
  | wl t r => cases h; obtain ⟨o, its, n, h1, h2, _⟩ := t; exact .kList h1 h2
  | ref hi =>
    simp only at h
    split at h
    · rename_i q; cases h; obtain ⟨vs, h1, r⟩ := R.lst q; exact .base (.lst h1)
    · rename_i q; cases h; obtain ⟨o, vs, h1, r⟩ := R.ob _ _ q; exact .base (.frz h1)
    · rename_i q; cases h; obtain ⟨ks, h1, _⟩ := R.ob _ _ q; exact .base (.dK h1)
    · rename_i q; cases h; obtain ⟨ks, h1, _⟩ := R.ob _ _ q; exact .base (.dT h1)
    · cases h
  | cst a => cases h
theorem c_isi {e : Expr} {f : M} {c : Str} {cn : String} {p0 p1 pos : Pos} (hm : X.mg "isinstance" = none) (hmc : X.mg c = none) (ha : EM X E e f) (hbt : bootBuiltins c = some (.type cn) := by decide +kernel) (hg : Gl X "isinstance" := by rfl) (hgc : Gl X c := by rfl)
    (hn : c ≠ "__name__" := by decide) (hd : (c == ("__debug__" : Str)) = false := by decide)
    (he : starEach [e, Expr.Name c p1] X.env = (false, eval e X.env) :: starEach [Expr.Name c p1] X.env := by rfl) (he2 : starEach [Expr.Name c p1] X.env = (false, eval (Expr.Name c p1) X.env) :: starEach [] X.env := by rfl)
    (hpl : (backTo pos (starEach [Expr.Name c p1] X.env)).any (·.1) = false := by rfl) : EM X E (.Call (.Name "isinstance" p0) [e, .Name c p1] [] pos) (mUn (oIsi cn) f) :=
  ⟨(pe_callB call_isi hg hm (by decide +kernel) (pa_cons ha.pe (pa_cons (pe_bltn hgc hmc hbt (v := .ty cn) rfl hn hd) pa_nil he2) he) (by decide) (by decide) he hpl).weak fun s H Q ⟨p, l, S, R, L, h⟩ => T.of R L h fun p1 S1 H1 d v R1 x1 L1 r1 h1 => by
    unfold oIsi at h1
    split at h1
    · rename_i b e
      rw [Option.bind_eq_some_iff] at e
      obtain ⟨t, e1, e2⟩ := e
      exact ⟨_, _, _, _, b, rfl, .ty cn, tyName_V R1 r1 e1, kit_ty e2, h1.val R1 (.bl _)⟩
    · exact h1.elim⟩
end
abbrev MP := Ls → Hs → R (List (D × D))
def dpNil : MP := fun _ S => .ok [] S
def dpCons (f g : M) (h : MP) : MP := fun l S => (f l S).bind fun x S1 => (g l S1).bind fun y S2 => (h l S2).bind fun r S3 => .ok ((x, y) :: r) S3
def keysP : List (D × D) → Option (List (Key × D))
  | [] => some []
  | (x, y) :: r => match x.key, keysP r with
    | some k, some l => some ((k, y) :: l)
    | _, _ => none
def mergeD (kvs : List (Key × D)) (more : List (Key × D)) : List (Key × D) := more.foldl (fun acc kv => setK acc kv.1 kv.2) kvs
def mDisp (h : MP) : M := fun l S => (h l (S ++ [.dic []])).bind fun ps S1 => match keysP ps, S1[S.length]? with
  | some kvs, some (.dic []) => if kvs.length ≤ 15 then .ok (.ref S.length) (S1.set S.length (.dic (mergeD [] kvs))) else .bad
  | _, _ => .bad
structure DP (X : Cx) (E : St → XK) (pos : Pos) (keys : List (Option Expr)) (values : List Expr) (trs : List (TE × TE)) (f : MP) : Prop where
  pps : PPs X pos keys values trs
  rd : ∀ (s : St) (H : Hp) (p : Nat → Addr) (l : Ls) (S : Hs) (Q : List (V × V) → Hp → Prop), Real X.K p S H → Sl X.K p S.length H l s →
    Post X.K E S.length p H (f l S) (fun ps S1 p1 H1 => ∀ ks vs, Reps X.K p1 S1.length H1 (ps.map (·.1)) ks → Reps X.K p1 S1.length H1 (ps.map (·.2)) vs → Q (ks.zip vs) H1) → tPairs trs s H Q
section
variable {X : Cx} {E : St → XK} {pos : Pos} {keys : List (Option Expr)} {values : List Expr} {trs : List (TE × TE)} {f g : M} {h : MP} {k v : Expr}
theorem dp_nil : DP X E pos [] [] [] dpNil := ⟨pps_nil, fun s H p l S Q R L h => Post.ok h Ext.refl R [] [] .nil .nil⟩
theorem dp_cons (hk : EM X E k f) (hv : EM X E v g) (hr : DP X E pos keys values trs h) : DP X E pos (some k :: keys) (v :: values) ((T X.K E f, T X.K E g) :: trs) (dpCons f g h) :=
  ⟨pps_cons hk.pe hv.pe hr.pps, fun s H p l S Q R L q => T.of R L q fun p1 S1 H1 d1 v1 R1 x1 L1 r1 q1 => T.of R1 L1 q1 fun p2 S2 H2 d2 v2 R2 x2 L2 r2 q2 => hr.rd s H2 p2 l S2 _ R2 L2 (q2.bind.mono fun ps S3 p3 H3 _ x3 R3 q3 ks vs rk rv => by
    have := Post.ok q3 Ext.refl R3 (v1 :: ks) (v2 :: vs) (.cons ((r1.ext x2 _ _).ext x3 _ _) rk) (.cons (r2.ext x3 _ _) rv)
    exact this)⟩
theorem keysP_V {K : PySem.W.Frag} {p : Nat → Addr} {n : Nat} {H : Hp} {ps : List (D × D)} {kvs : List (Key × D)} {ks vs : List V} (h : keysP ps = some kvs) (rk : Reps K p n H (ps.map (·.1)) ks) (rv : Reps K p n H (ps.map (·.2)) vs) :
    ∃ ls : List (Key × V), ks.zip vs = ls.map (fun kv => (kV kv.1, kv.2)) ∧ ls.map (·.1) = kvs.map (·.1) ∧ Reps K p n H (kvs.map (·.2)) (ls.map (·.2)) := by
  induction ps generalizing kvs ks vs with
  | nil =>
    cases h; cases rk; cases rv
    exact ⟨[], rfl, rfl, .nil⟩
  | cons a ps ih =>
    obtain ⟨x, y⟩ := a
    simp only [List.map_cons] at rk rv
    cases rk with
    | cons r0 rs =>
    cases rv with
    | @cons _ _ v0 us s0 ss =>
    simp only [keysP] at h
    split at h
    · rename_i k l e1 e2
      cases h
      obtain ⟨ls, h1, h2, h3⟩ := ih e2 rs ss
      exact ⟨(k, v0) :: ls, by simp only [List.zip_cons_cons, List.map_cons, h1, key_V r0 e1], by simp only [List.map_cons, h2], .cons s0 h3⟩
    · cases h
theorem merge_V {K : PySem.W.Frag} {p : Nat → Addr} {n : Nat} {H : Hp} : ∀ (more : List (Key × D)) (ms : List (Key × V)) (kvs : List (Key × D)) (ks : List (Key × V)), ms.map (·.1) = more.map (·.1) → Reps K p n H (more.map (·.2)) (ms.map (·.2)) →
    ks.map (·.1) = kvs.map (·.1) → Reps K p n H (kvs.map (·.2)) (ks.map (·.2)) → (mergeK ks ms).map (·.1) = (mergeD kvs more).map (·.1) ∧ Reps K p n H ((mergeD kvs more).map (·.2)) ((mergeK ks ms).map (·.2))
  | [], ms, kvs, ks, e, _, e2, r2 => by
    cases ms with
    | nil => exact ⟨e2, r2⟩
    | cons a b => cases e
  | a :: more, ms, kvs, ks, e, r, e2, r2 => by
    cases ms with
    | nil => cases e
    | cons b ms =>
      simp only [List.map_cons, List.cons.injEq] at e
      cases r with
      | cons r0 rs =>
        have s := setK_V e2 r2 a.1 r0
        have := merge_V more ms (setK kvs a.1 a.2) (putK ks a.1 b.2) e.2 rs s.1 s.2
        show (mergeK (putK ks b.1 b.2) ms).map _ = _ ∧ Reps K p n H _ ((mergeK (putK ks b.1 b.2) ms).map _)
        rw [e.1]
        exact this
theorem e_disp (hd : DP X E pos keys values trs h) (hall : keys.all (·.isSome) = true := by rfl) (hl : keys.length = values.length := by rfl) (h0 : keys ≠ [] := by simp) (h15 : keys.length ≤ 15 := by decide) : EM X E (.Dict keys values pos) (mDisp h) :=
  ⟨(pe_disp hd.pps hall hl h0 h15).weak fun s H Q ⟨p, l, S, R, L, q⟩ => by
    intro a ha
    have x0 := ext_new (S := S) (pi := p) (u := .dK []) ha
    have R0 := R.new (u := .dK []) (o := .dic []) ha ⟨[], upd_same, rfl, .nil⟩
    have e0 : (S ++ [O.dic []]).length = S.length + 1 := by simp
    refine hd.rd s _ (piN p S.length a) l (S ++ [.dic []]) _ R0 (by rw [e0]; exact L.ext x0) ?_
    have q' := Post.ext q (show Ext S.length (S ++ [O.dic []]).length _ _ _ _ by rw [e0]; exact x0)
    refine Post.mono (Q' := fun (ps : List (D × D)) S1 p1 H1 => ∀ ks vs, Reps X.K p1 S1.length H1 (ps.map (·.1)) ks → Reps X.K p1 S1.length H1 (ps.map (·.2)) vs → _) (Post.bind (r := h l (S ++ [.dic []])) q') fun ps S1 p1 H1 _ x1 R1 q1 ks vs rk rv => ?_
    have hn : S.length < S1.length := Nat.lt_of_lt_of_le (by rw [e0]; exact Nat.lt_succ_self _) x1.le
    have hp : p1 S.length = a := (x1.ag _ (by rw [e0]; exact Nat.lt_succ_self _)).trans piN_same
    split at q1
    · rename_i kvs e1 e2
      split at q1
      · rename_i hlen
        obtain ⟨ls, h1, h2, h3⟩ := keysP_V e1 rk rv
        obtain ⟨zs, z1, z2, z3⟩ := R1.ob _ _ e2
        have : zs = [] := by cases zs with | nil => rfl | cons _ _ => cases z2
        subst this
        rw [hp] at z1
        have hll : ls.length = kvs.length := by simpa using congrArg List.length h2
        refine ⟨z1, ls, h1, by rw [hll]; exact hlen, ?_⟩
        have xu : Ext S1.length S1.length p1 p1 H1 (upd H1 (p1 S.length) (.dK (mergeK [] ls))) := ext_upd (R1.notup hn)
        have m := merge_V (K := X.K) (p := p1) (n := S1.length) (H := upd H1 (p1 S.length) (.dK (mergeK [] ls))) kvs ls [] [] h2 (h3.ext xu _ _) rfl .nil
        have := Post.put q1 R1 hn ⟨_, upd_same, m.1, m.2⟩ (.ref hn)
        rw [hp] at this
        exact this
      · exact q1.elim
    · exact q1.elim⟩
def mGet2 (f g h : M) : M := fun l S => (f l S).bind fun x S1 => if hasTy "dict" x S1 = true then (g l S1).bind fun y S2 => (h l S2).bind fun z S3 => match dGet x y S3 with
  | some (some d) => .ok d S3
  | some none => .ok z S3
  | none => .bad else .bad
def isDic (x : D) (S : Hs) : Bool := match x with
  | .ref i => match S[i]? with
    | some (.dic _) => true
    | some (.dit _) => true
    | _ => false
  | _ => false
def mAugI (op : D → D → Hs → R D) (f g h : M) : MS := fun l S => (f l S).bind fun x S1 => (g l S1).bind fun y S2 => match dGet x y S2 with
  | some (some z) => (h l S2).bind fun w S3 => (op z w S3).bind fun d S4 => if isDic x S4 = true then (oSet x y d S4).bind fun _ S5 => .ok (.nx l) S5 else .bad
  | _ => .bad
end
end Ly
set_option Elab.async false
set_option linter.all false
set_option maxRecDepth 100000
namespace Ly
open PySem PySem.Spec L2
open PyProof.Rows hiding St
def GV (K : PySem.W.Frag) (mg : Str → Option Value) (x : Str) (d : D) : Prop := ∃ u v, mg x = some u ∧ RelV v u ∧ ∀ p n H, Rep K p n H d v
structure DefAt (K : PySem.W.Frag) (mg : Str → Option Value) (x : Str) (st : Stmt) (ps : List Str) (f : Addr) (fd : FuncData) : Prop where
  F : Fun K x x st f fd
  g : mg x = some (.ref f)
  b : Binds K fd ps []
section
variable {X : Cx} {E : St → XK}
theorem e_g {x : Str} {d : D} {pos : Pos} (g : GV X.K X.mg x d) (hg : Gl X x := by rfl) (hd : (x == ("__debug__" : Str)) = false := by decide) : EM X E (.Name x pos) (mC d) := by
  obtain ⟨u, v, h1, h2, h3⟩ := g
  exact e_of_c (pe_glob hg h1 h2 hd) h3
variable {k : Nat}
theorem or_inAll (hr : Room k X.A) : OpR X (compareOp .In) (rInAll X.K) :=
  OpR.or op_in_sign (OpR.or op_in_str (OpR.or op_in_seq (OpR.or (op_inD (by have := hr.un; omega)) (OpR.or (op_inDT (by have := hr.un; omega)) (or_din (hu_of hr))))))
theorem or_notinAll (hr : Room k X.A) : OpR X (compareOp .NotIn) (rNotInAll X.K) :=
  OpR.or op_notIn_sign (OpR.or op_notin_str (OpR.or op_notIn_seq (OpR.or (op_notInD (by have := hr.un; omega)) (OpR.or (op_notInDT (by have := hr.un; omega)) (or_dnotin (hu_of hr))))))
end
theorem or_eqA {X : Cx} {k : Nat} (hr : Room k X.A) : OpR X (compareOp .Eq) (orR rEq (rEqD X.K)) := OpR.or op_eq (op_eqD hr.units)
theorem or_neA {X : Cx} {k : Nat} (hr : Room k X.A) : OpR X (compareOp .NotEq) (orR rNe (rNeD X.K)) := OpR.or op_ne (op_neD hr.units)
theorem gv_int {K : PySem.W.Frag} {mg : Str → Option Value} {x : Str} {u : Value} {i : Int} (h : mg x = some u) (e : absV u = some (.int i)) : GV K mg x (.int i) := by
  refine ⟨u, .int i, h, ?_, fun _ _ _ => .int _⟩
  cases u <;> first | (simp only [absV] at e; cases e; exact ⟨_, rfl⟩) | cases e
theorem gv_str {K : PySem.W.Frag} {mg : Str → Option Value} {x : Str} {u : Value} {i : Str} (h : mg x = some u) (e : absV u = some (.str i)) : GV K mg x (.str i) := by
  refine ⟨u, .str i, h, ?_, fun _ _ _ => .str _⟩
  cases u <;> first | (simp only [absV] at e; cases e; exact ⟨_, rfl⟩) | cases e
theorem reps_ints {K : PySem.W.Frag} {p : Nat → Addr} {n : Nat} {H : Hp} : ∀ xs : List Int, Reps K p n H (xs.map D.int) (xs.map V.int)
  | [] => .nil
  | x :: xs => .cons (.int x) (reps_ints xs)
def LawTrue (m : MD) : Prop := ∀ (ns : List Int) (x : D) (S : Hs), ns.length ≤ 63 → (∀ z ∈ ns, Builtin.Int.intBits z ≤ 1048576) → S.length ≤ 1 → Wf S → x.low S.length → seqD x S = some (ns.map D.int) → (∀ o ∈ S, o = .rol (ns.map D.int)) → ∃ S', m [x] S = .ok (.bl true) S'
theorem law_end {K : PySem.W.Frag} {m : MD} (hm : LawTrue m) {H : Hp} {a : Addr} {ns : List Int} (hl : ns.length ≤ 63) (hb : ∀ z ∈ ns, Builtin.Int.intBits z ≤ 1048576) (hO : Only H) (hS : SqL K H a (ns.map V.int)) : spM K 1 m [.ref a] H (fun v _ => v = .bl true) fun _ _ _ => False := by
  have fin : ∀ {p : Nat → Addr} {S : Hs} {S' : Hs} {H : Hp} {r : R D}, r = .ok (.bl true) S' → Post K (fun _ _ _ _ => False) S.length p H r (QD K fun v _ => v = .bl true) := fun {p S S' H r} e => by
    subst e
    intro p' H' x R v r
    cases r; rfl
  have h0 : (∃ o, H a = some (.frz o (.lst (ns.map V.int)))) ∨ Wl K a (ns.map V.int) := by
    rcases hS with hS | hS
    · rcases hS with hS | ⟨o, hS⟩
      · rcases hO a with q | ⟨o, xs, q⟩
        · rw [q] at hS; cases hS
        · rw [q] at hS; cases hS
      · exact .inl ⟨o, hS⟩
    · exact .inr hS
  rcases h0 with ⟨o, h0⟩ | h0
  · have R0 : Real K (fun _ => a) [.rol (ns.map D.int)] H := by
      refine ⟨fun i o' e => ?_, fun i j hi hj _ => by simp at hi hj; omega⟩
      cases i with
      | zero => simp at e; subst e; exact ⟨o, _, h0, reps_ints ns⟩
      | succ i => simp at e
    obtain ⟨S', e⟩ := hm ns (.ref 0) [.rol (ns.map D.int)] hl hb (by simp) R0.wf (by simp [D.low]) rfl (by simp)
    exact ⟨fun _ => a, [.rol (ns.map D.int)], [.ref 0], R0, .cons (.ref (by simp)) .nil, rfl, fin e⟩
  · have R0 : Real K (fun _ => a) [] H := ⟨fun i o' e => by simp at e, fun i j hi hj _ => by simp at hi⟩
    have r0 : Rep K (fun _ => a) 0 H (.wl (ns.map D.int)) (.ref a) := .wl h0 (reps_ints ns)
    obtain ⟨S', e⟩ := hm ns (.wl (ns.map D.int)) [] hl hb (by simp) R0.wf (r0.low) rfl (by simp)
    exact ⟨fun _ => a, [], [.wl (ns.map D.int)], R0, .cons r0 .nil, rfl, fin e⟩
theorem law_noexc {P : Program} {w : World} {l : List Env} {H : Hp} {s : Shared} {e : Value} {s' : Shared} (h : L2.CX P w l H s (fun _ _ _ => False) e s') : False := by
  obtain ⟨_, _, _, _, _, _, _, _, _, _, _, _, z⟩ := h
  exact z
end Ly
set_option Elab.async false
set_option linter.all false
set_option maxRecDepth 100000
namespace Ly
open PySem PySem.Spec L2
open PyProof.Rows hiding St
def mChn (op op' : D → D → Hs → R D) (f g h : M) : M := fun l S => (f l S).bind fun x S1 => (g l S1).bind fun y S2 => (op x y S2).bind fun d S3 => match d with
  | .bl true => (h l S3).bind fun z S4 => op' y z S4
  | .bl false => .ok (.bl false) S3
  | _ => .bad
def mChnB (op op' : D → D → Hs → R D) (f g h : M) : MB := fun l S => (f l S).bind fun x S1 => (g l S1).bind fun y S2 => (op x y S2).bind fun d S3 => match d with
  | .bl true => (h l S3).bind fun z S4 => (op' y z S4).bind fun d S5 => match d with
    | .bl b => .ok b S5
    | _ => .bad
  | .bl false => .ok false S3
  | _ => .bad
section
variable {X : Cx} {E : St → XK} {a b c : Expr} {f g h : M} {pos : Pos} {r r' : R2} {op op' : D → D → Hs → R D} {o o' : CmpOp}
theorem e_chain (ho : OpR X (compareOp o) r) (ho' : OpR X (compareOp o') r') (hk : OpOk X.K E r op) (hk' : OpOk X.K E r' op') (ha : EM X E a f) (hb : EM X E b g) (hc : EM X E c h)
    (hm : lastMarks [o, o'] [b, c] = false := by with_unfolding_all rfl) : EM X E (.Compare a [o, o'] [b, c] pos) (mChn op op' f g h) :=
  ⟨(pe_chain ho ho' ha.pe hb.pe hc.pe hm).weak fun s H Q ⟨p, l, S, R, L, h⟩ => T.of R L h fun p1 S1 H1 d v R1 x1 L1 r1 h1 => T.of R1 L1 h1 fun p2 S2 H2 d2 v2 R2 x2 L2 r2 h2 =>
    hk p2 S2 H2 _ _ _ _ _ R2 (r1.ext x2 _ _) r2 (h2.bind.mono fun d3 S3 p3 H3 _ x3 R3 q w rw' => by
      cases rw' with
      | bl k =>
        cases k with
        | false => exact ⟨false, rfl, by rw [if_neg (by decide)]; exact q.val R3 (.bl _)⟩
        | true => exact ⟨true, rfl, by
            rw [if_pos rfl]
            exact T.of R3 (L2.ext x3) q fun p4 S4 H4 d4 v4 R4 x4 L4 r4 h4 => hk' p4 S4 H4 _ _ _ _ Q R4 ((r2.ext x3 _ _).ext x4 _ _) r4 h4⟩
      | _ => exact q.elim)⟩
theorem b_chain (ho : OpR X (compareOp o) r) (ho' : OpR X (compareOp o') r') (hk : OpOk X.K E r op) (hk' : OpOk X.K E r' op') (ha : EM X E a f) (hb : EM X E b g) (hc : EM X E c h)
    (hm : lastMarks [o, o'] [b, c] = false := by with_unfolding_all rfl) : BM X E (.Compare a [o, o'] [b, c] pos) (mChnB op op' f g h) :=
  ⟨(pt_chain ho ho' ha.pe hb.pe hc.pe hm).weak fun s H Q ⟨p, l, S, R, L, h⟩ => T.of R L h fun p1 S1 H1 d v R1 x1 L1 r1 h1 => T.of R1 L1 h1 fun p2 S2 H2 d2 v2 R2 x2 L2 r2 h2 =>
    hk p2 S2 H2 _ _ _ _ _ R2 (r1.ext x2 _ _) r2 (h2.bind.mono fun d3 S3 p3 H3 _ x3 R3 q w rw' => by
      cases rw' with
      | bl k =>
        cases k with
        | false => exact ⟨false, rfl, by rw [if_neg (by decide)]; exact ⟨false, rfl, Post.ok (Q := QB Q) q Ext.refl R3⟩⟩
        | true => exact ⟨true, rfl, by
            rw [if_pos rfl]
            exact T.of R3 (L2.ext x3) q fun p4 S4 H4 d4 v4 R4 x4 L4 r4 h4 => hk'.test R4 ((r2.ext x3 _ _).ext x4 _ _) r4 h4⟩
      | _ => exact q.elim)⟩
end
def mFmt (f : M) : M := fun l S => (f l S).bind fun x S1 => match x with
  | .str y => if y.length ≤ sizeLine then .ok (.str y) S1 else .bad
  | .int i => if i.natAbs.log2 < 1920 then .ok (.str (Str.ofString (toString i))) S1 else .bad
  | _ => .bad
def mJs : List M → Str → M
  | [], acc => fun _ S => .ok (.str acc) S
  | f :: fs, acc => fun l S => (f l S).bind fun x S1 => match x with
    | .str y => if (acc ++ y).length ≤ sizeLine then mJs fs (acc ++ y) l S1 else .bad
    | _ => .bad
section
variable {X : Cx} {E : St → XK} {e v1 v2 : Expr} {es rest : List Expr} {f f1 f2 : M} {fs : List M} {pos : Pos}
theorem e_fmt (h : EM X E e f) : EM X E (.FormattedValue e (-1) none pos) (mFmt f) :=
  ⟨(pe_fmt h.pe).weak fun s H Q ⟨p, l, S, R, L, h⟩ => T.of R L h fun p1 S1 H1 d v R1 x1 L1 r1 h1 => by
    cases r1 with
    | str y =>
      dsimp only at h1
      split at h1
      · exact .inl ⟨y, rfl, by assumption, h1.val R1 (.str _)⟩
      · exact h1.elim
    | int i =>
      dsimp only at h1
      split at h1
      · exact .inr ⟨i, rfl, by assumption, h1.val R1 (.str _)⟩
      · exact h1.elim
    | _ => exact h1.elim⟩
inductive JM (X : Cx) (E : St → XK) : List Expr → List M → Prop
  | nil : JM X E [] []
  | cons {e : Expr} {f : M} {es : List Expr} {fs : List M} (h : EM X E e f) (r : JM X E es fs) : JM X E (e :: es) (f :: fs)
theorem JM.pj (h : JM X E es fs) : PJ X es (fs.map (T X.K E)) := by
  induction h with
  | nil => exact .nil
  | cons h _ ih => exact .cons h.pe ih
theorem js_post {K : PySem.W.Frag} {s : St} {Q : VK} : ∀ (fs : List M) (acc : Str) (H : Hp) (p : Nat → Addr) (l : Ls) (S : Hs), Real K p S H → Sl K p S.length H l s → Post K E S.length p H (mJs fs acc l S) (QD K Q) → tJs (fs.map (T K E)) acc s H fun out H1 => Q (.str out) H1
  | [], acc, H, p, l, S, R, L, h => h.val R (.str _)
  | f :: fs, acc, H, p, l, S, R, L, h => T.of R L h fun p1 S1 H1 d v R1 x1 L1 r1 h1 => by
    cases r1 with
    | str y =>
      dsimp only at h1
      split at h1
      · exact ⟨y, rfl, by assumption, js_post fs _ H1 p1 l S1 R1 L1 h1⟩
      · exact h1.elim
    | _ => exact h1.elim
theorem e_joined (h : JM X E (v1 :: v2 :: rest) fs) : EM X E (.JoinedStr (v1 :: v2 :: rest) pos) (mJs fs Str.empty) :=
  ⟨(pe_joined h.pj).weak fun s H Q ⟨p, l, S, R, L, h⟩ => js_post fs Str.empty H p l S R L h⟩
end
def KV (K : PySem.W.Frag) (u : Value) (d : D) : Prop := ∃ v, RelV v u ∧ ∀ p n H, Rep K p n H d v
def KD (K : PySem.W.Frag) (w : World) (mg : Str → Option Value) (x : Str) (tbl : List (Str × D)) : Prop :=
  ∃ a es n, mg x = some (.ref a) ∧ KDict K w a es n ∧ ∀ z, match tbl.lookup z with
    | some d => ∃ u, PySem.W.nsIn K a z = some (some u) ∧ KV K u d
    | none => PySem.W.nsIn K a z = some none
inductive KVs (K : PySem.W.Frag) : List Value → List (Str × D) → Prop
  | nil : KVs K [] []
  | cons {u : Value} {x : Str} {d : D} {us : List Value} {r : List (Str × D)} (h : KV K u d) (t : KVs K us r) : KVs K (u :: us) ((x, d) :: r)
theorem kd_find {K : PySem.W.Frag} {P : Params} (z : Str) : ∀ {es : List DictEntry} {tbl : List (Str × D)}, es.map He.keyOf = He.keysIn P (tbl.map (·.1)) → KVs K (es.map (·.val)) tbl →
    (es.any (·.refKey)) = false ∧ match tbl.lookup z with
      | some d => ∃ e, es.find? (·.key.isStr z) = some e ∧ KV K e.val d
      | none => es.find? (·.key.isStr z) = none
  | [], [], _, _ => ⟨rfl, rfl⟩
  | [], _ :: _, h, _ => by cases h
  | _ :: _, [], h, _ => by cases h
  | e :: es, (x, d) :: tbl, h, k => by
    cases k with
    | cons hv ks =>
      have h1 : He.keyOf e :: es.map He.keyOf = some (x, PyData.keyHash P x) :: He.keysIn P (tbl.map (·.1)) := h
      injection h1 with h2 h3
      obtain ⟨q1, q2⟩ := kd_find (P := P) z h3 ks
      unfold He.keyOf at h2
      split at h2
      · rename_i y t hy
        have h4 := Option.some.inj h2
        obtain ⟨rfl, h6⟩ := Prod.mk.inj h4
        refine ⟨by rw [List.any_cons, q1, show e.refKey = false by simp [DictEntry.refKey, hy]]; rfl, ?_⟩
        · by_cases hz : z = y
          · subst hz
            have e1 : (e.key.isStr z) = true := by rw [hy]; simp [Value.isStr]
            simp only [List.lookup, beq_self_eq_true, List.find?_cons, e1]
            exact ⟨e, rfl, hv⟩
          · have e1 : (e.key.isStr z) = false := by rw [hy]; simp [Value.isStr]; exact fun hh => hz hh.symm
            have e2 : (z == y) = false := by simpa using hz
            simp only [List.lookup, e2, List.find?_cons, e1]
            exact q2
      · cases h2
theorem kd_mk {K : PySem.W.Frag} {w : World} {mg : Str → Option Value} {x : Str} {a : Addr} {es : Array DictEntry} {n : Nat} {tbl : List (Str × D)} (g : mg x = some (.ref a)) (l : K.lookup a = some ⟨.type "dict", none, .dict es n, #[]⟩) (low : (a == sysModules) = false)
    (t : es.toList.map He.keyOf = He.keysIn w.params (tbl.map (·.1))) (vs : KVs K (es.toList.map (·.val)) tbl) : KD K w mg x tbl := by
  refine ⟨a, es, n, g, ⟨l, He.keysLit_of t, low⟩, fun z => ?_⟩
  obtain ⟨q1, q2⟩ := kd_find (P := w.params) z t vs
  cases e : tbl.lookup z with
  | some d =>
    rw [e] at q2
    obtain ⟨en, h1, h2⟩ := q2
    refine ⟨en.val, ?_, h2⟩
    unfold PySem.W.nsIn
    rw [l]
    simp only [h1]
  | none =>
    rw [e] at q2
    show PySem.W.nsIn K a z = some none
    unfold PySem.W.nsIn
    rw [l]
    simp only [show es.toList.find? (·.key.isStr z) = none from q2, q1]
    rfl
def flatC : D → Option V
  | .int i => some (.int i)
  | .str x => some (.str x)
  | _ => none
def mIxK (tbl : List (Str × D)) (f : M) : M := fun l S => (f l S).bind fun x S1 => match x with
  | .str z => match tbl.lookup z with
    | some d => .ok d S1
    | none => .bad
  | _ => .bad
def mInK (tbl : List (Str × D)) (f : M) : M := fun l S => (f l S).bind fun x S1 => match x with
  | .str z => .ok (.bl (tbl.lookup z).isSome) S1
  | _ => .bad
def mNotInK (tbl : List (Str × D)) (f : M) : M := fun l S => (f l S).bind fun x S1 => match x with
  | .str z => .ok (.bl (!(tbl.lookup z).isSome)) S1
  | _ => .bad
def mInKB (tbl : List (Str × D)) (f : M) : MB := fun l S => (f l S).bind fun x S1 => match x with
  | .str z => .ok (tbl.lookup z).isSome S1
  | _ => .bad
def mNotInKB (tbl : List (Str × D)) (f : M) : MB := fun l S => (f l S).bind fun x S1 => match x with
  | .str z => .ok (!(tbl.lookup z).isSome) S1
  | _ => .bad
section
variable {X : Cx} {E : St → XK} {a : Expr} {f : M} {pos p2 : Pos} {x : Str} {tbl : List (Str × D)}
theorem kd_is {K : PySem.W.Frag} {w : World} {mg : Str → Option Value} (h : KD K w mg x tbl) (z : Str) : ∃ a es n r, mg x = some (.ref a) ∧ KDict K w a es n ∧ PySem.W.nsIn K a z = some r ∧ r.isSome = (tbl.lookup z).isSome := by
  obtain ⟨a, es, n, g, k, h⟩ := h
  have := h z
  cases e : tbl.lookup z with
  | some d =>
    rw [e] at this
    obtain ⟨u, h1, _⟩ := this
    exact ⟨a, es, n, some u, g, k, h1, rfl⟩
  | none =>
    rw [e] at this
    exact ⟨a, es, n, none, g, k, this, rfl⟩
theorem e_ixK (g : KD X.K X.w X.mg x tbl) (ha : EM X E a f) (hg : Gl X x := by rfl) (hd : (x == ("__debug__" : Str)) = false := by decide) (hs : PlainIx a := by intro _ _; rfl) : EM X E (.Subscript (.Name x p2) a pos) (mIxK tbl f) := by
  obtain ⟨d, es, n, hm, k, h⟩ := g
  exact ⟨(pe_ix (ix_kdict) (pe_glob hg hm (v := .ref d) rfl hd) ha.pe hs).weak fun s H Q ⟨p, l, S, R, L, h0⟩ => T.of R L h0 fun p1 S1 H1 d1 v R1 x1 L1 r1 h1 => by
    cases r1 with
    | str z =>
      dsimp only at h1
      have hz := h z
      cases e : tbl.lookup z with
      | none => rw [e] at h1; exact h1.elim
      | some dv =>
        rw [e] at h1 hz
        obtain ⟨u, hu, v, ru, rp⟩ := hz
        exact ⟨d, z, v, rfl, rfl, ⟨es, n, u, k.at_, k.lit, hu, ru⟩, h1.val R1 (rp _ _ _)⟩
    | _ => exact h1.elim⟩
theorem b_notinK (g : KD X.K X.w X.mg x tbl) (ha : EM X E a f) (hg : Gl X x := by rfl) (hd : (x == ("__debug__" : Str)) = false := by decide) : BM X E (.Compare a [.NotIn] [.Name x p2] pos) (mNotInKB tbl f) := by
  obtain ⟨d, es, n, hm, k, h⟩ := id g
  exact ⟨(pt_cmpR (op_notIn_kd k) ha.pe (pe_glob hg hm (v := .ref d) rfl hd) (by rfl)).weak fun s H Q ⟨p, l, S, R, L, h0⟩ => T.of R L h0 fun p1 S1 H1 d1 v R1 x1 L1 r1 h1 => by
    cases r1 with
    | str z =>
      dsimp only at h1
      obtain ⟨a2, es2, n2, r, hm2, k2, hr, hb⟩ := kd_is g z
      rw [hm] at hm2; cases hm2
      rw [← hb] at h1
      exact ⟨z, r, rfl, rfl, hr, _, rfl, Post.ok (Q := QB Q) h1 Ext.refl R1⟩
    | _ => exact h1.elim⟩
def mGetK2 (tbl : List (Str × D)) (f g : M) : M := fun l S => (f l S).bind fun x S1 => match x with
  | .str z => (g l S1).bind fun y S2 => (match tbl.lookup z with
    | some d => .ok d S2
    | none => .ok y S2)
  | _ => .bad
end
end Ly
set_option Elab.async false
set_option linter.all false
set_option maxRecDepth 100000
namespace Ly
open PySem PySem.Spec L2
open PyProof.Rows hiding St
def putD (f : Str) (d : D) : List (Str × D) → List (Str × D)
  | [] => [(f, d)]
  | (g, x) :: r => if g = f then (g, d) :: r else (g, x) :: putD f d r
section
variable {K : PySem.W.Frag} {p : Nat → Addr} {n : Nat} {H : Hp}
theorem fs_some {f : Str} : ∀ {fs : List (Str × D)} {ks : List (Str × V)} {d : D}, ks.map (·.1) = fs.map (·.1) → Reps K p n H (fs.map (·.2)) (ks.map (·.2)) → fs.lookup f = some d → ∃ v, ks.lookup f = some v ∧ Rep K p n H d v
  | [], _, _, _, _, e => by cases e
  | (g, x) :: fs, [], _, h, _, _ => by cases h
  | (g, x) :: fs, (g', y) :: ks, d, h, r, e => by
    simp only [List.map_cons, List.cons.injEq] at h
    cases r with
    | cons r0 rs =>
      have hg : g' = g := h.1
      subst hg
      simp only [List.lookup] at e ⊢
      split at e
      · cases e; exact ⟨y, rfl, r0⟩
      · exact fs_some h.2 rs e
theorem fs_none {f : Str} : ∀ {fs : List (Str × D)} {ks : List (Str × V)}, ks.map (·.1) = fs.map (·.1) → fs.lookup f = none → ks.lookup f = none
  | [], [], _, _ => rfl
  | [], _ :: _, h, _ => by cases h
  | _ :: _, [], h, _ => by cases h
  | (g, x) :: fs, (g', y) :: ks, h, e => by
    simp only [List.map_cons, List.cons.injEq] at h
    have hg : g' = g := h.1
    subst hg
    simp only [List.lookup] at e ⊢
    split at e
    · cases e
    · exact fs_none h.2 e
theorem fs_put {f : Str} {d : D} {v : V} (rv : Rep K p n H d v) : ∀ {fs : List (Str × D)} {ks : List (Str × V)}, ks.map (·.1) = fs.map (·.1) → Reps K p n H (fs.map (·.2)) (ks.map (·.2)) →
    (putF f v ks).map (·.1) = (putD f d fs).map (·.1) ∧ Reps K p n H ((putD f d fs).map (·.2)) ((putF f v ks).map (·.2))
  | [], [], _, _ => ⟨rfl, .cons rv .nil⟩
  | [], _ :: _, h, _ => by cases h
  | _ :: _, [], h, _ => by cases h
  | (g, x) :: fs, (g', y) :: ks, h, r => by
    simp only [List.map_cons, List.cons.injEq] at h
    have hg : g' = g := h.1
    subst hg
    cases r with
    | cons r0 rs =>
      obtain ⟨h1, h2⟩ := fs_put rv h.2 rs
      simp only [putF, putD]
      split
      · exact ⟨by simp [h.2], .cons rv rs⟩
      · exact ⟨by simp [h1], .cons r0 h2⟩
end
def mFld (cs : List Addr) (f : Str) (o : M) : M := fun l S => (o l S).bind fun x S1 => match x with
  | .ref i => match S1[i]? with
    | some (.ins C fs) => if C ∈ cs then (match fs.lookup f with
      | some d => .ok d S1
      | none => .bad) else .bad
    | _ => .bad
  | _ => .bad
def mFldSet (cs : List Addr) (f : Str) (e o : M) : MS := fun l S => (e l S).bind fun d S1 => (o l S1).bind fun x S2 => match x with
  | .ref i => match S2[i]? with
    | some (.ins C fs) => if C ∈ cs ∧ fs.length < 1000 then .ok (.nx l) (S2.set i (.ins C (putD f d fs))) else .bad
    | _ => .bad
  | _ => .bad
def FOk (K : PySem.W.Frag) (cs : List Addr) (f : Str) : Prop := ∀ C ∈ cs, Cls K C ∧ NoAttr K C f
section
variable {X : Cx} {E : St → XK} {e o : Expr} {eo ee : M} {cs : List Addr} {f : Str} {pos pos' : Pos}
theorem e_fld (k : FOk X.K cs f) (ho : EM X E o eo) (hb : attributeBase o f X.env (eval o X.env) = eval o X.env := by rfl) : EM X E (.Attribute o f pos) (mFld cs f eo) :=
  ⟨(pe_fld ho.pe hb).weak fun s H Q ⟨p, l, S, R, L, h⟩ => T.of R L h fun p1 S1 H1 d v R1 x1 L1 r1 h1 => by
    cases r1 with
    | ref hi =>
      dsimp only at h1
      split at h1
      · rename_i C fs q
        split at h1
        · rename_i hC
          split at h1
          · rename_i d e1
            obtain ⟨dx, ks, g1, g2, g3⟩ := R1.ob _ _ q
            obtain ⟨v, g4, g5⟩ := fs_some g2 g3 e1
            exact ⟨_, C, dx, ks, v, rfl, g1, (k C hC).1, (k C hC).2, g4, h1.val R1 g5⟩
          · exact h1.elim
        · exact h1.elim
      · exact h1.elim
    | _ => exact h1.elim⟩
theorem s_fldset (k : FOk X.K cs f) (he : EM X E e ee) (ho : EM X E o eo) (hs : swapsWith e (some (.Attribute o f pos')) pos.line X.env = pure false := by rfl) : SM X E (.Assign [.Attribute o f pos'] e pos) (mFldSet cs f ee eo) :=
  ⟨(ps_fld ho.pe he.pe hs).weak fun s H D0 ⟨p, l, S, R, L, h⟩ => T.of R L h fun p1 S1 H1 d v R1 x1 L1 r1 h1 => T.of R1 L1 h1 fun p2 S2 H2 d2 v2 R2 x2 L2 r2 h2 => by
    cases r2 with
    | ref hi =>
      dsimp only at h2
      split at h2
      · rename_i C fs q
        split at h2
        · rename_i hC
          obtain ⟨dx, ks, g1, g2, g3⟩ := R2.ob _ _ q
          have hlt := Real.lt q
          obtain ⟨k1, k2⟩ := fs_put (f := f) (r1.ext x2 _ _) g2 g3
          have hks : ks.length = fs.length := by have := congrArg List.length g2; simpa using this
          refine ⟨_, C, dx, ks, rfl, g1, (k C hC.1).1, (k C hC.1).2, by rw [hks]; exact hC.2, ?_⟩
          have xu : Ext S2.length S2.length p2 p2 H2 (upd H2 (p2 _) (.ins C dx (putF f v ks))) := ext_upd (R2.notup hlt)
          have R3 := R2.put hlt (o := .ins C (putD f d fs)) (u := .ins C dx (putF f v ks)) ⟨dx, _, upd_same, k1, k2.ext xu _ _⟩
          have L3 := L2.ext xu
          exact Post.ok (Q := QF _ D0) h2 (by rw [List.length_set]; exact xu) R3 s (by rw [List.length_set]; exact L3)
        · exact h2.elim
      · exact h2.elim
    | _ => exact h2.elim⟩
end
def mMake (C : Addr) (md : MD) (g : ML) : M := fun l S => (g l S).bind fun ds S1 => ((md (.ref S1.length :: ds) (S1 ++ [.ins C []])).at l).bind fun d S2 => match d with
  | .non => .ok (.ref S1.length) S2
  | _ => .bad
section
variable {X : Cx} {E0 : XK} {CX : CXT} {e o : Expr} {es : List Expr} {eo : M} {g : ML} {m x : Str} {k np : Nat} {f C : Addr} {fd : FuncData} {ps : List Str} {md : MD} {pos apos p0 : Pos}
theorem make_post {K : PySem.W.Frag} {q : Nat → Addr} {S : Hs} {H : Hp} {s : St} {l : Ls} {ds : List D} {vs : List V} {Q : VK} {C : Addr} (hl : ∀ ds S, ds.length ≠ np → md ds S = .bad) (R : Real K q S H) (L : Sl K q S.length H l s) (r : Reps K q S.length H ds vs)
    (h : Post K (fun _ => E0) S.length q H (((md (.ref S.length :: ds) (S ++ [.ins C []])).at l).bind fun d S2 => match d with
      | .non => .ok (.ref S.length) S2
      | _ => .bad) (QD K Q)) : ∀ a dx, H a = none → H dx = none → dx ≠ a → spM K np md (.ref a :: (vs ++ [])) (upd (upd H dx (.own a)) a (.ins C dx [])) (fun v H2 => v = .non ∧ Q (.ref a) H2) E0 := by
  intro a dx ha hd hne
  have hjunk := R.junk (u := .own a) hd
  have ha2 : upd H dx (.own a) a = none := by rw [upd_ne (Ne.symm hne)]; exact ha
  have R2 : Real K (piN q S.length a) (S ++ [.ins C []]) (upd (upd H dx (.own a)) a (.ins C dx [])) := hjunk.new ha2 ⟨dx, [], upd_same, rfl, .nil⟩
  have x2 : Ext S.length (S.length + 1) q (piN q S.length a) H (upd (upd H dx (.own a)) a (.ins C dx [])) := (ext_junk hd).trans (ext_new ha2)
  have e1 : (S ++ [O.ins C []]).length = S.length + 1 := by simp
  refine ⟨piN q S.length a, S ++ [.ins C []], .ref S.length :: ds, R2, ?_, ?_, ?_⟩
  · rw [List.append_nil, e1]
    refine .cons ?_ (r.ext x2 _ _)
    have h0 : Rep K (piN q S.length a) (S.length + 1) (upd (upd H dx (.own a)) a (.ins C dx [])) (.ref S.length) (.ref (piN q S.length a S.length)) := .ref (Nat.lt_succ_self _)
    rwa [piN_same] at h0
  · apply Classical.byContradiction
    intro hne
    rw [hl _ _ hne] at h
    exact h
  · have L2 := L.ext x2
    rw [e1]
    have h4 := fn_post (E := fun _ => E0) L2 (Post.ext h x2).bind
    refine h4.mono fun d S2 p2 H2 _ x3 R3 q v rv => ?_
    have hle := x3.le
    have hp : p2 S.length = a := (x3.ag _ (Nat.lt_succ_self _)).trans piN_same
    cases rv with
    | non =>
      refine ⟨rfl, Post.ok (Q := QD K Q) q Ext.refl R3 _ ?_⟩
      have h0 : Rep K p2 S2.length H2 (.ref S.length) (.ref (p2 S.length)) := .ref (by omega)
      rwa [hp] at h0
    | _ => exact q.elim
theorem e_make0 (M : Mk X.K C f) (F : FnOk X.prog X.w X.K X.mg X.base CX k f fd ps (spM X.K np md)) (hl : ∀ ds S, ds.length ≠ np → md ds S = .bad) (hr : Room (k + 1) X.A) (hg : Gl X x) (hm : X.mg x = some (.ref C)) (hb : Binds X.K fd ps []) (hx : Passes CX X E0)
    (hdb : (x == ("__debug__" : Str)) = false := by decide) : EM X (fun _ => E0) (.Call (.Name x p0) [] [] pos) (mMake C md lNil) :=
  ⟨(pe_make0 M F hr hg hm hb .nil hx hdb).weak fun s H Q ⟨q, l, S, R, L, h⟩ => make_post hl R L .nil h⟩
end
def mFldAug (cs : List Addr) (f : Str) (op : D → D → Hs → R D) (o e : M) : MS := fun l S => (o l S).bind fun x S1 => match x with
  | .ref i => match S1[i]? with
    | some (.ins C fs) => if C ∈ cs then (match fs.lookup f with
      | some d0 => (e l S1).bind fun d S2 => (op d0 d S2).bind fun z S3 => match S3[i]? with
        | some (.ins C' fs') => if C' = C ∧ fs'.length < 1000 then .ok (.nx l) (S3.set i (.ins C (putD f z fs'))) else .bad
        | _ => .bad
      | none => .bad) else .bad
    | _ => .bad
  | _ => .bad
section
variable {X : Cx} {E : St → XK} {e o : Expr} {eo ee : M} {cs : List Addr} {f : Str} {pos tpos : Pos} {r : R2} {op : D → D → Hs → R D} {ao : Operator}
theorem s_fldaug (k : FOk X.K cs f) (hop : OpR X (inplaceOp ao) r) (hk : OpOk X.K E r op) (ho : EM X E o eo) (he : EM X E e ee) : SM X E (.AugAssign (.Attribute o f tpos) ao e pos) (mFldAug cs f op eo ee) :=
  ⟨(ps_fldaug (rd := r) ho.pe he.pe (fun pins s σ H x y u v Q I rx ry q => hop pins s σ H x y u v Q I rx ry q)).weak fun s H D0 ⟨p, l, S, R, L, h⟩ => T.of R L h fun p1 S1 H1 d v R1 x1 L1 r1 h1 => by
    cases r1 with
    | @ref i hi =>
      dsimp only at h1
      split at h1
      · rename_i C fs q
        split at h1
        · rename_i hC
          split at h1
          · rename_i d0 e1
            obtain ⟨dx, ks, g1, g2, g3⟩ := R1.ob _ _ q
            obtain ⟨v0, g4, g5⟩ := fs_some g2 g3 e1
            refine ⟨_, C, dx, ks, v0, rfl, g1, (k C hC).1, (k C hC).2, g4, T.of R1 L1 h1 fun p2 S2 H2 d2 v2 R2 x2 L2 r2 h2 => ?_⟩
            refine hk p2 S2 H2 _ _ _ _ _ R2 (g5.ext x2 _ _) r2 (h2.bind.mono fun z S3 p3 H3 _ x3 R3 q3 w rw' => ?_)
            split at q3
            · rename_i C' fs' q4
              split at q3
              · rename_i hC'
                obtain ⟨dx', ks', k1, k2, k3⟩ := R3.ob _ _ q4
                have hp : p3 i = p1 i := ((x2.trans x3).ag i hi)
                have hlt := Real.lt q4
                have hks : ks'.length = fs'.length := by have := congrArg List.length k2; simpa using this
                obtain ⟨m1, m2⟩ := fs_put (f := f) rw' k2 k3
                have hCC := hC'.1
                subst hCC
                refine ⟨dx', ks', by rw [← hp]; exact k1, by rw [hks]; exact hC'.2, ?_⟩
                rw [← hp]
                have xu : Ext S3.length S3.length p3 p3 H3 (upd H3 (p3 i) (.ins C' dx' (putF f w ks'))) := ext_upd (R3.notup hlt)
                have R4 := R3.put hlt (o := .ins C' (putD f z fs')) (u := .ins C' dx' (putF f w ks')) ⟨dx', _, upd_same, m1, m2.ext xu _ _⟩
                have L4 := (L2.ext x3).ext xu
                exact Post.ok (Q := QF _ D0) q3 (by rw [List.length_set]; exact xu) R4 s (by rw [List.length_set]; exact L4)
              · exact q3.elim
            · exact q3.elim
          · exact h1.elim
        · exact h1.elim
      · exact h1.elim
    | _ => exact h1.elim⟩
theorem s_fldaddD (k : FOk X.K cs f) (ho : EM X E o eo) (he : EM X E e ee) : SM X E (.AugAssign (.Attribute o f tpos) .Add e pos) (mFldAug cs f oIAdd eo ee) := s_fldaug k (OpR.or iop_add iop_add_str) ok_iadd ho he
end
def mMeth (tbl : List (Addr × MD)) (m : Str) (o : M) (g : ML) : M := fun l S => (o l S).bind fun x S1 => match x with
  | .ref i => match S1[i]? with
    | some (.ins C fs) => (match tbl.lookup C with
      | some md => if (fs.lookup m).isNone then (g l S1).bind fun ds S2 => (md (.ref i :: ds) S2).at l else .bad
      | none => .bad)
    | _ => .bad
  | _ => .bad
def MOk (P : Program) (w : World) (K : PySem.W.Frag) (mg : Str → Option Value) (base : Heap) (CX : CXT) (k : Nat) (m : Str) (C : Addr) (md : MD) : Prop := ∃ (np : Nat) (f : Addr) (fd : FuncData) (ps : List Str), Cls K C ∧ Meth K C m f ∧ FnOk P w K mg base CX k f fd ps (spM K np md) ∧ Binds K fd ps [] ∧ ∀ ds S, ds.length ≠ np → md ds S = .bad
section
variable {P : Program} {w : World} {K : PySem.W.Frag} {mg : Str → Option Value} {base : Heap} {CX : CXT} {k : Nat} {m : Str}
inductive MOks (P : Program) (w : World) (K : PySem.W.Frag) (mg : Str → Option Value) (base : Heap) (CX : CXT) (k : Nat) (m : Str) : List (Addr × MD) → Prop
  | one {C : Addr} {md : MD} (h : MOk P w K mg base CX k m C md) : MOks P w K mg base CX k m [(C, md)]
  | cons {C : Addr} {md : MD} {r : List (Addr × MD)} (h : MOk P w K mg base CX k m C md) (t : MOks P w K mg base CX k m r) : MOks P w K mg base CX k m ((C, md) :: r)
theorem MOks.get {tbl : List (Addr × MD)} (h : MOks P w K mg base CX k m tbl) {C : Addr} {md : MD} (e : tbl.lookup C = some md) : MOk P w K mg base CX k m C md := by
  induction h with
  | one h =>
    simp only [List.lookup] at e
    split at e
    · cases e; rename_i q; rw [show C = _ from by simpa using q]; exact h
    · cases e
  | cons h t ih =>
    simp only [List.lookup] at e
    split at e
    · cases e; rename_i q; rw [show C = _ from by simpa using q]; exact h
    · exact ih e
theorem MOks.some {tbl : List (Addr × MD)} (h : MOks P w K mg base CX k m tbl) : ∃ C md, MOk P w K mg base CX k m C md := by
  cases h with
  | one h => exact ⟨_, _, h⟩
  | cons h _ => exact ⟨_, _, h⟩
theorem mok {C f : Addr} {fd : FuncData} {ps : List Str} {np j : Nat} {md : MD} (c : Cls K C) (hm : Meth K C m f) (F : FnOk P w K mg base CX j f fd ps (spM K np md)) (hj : j ≤ k) (hb : Binds K fd ps []) (hl : ∀ ds S, ds.length ≠ np → md ds S = .bad) : MOk P w K mg base CX k m C md :=
  ⟨np, f, fd, ps, c, hm, F.mono hj, hb, hl⟩
structure MetAt (K : PySem.W.Frag) (m qual : Str) (st : Stmt) (ps : List Str) (f : Addr) (fd : FuncData) : Prop where
  F : Fun K m qual st f fd
  b : Binds K fd ps []
end
section
variable {X : Cx} {E0 : XK} {CX : CXT} {e o : Expr} {es : List Expr} {eo : M} {g : ML} {m : Str} {k : Nat} {tbl : List (Addr × MD)} {pos apos : Pos} {pl : Sem Bool}
theorem meth_post {K : PySem.W.Frag} {q : Nat → Addr} {S : Hs} {H : Hp} {s : St} {l : Ls} {Q : VK} (R : Real K q S H) (L : Sl K q S.length H l s) (h : Post K (fun _ => E0) S.length q H (mMeth tbl m eo g l S) (QD K Q)) :
    (∃ C md, tbl.lookup C = some md ∧ T K (fun _ => E0) eo s H fun x H1 => ∃ a dx fs, x = .ref a ∧ H1 a = some (.ins C dx fs) ∧ fs.lookup m = none ∧ TL K (fun _ => E0) g s H1 fun vs H2 => ∃ p S2 ds, Real K p S2 H2 ∧ Reps K p S2.length H2 ds (x :: vs) ∧ Post K (fun _ => E0) S2.length p H2 (md ds S2) (QD K Q)) ∨
      ∀ Q', T K (fun _ => E0) eo s H Q' := by
  cases er : eo l S with
  | exc c fs l2 S2 => exact .inr fun Q' => ⟨q, l, S, R, L, by rw [er]; unfold mMeth at h; rw [er] at h; exact h⟩
  | bad => unfold mMeth at h; rw [er] at h; exact h.elim
  | ok x S1 =>
    have h0 := h
    unfold mMeth at h
    rw [er] at h
    simp only [Ly.R.bind_ok] at h
    split at h
    · rename_i i
      split at h
      · rename_i C fs q1
        split at h
        · rename_i md e1
          split at h
          · rename_i hn
            refine .inl ⟨C, md, e1, q, l, S, R, L, ?_⟩
            rw [er]
            intro p1 H1 x1 R1 v rv
            have h' := Post.ext h x1
            cases rv
            obtain ⟨dx, ks, g1, g2, g3⟩ := R1.ob _ _ q1
            have L1 := L.ext x1
            refine ⟨_, dx, ks, rfl, g1, fs_none g2 (Option.isNone_iff_eq_none.mp hn), TL.of R1 L1 h' fun p2 S2 H2 ds vs R2 x2 L2 r2 h2 => ?_⟩
            have hi := Real.lt q1
            refine ⟨p2, S2, .ref i :: ds, R2, .cons ?_ r2, fn_post (E := fun _ => E0) L2 h2⟩
            have h3 : Rep K p1 S1.length H1 (.ref i) (.ref (p1 i)) := .ref hi
            exact h3.ext x2 _ _
          · exact h.elim
        · exact h.elim
      · exact h.elim
    · exact h.elim
theorem e_meth (hM : MOks X.prog X.w X.K X.mg X.base CX k m tbl) (hr : Room k X.A) (hx : Passes CX X E0) (ho : EM X (fun _ => E0) o eo) (ha : LM X (fun _ => E0) (e :: es) g)
    (hpl : (backTo pos (starEach es X.env)).any (·.1) = false := by rfl) (hst : starEach (e :: es) X.env = (false, eval e X.env) :: starEach es X.env := by rfl)
    (ht : eval (.Call (.Attribute o m apos) (e :: es) [] pos) X.env = (do let ov ← eval o X.env; standAt apos.atName; let (f, first) ← holding [ov] (getMethod ov m pl); callWith pos f first (backTo pos (starEach (e :: es) X.env)) (backToKw pos (keywordEach [] X.env))) := by rfl) :
    EM X (fun _ => E0) (.Call (.Attribute o m apos) (e :: es) [] pos) (mMeth tbl m eo g) := by
  refine ⟨⟨fun pins s σ H Q I ⟨p, l, S, R, L, h⟩ => ?_⟩⟩
  rcases meth_post R L h with ⟨C, md, e1, hT⟩ | hT
  · obtain ⟨np, f, fd, ps, c, hm, F, hb, hl⟩ := hM.get e1
    refine (pe_meth (pl := pl) ho.pe c hm F hr hb .nil hx ha.pa hst hpl ht).run pins s σ H Q I ?_
    obtain ⟨q0, l0, S0, R0, L0, h0⟩ := hT
    refine ⟨q0, l0, S0, R0, L0, h0.mono fun x S1 p1 H1 _ x1 R1 hq v rv => ?_⟩
    obtain ⟨a, dx, fs, rfl, g1, g2, q2, l2, S2, R2, L2, h2⟩ := hq v rv
    refine ⟨a, dx, fs, rfl, g1, g2, q2, l2, S2, R2, L2, h2.mono fun ds S3 p3 H3 _ x3 R3 hq3 vs rvs => ?_⟩
    obtain ⟨p4, S4, ds4, R4, r4, h4⟩ := hq3 vs rvs
    rw [List.append_nil]
    refine ⟨p4, S4, ds4, R4, r4, ?_, h4⟩
    apply Classical.byContradiction
    intro hne
    rw [hl _ _ hne] at h4
    exact h4
  · obtain ⟨C, md, np, f, fd, ps, c, hm, F, hb, hl⟩ := hM.some
    exact (pe_meth (pl := pl) ho.pe c hm F hr hb .nil hx ha.pa hst hpl ht).run pins s σ H Q I (hT _)
end
def spX (K : PySem.W.Frag) (np : Nat) (m : (Nat → Addr) → MD) : Sp := fun vs H Q E => ∀ cA, spM K np (m cA) vs H Q E
theorem law_endX {K : PySem.W.Frag} {m : (Nat → Addr) → MD} (hm : ∀ cA, LawTrue (m cA)) {H : Hp} {a : Addr} {ns : List Int} (hl : ns.length ≤ 63) (hb : ∀ z ∈ ns, Builtin.Int.intBits z ≤ 1048576) (hO : Only H) (hS : SqL K H a (ns.map V.int)) : spX K 1 m [.ref a] H (fun v _ => v = .bl true) fun _ _ _ => False :=
  fun cA => law_end (hm cA) hl hb hO hS
end Ly
set_option Elab.async false
set_option linter.all false
set_option maxRecDepth 100000
namespace Ly
open PySem PySem.Spec L2
open PyProof.Rows hiding St
def dcStep (j : J) (gl : CG) (tt : MB) (tk tv : M) (l : Ls) (n : Nat) (a : Nat × Hs) : Sum (Nat × Hs) (R D) := match itGo j a.1 a.2 with
  | none => .inr .bad
  | some none => .inr (.ok (.ref n) a.2)
  | some (some d) => match gl d l with
    | none => .inr .bad
    | some l1 => match tt l1 a.2 with
      | .ok false S2 => .inl (a.1 + 1, S2)
      | .ok true S2 => (match tk l1 S2 with
        | .ok y S3 => (match tv l1 S3 with
          | .ok z S4 => (match S4[n]?, y.key with
            | some (.dic acc), some k => if acc.length < sizeLine then .inl (a.1 + 1, S4.set n (.dic (setK acc k z))) else .inr .bad
            | _, _ => .inr .bad)
          | _ => .inr .bad)
        | _ => .inr .bad)
      | _ => .inr .bad
noncomputable def dcLoop (j : J) (gl : CG) (tt : MB) (tk tv : M) (l : Ls) (n k : Nat) (S : Hs) : R D := runI (dcStep j gl tt tk tv l n) (k, S)
noncomputable def mDc (it : MI) (gl : CG) (tt : MB) (tk tv : M) (vs : List Nat) : M := fun l S => (it l S).bind fun j S1 => dcLoop j gl tt tk tv (wipeL l vs) S1.length 0 (S1 ++ [.dic []])
theorem dcLoop_eq (j : J) (gl : CG) (tt : MB) (tk tv : M) (l : Ls) (n k : Nat) (S : Hs) : dcLoop j gl tt tk tv l n k S = match dcStep j gl tt tk tv l n (k, S) with
    | .inl a => dcLoop j gl tt tk tv l n a.1 a.2
    | .inr r => r := by
  unfold dcLoop
  rw [runI_eq]
  cases dcStep j gl tt tk tv l n (k, S) <;> rfl
section
variable {X : Cx} {E : St → XK} {kx vx tg iter : Expr} {ifs : List Expr} {scope : Scope} {own : List (Str × Nat)} {pos : Pos} {it : MI} {g : TG} {gl : CG} {tm : MB} {tk tv : M} {tt : TT}
end
def oSetd (x y z : D) (S : Hs) : R D := match x with
  | .ref i => match S[i]?, y.key with
    | some (.dic kvs), some k => if kvs.length < sizeLine then (match getK kvs k with
      | some d => .ok d S
      | none => .ok z (S.set i (.dic (setK kvs k z)))) else .bad
    | _, _ => .bad
  | _ => .bad
def mSetd (f g h : M) : M := fun l S => (f l S).bind fun x S1 => if hasTy "dict" x S1 = true then (g l S1).bind fun y S2 => (h l S2).bind fun z S3 => oSetd x y z S3 else .bad
def mGet1 (f g : M) : M := fun l S => (f l S).bind fun x S1 => if hasTy "dict" x S1 = true then (g l S1).bind fun y S2 => match dGet x y S2 with
  | some (some d) => .ok d S2
  | some none => .ok .non S2
  | none => .bad else .bad
def dropD (kvs : List (Key × D)) (k : Key) : List (Key × D) := kvs.filter fun kv => decide (kv.1 ≠ k)
def oPop2 (x y z : D) (S : Hs) : R D := match x with
  | .ref i => match S[i]?, y.key with
    | some (.dic kvs), some k => (match getK kvs k with
      | some d => .ok d (S.set i (.dic (dropD kvs k)))
      | none => .ok z S)
    | _, _ => .bad
  | _ => .bad
def mPop2 (f g h : M) : M := fun l S => (f l S).bind fun x S1 => if hasTy "dict" x S1 = true then (g l S1).bind fun y S2 => (h l S2).bind fun z S3 => oPop2 x y z S3 else .bad
def oDel (x y : D) (S : Hs) : R Unit := match x with
  | .ref i => match S[i]?, y.key with
    | some (.dic kvs), some k => (match getK kvs k with
      | some _ => .ok () (S.set i (.dic (dropD kvs k)))
      | none => .bad)
    | _, _ => .bad
  | _ => .bad
def mDel (f g : M) : MS := fun l S => (f l S).bind fun x S1 => (g l S1).bind fun y S2 => (oDel x y S2).bind fun _ S3 => .ok (.nx l) S3
section
variable {K : PySem.W.Frag} {p : Nat → Addr} {n : Nat} {H : Hp}
end
section
variable {X : Cx} {E : St → XK} {f g hh : M} {o e e2 : Expr} {apos cpos : Pos}
end
def rg1 (op : Int → Int → Hs → R D) : List D → Hs → R D := fun ds S => match ds with
  | [.int b] => op 0 b S
  | [.int a, .int b] => op a b S
  | _ => .bad
def mRg1 (op : Int → Int → Hs → R D) (f : M) : M := fun l S => (f l S).bind fun x S1 => rg1 op [x] S1
def mRg2 (op : Int → Int → Hs → R D) (f g : M) : M := fun l S => (f l S).bind fun x S1 => (g l S1).bind fun y S2 => rg1 op [x, y] S2
section
variable {X : Cx} {E : St → XK} {f g : M} {a b : Expr} {p p2 pos pos2 : Pos}
end
def sortI (ns : List Int) : List Int := ns.mergeSort (fun a b => decide (a ≤ b))
theorem sortI_perm (ns : List Int) : (sortI ns).Perm ns := List.mergeSort_perm _ _
theorem sortI_pw (ns : List Int) : (sortI ns).Pairwise (· ≤ ·) := by
  have := List.pairwise_mergeSort (le := fun a b : Int => decide (a ≤ b)) (fun a b c h1 h2 => by simp at *; omega) (fun a b => by simp; omega) ns
  exact this.imp fun h => by simpa using h
theorem sortI_uniq {ns xs : List Int} (h : xs.Perm ns) (p : xs.Pairwise (· ≤ ·)) : xs = sortI ns :=
  List.Perm.eq_of_pairwise (fun a b _ _ h1 h2 => Int.le_antisymm h1 h2) p (sortI_pw ns) (h.trans (sortI_perm ns).symm)
def intKeys : List (Key × D) → Option (List Int)
  | [] => some []
  | (.inl i, _) :: r => (intKeys r).map (i :: ·)
  | _ => none
def bSorted : List D → Hs → R D
  | [x], S => match (seqD x S).bind intsD with
    | some ns => .ok (.ref S.length) (S ++ [.lst ((sortI ns).map D.int)])
    | none => match x with
      | .ref i => match S[i]? with
        | some (.dic kvs) => (match intKeys kvs with
          | some ns => if ns.length < 64 then .ok (.ref S.length) (S ++ [.lst ((sortI ns).map D.int)]) else .bad
          | none => .bad)
        | _ => .bad
      | _ => .bad
  | _, _ => .bad
section
variable {X : Cx} {E : St → XK} {e : Expr} {f : ML} {p pos : Pos}
end
end Ly
set_option Elab.async false
set_option linter.all false
set_option maxRecDepth 100000
namespace Ly
open PySem PySem.Spec L2
open PyProof.Rows hiding St
def HOk (P : Program) (w : World) (K : PySem.W.Frag) (mg : Str → Option Value) (base : Heap) (CX : CXT) (k : Nat) (f : Addr) (md : MD) : Prop := ∃ (np : Nat) (fd : FuncData) (ps : List Str), FnOk P w K mg base CX k f fd ps (spM K np md) ∧ PySem.W.keepIn K (.ref f) = true ∧ Binds K fd ps [] ∧ ∀ ds S, ds.length ≠ np → md ds S = .bad
section
variable {P : Program} {w : World} {K : PySem.W.Frag} {mg : Str → Option Value} {base : Heap} {CX : CXT} {k : Nat}
inductive HOks (P : Program) (w : World) (K : PySem.W.Frag) (mg : Str → Option Value) (base : Heap) (CX : CXT) (k : Nat) : List (Addr × MD) → Prop
  | nil : HOks P w K mg base CX k []
  | cons {f : Addr} {md : MD} {r : List (Addr × MD)} (h : HOk P w K mg base CX k f md) (t : HOks P w K mg base CX k r) : HOks P w K mg base CX k ((f, md) :: r)
theorem HOks.get {tbl : List (Addr × MD)} (h : HOks P w K mg base CX k tbl) {f : Addr} {md : MD} (e : tbl.lookup f = some md) : HOk P w K mg base CX k f md := by
  induction h with
  | nil => cases e
  | cons h t ih =>
    simp only [List.lookup] at e
    split at e
    · cases e; rename_i q; rw [show f = _ from by simpa using q]; exact h
    · exact ih e
theorem hok {f c : Addr} {fd : FuncData} {ps : List Str} {np j : Nat} {md : MD} (e : c = f) (F : FnOk P w K mg base CX j f fd ps (spM K np md)) (hj : j ≤ k) (hk : PySem.W.keepIn K (.ref f) = true) (hb : Binds K fd ps []) (hl : ∀ ds S, ds.length ≠ np → md ds S = .bad) : HOk P w K mg base CX k c md := by
  subst e
  exact ⟨np, fd, ps, F.mono hj, hk, hb, hl⟩
end
section
variable {X : Cx} {E0 : XK} {CX : CXT} {e : Expr} {es : List Expr} {g : ML} {x : Str} {i k : Nat} {tbl : List (Addr × MD)} {p pos : Pos}
end
end Ly
set_option Elab.async false
set_option linter.all false
set_option maxRecDepth 100000
namespace Ly
open PySem PySem.Spec L2
open PyProof.Rows hiding St
section
variable {X : Cx} {E : St → XK} {e : Expr} {f : M}
end
end Ly
set_option Elab.async false
set_option linter.all false
set_option maxRecDepth 100000
namespace Ly
open PySem PySem.Spec L2
open PyProof.Rows hiding St
structure FnR (P : Program) (w : World) (K : PySem.W.Frag) (mg : Str → Option Value) (base : Heap) (CX : CXT) (Rm : Around → Prop) (f : Addr) (fd : FuncData) (ps : List Str) (sp : Sp) : Prop where
  len : ∀ vs H Q E, sp vs H Q E → vs.length = ps.length
  run : ∀ (A : Around) (outer : List Env) (s : Shared) (H : Hp) (args : Args) (us : List Value) (vs : List V) (Q : VK) (E : XK), Rm A → Env0 P w K mg base A outer s H → BindsTo s fd args (ps.zip us) → Vals vs us → sp vs H Q E →
    codeAny (model P w) A (.call (.ref f) args) (CR CX outer P w H s Q E) s
structure Rn (j n : Nat) (A : Around) : Prop where
  hd : A.handled = none
  dp : A.depth + 3 * j + n + 5 < recursionLimit
  un : A.units + 16 * j + 5 * n + 200 < cLine
theorem Rn.of {j n k : Nat} {A : Around} (r : Room k A) (h : 3 * j + n ≤ 3 * k) : Rn j n A := ⟨r.hd, by have := r.dp; omega, by have := r.un; omega⟩
theorem Rn.deeper {j n : Nat} {A : Around} (r : Rn j (n + 1) A) (env : Env) : Rn j n (A.deeper env) :=
  ⟨r.hd, by have := r.dp; show A.depth + 1 + 3 * j + n + 5 < _; omega, by have := r.un; show A.units + 3 + 16 * j + 5 * n + 200 < _; omega⟩
section
variable {P : Program} {w : World} {K : PySem.W.Frag} {mg : Str → Option Value} {base : Heap} {CX : CXT} {f : Addr} {fd : FuncData} {ps : List Str} {sp : Sp}
theorem FnR.ok {j n k : Nat} (F : FnR P w K mg base CX (Rn j n) f fd ps sp) (h : 3 * j + n ≤ 3 * k) : FnOk P w K mg base CX k f fd ps sp :=
  ⟨F.len, fun A outer s H args us vs Q E hr => F.run A outer s H args us vs Q E (.of hr h)⟩
end
section
variable {X : Cx} {CX : CXT} {Rm : Around → Prop} {f C : Addr} {fd : FuncData} {ps : List Str} {sp : Sp} {E0 : XK} {E : St → XK} {x m : Str} {p pos apos : Pos} {e o : Expr} {es : List Expr} {t : TA} {ta : TE}
variable {eo : M} {g : ML} {C1 : Addr} {md1 : MD} {pl : Sem Bool}
end
section
variable {P : Program} {w : World} {K : PySem.W.Frag} {mg : Str → Option Value} {base : Heap} {Rm : Around → Prop}
end
section
variable {P : Program} {w : World} {K : PySem.W.Frag} {mg : Str → Option Value} {base : Heap} {Rm : Around → Prop} {CX : CXT} {m : Str}
end
end Ly
set_option Elab.async false
set_option linter.all false
set_option maxRecDepth 100000
namespace Ly
open PySem PySem.Spec L2
open PyProof.Rows hiding St
theorem mulok_r {i j : Int} (h : j.natAbs < 2 ^ 64) : IntMulOk i j := .of_right (intBits_le_64 (by omega) (by omega))
theorem mulok_l {i j : Int} (h : i.natAbs < 2 ^ 64) : IntMulOk i j := .of_left (intBits_le_64 (by omega) (by omega))
theorem fine_pure {np : Nat} {m' m : MD} (h : ∀ ds S, Wf S → D.lows S.length ds → ds.length = np → m' ds S = .bad ∨ ∃ v, m' ds S = .ok v S ∧ v.low S.length ∧ ∃ g, m ds S = .ok v (S ++ g)) : Fine np m' m := by
  intro ds S wf lo hl
  rcases h ds S wf lo hl with e | ⟨v, e, hv, hg⟩
  · rw [e]; trivial
  · rw [e]; exact ⟨Nat.le_refl _, wf, hv, hg⟩
def mixI (c k : Int) : Int :=
  let low := (c * 48271 + k * 69621 + 11) % 2147483647
  (low * low + c * 40692 + k * 7 + 3) % 1000003 % 1000
def S_mix : MD := fun ds S => match ds with
  | [.int c, .int k] => .ok (.int (mixI c k)) S
  | _ => .bad
theorem len_mix (ds : List D) (S : Hs) (h : ds.length ≠ 2) : S_mix ds S = .bad := by
  unfold S_mix; split
  · simp at h
  · rfl
def b_mix : MS := (mSeq (mSet 2 (mBin oMod (mCall bInt (lCons (mBin oAdd (mBin oAdd (mBin oMul (mVar 0) (mC (.int 48271))) (mBin oMul (mVar 1) (mC (.int 69621)))) (mC (.int 11))) lNil)) (mC (.int 2147483647))))
    (mRet (mBin oMod (mBin oMod (mCall bInt (lCons (mBin oAdd (mBin oAdd (mBin oAdd (mBin oMul (mVar 2) (mVar 2)) (mBin oMul (mVar 0) (mC (.int 40692)))) (mBin oMul (mVar 1) (mC (.int 7)))) (mC (.int 3))) lNil)) (mC (.int 1000003))) (mC (.int 1000)))))
theorem fine_mix : Fine 2 S_mix (mDef 2 1 b_mix) := fine_pure fun ds S wf lo hl => by
  unfold S_mix
  split
  · rename_i c k
    refine .inr ⟨_, rfl, by simp [D.low], [], ?_⟩
    have h1 : IntMulOk c 48271 := mulok_r (by decide)
    have h2 : IntMulOk k 69621 := mulok_r (by decide)
    have h3 : IntMulOk c 40692 := mulok_r (by decide)
    have h4 : IntMulOk k 7 := mulok_r (by decide)
    have h5 : IntMulOk ((c * 48271 + k * 69621 + 11) % 2147483647) ((c * 48271 + k * 69621 + 11) % 2147483647) := mulok_r (by omega)
    simp [mDef, b_mix, mSeq, mSet, mRet, mBin, mCall, lCons, lNil, mVar, mC, oAdd, oMul, oMod, bInt, endOf, h1, h2, h3, h4, h5, mixI]
  · exact .inl rfl
theorem kRA : ¬ (("row" : Str) = "at") := by decide +kernel
theorem kRS : ¬ (("row" : Str) = "seed") := by decide +kernel
theorem kAS : ¬ (("at" : Str) = "seed") := by decide +kernel
theorem kSA : ¬ (("seed" : Str) = "at") := by decide +kernel
theorem get_put {S : Hs} {i : Nat} {o u : O} (h : S[i]? = some o) : (S.set i u)[i]? = some u := List.getElem?_set_self (Real.lt h)
def drawsK (r a s : D) : List (Key × D) := [(.inr "row", r), (.inr "at", a), (.inr "seed", s)]
@[simp] theorem drawsK_row (r a s : D) : getK (drawsK r a s) (.inr "row") = some r := by simp [getK, drawsK]
@[simp] theorem drawsK_at (r a s : D) : getK (drawsK r a s) (.inr "at") = some a := by simp [getK, drawsK, kRA]
@[simp] theorem drawsK_seed (r a s : D) : getK (drawsK r a s) (.inr "seed") = some s := by simp [getK, drawsK, kRS, kAS]
@[simp] theorem drawsK_len (r a s : D) : (drawsK r a s).length = 3 := rfl
@[simp] theorem drawsK_set (r a s b : D) : setK (drawsK r a s) (.inr "at") b = drawsK r b s := by simp [setK, drawsK, kRA, kSA]
def drawsO (j : Nat) (a sd : Int) : O := .dic (drawsK (.ref j) (.int a) (.int sd))
def pickV (row : List Int) (sd a many : Int) : Int := (if a < (row.length : Int) then row.getD a.toNat 0 else mixI sd a) % many
structure Drw (S : Hs) (i j : Nat) (row : List Int) (a sd : Int) : Prop where
  d : S[i]? = some (drawsO j a sd)
  r : S[j]? = some (.lst (row.map D.int))
  ne : i ≠ j
  nn : 0 ≤ a
open Classical in
noncomputable def S_pick : MD := fun ds S => match ds with
  | [.ref i, .int many] => if h : ∃ t : Nat × List Int × Int × Int, Drw S i t.1 t.2.1 t.2.2.1 t.2.2.2 ∧ 0 < many then
      .ok (.int (pickV h.choose.2.1 h.choose.2.2.2 h.choose.2.2.1 many)) (S.set i (drawsO h.choose.1 (h.choose.2.2.1 + 1) h.choose.2.2.2))
    else .bad
  | _ => .bad
theorem map_int_inj : ∀ {xs ys : List Int}, xs.map D.int = ys.map D.int → xs = ys
  | [], [], _ => rfl
  | [], _ :: _, h => by cases h
  | _ :: _, [], h => by cases h
  | x :: xs, y :: ys, h => by
    simp only [List.map_cons, List.cons.injEq, D.int.injEq] at h
    rw [h.1, map_int_inj h.2]
theorem Drw.same {S : Hs} {i j j' : Nat} {row row' : List Int} {a a' sd sd' : Int} (h : Drw S i j row a sd) (h' : Drw S i j' row' a' sd') : j = j' ∧ row = row' ∧ a = a' ∧ sd = sd' := by
  have e := h.d.symm.trans h'.d
  simp only [drawsO, drawsK, Option.some.injEq, O.dic.injEq, List.cons.injEq, Prod.mk.injEq, D.ref.injEq, D.int.injEq, and_true, true_and] at e
  obtain ⟨rfl, rfl, rfl⟩ := e
  have e := h.r.symm.trans h'.r
  simp only [Option.some.injEq, O.lst.injEq] at e
  exact ⟨rfl, map_int_inj e, rfl, rfl⟩
theorem S_pick_eq {S : Hs} {i j : Nat} {row : List Int} {a sd many : Int} (h : Drw S i j row a sd) (hm : 0 < many) : S_pick [.ref i, .int many] S = .ok (.int (pickV row sd a many)) (S.set i (drawsO j (a + 1) sd)) := by
  have hx : ∃ t : Nat × List Int × Int × Int, Drw S i t.1 t.2.1 t.2.2.1 t.2.2.2 ∧ 0 < many := ⟨(j, row, a, sd), h, hm⟩
  unfold S_pick
  simp only [dif_pos hx]
  obtain ⟨e1, e2, e3, e4⟩ := hx.choose_spec.1.same h
  rw [e1, e2, e3, e4]
theorem len_pick (ds : List D) (S : Hs) (h : ds.length ≠ 2) : S_pick ds S = .bad := by
  unfold S_pick; split
  · simp at h
  · rfl
def b_pick (mix : MD) : MS := (mSeq (mSet 2 (mBin oIx (mVar 0) (mC (.str "at"))))
    (mSeq (mAsg (mBin oAdd (mVar 2) (mC (.int 1))) (gSb (mVar 0) (mC (.str "at"))))
    (mSeq (mSet 3 (mFn mix (lCons (mBin oIx (mVar 0) (mC (.str "seed"))) (lCons (mVar 2) lNil))))
    (mSeq (mIfS (mCmp oLt (mVar 2) (mCall bLen (lCons (mBin oIx (mVar 0) (mC (.str "row"))) lNil))) (mSet 3 (mBin oIx (mBin oIx (mVar 0) (mC (.str "row"))) (mVar 2))) mPass)
    (mRet (mBin oMod (mCall bInt (lCons (mVar 3) lNil)) (mVar 1)))))))
theorem atI_nat {α : Type} {xs : List α} {i : Int} (h0 : 0 ≤ i) (h1 : i < (xs.length : Int)) : L2.atI xs i = xs[i.toNat]? := by
  unfold L2.atI L2.ixN
  rw [if_pos h0, if_pos h1]; rfl
theorem wf_set {S : Hs} {i : Nat} {o : O} (w : Wf S) (l : o.low S.length) : Wf (S.set i o) := by
  intro j o' e
  rw [List.length_set]
  by_cases h : j = i
  · subst h
    have hl := (List.getElem?_eq_some_iff.mp e).1
    rw [List.length_set] at hl
    rw [List.getElem?_set_self hl] at e
    cases e; exact l
  · rw [List.getElem?_set_ne (Ne.symm h)] at e
    exact w j o' e
theorem fine_pick : Fine 2 S_pick (mDef 2 2 (b_pick S_mix)) := by
  intro ds S wf lo hl
  by_cases hp : ∃ i many j row a sd, ds = [.ref i, .int many] ∧ Drw S i j row a sd ∧ 0 < many
  · obtain ⟨i, many, j, row, a, sd, rfl, h, hm⟩ := hp
    rw [S_pick_eq h hm]
    have hi : i < S.length := Real.lt h.d
    have hj : j < S.length := Real.lt h.r
    refine ⟨by simp, wf_set wf (by simp [O.low, drawsO, drawsK, D.lows, D.low, hj]), by simp [D.low], [], ?_⟩
    have d0 : S[i]? = some (.dic (drawsK (.ref j) (.int a) (.int sd))) := h.d
    have hr2 : (S.set i (O.dic (drawsK (.ref j) (.int (a + 1)) (.int sd))))[j]? = some (.lst (row.map D.int)) := by rw [List.getElem?_set_ne h.ne]; exact h.r
    have nn := h.nn
    by_cases hlt : a < (row.length : Int)
    · have hx : row[a.toNat]? = some (row.getD a.toNat 0) := by
        have : a.toNat < row.length := by omega
        simp [List.getD, List.getElem?_eq_getElem this]
      have hat : L2.atI (row.map D.int) a = some (.int (row.getD a.toNat 0)) := by
        rw [atI_nat nn (by simpa using hlt), List.getElem?_map, hx]; rfl
      simp [mDef, b_pick, mSeq, mSet, mRet, mBin, mCall, lCons, lNil, mVar, mC, oAdd, oIx, dGet, D.key, oMod, bInt, endOf, mAsg, gSb, oSet, mFn, S_mix, mIfS, mCmp, bLen, lenD, oLt, mPass, d0, get_put d0, hr2, hlt, hat, hm, pickV, drawsO, show (3:Nat) < sizeLine by decide]
    · simp [mDef, b_pick, mSeq, mSet, mRet, mBin, mCall, lCons, lNil, mVar, mC, oAdd, oIx, dGet, D.key, oMod, bInt, endOf, mAsg, gSb, oSet, mFn, S_mix, mIfS, mCmp, bLen, lenD, oLt, mPass, d0, get_put d0, hr2, hlt, hm, pickV, drawsO, show (3:Nat) < sizeLine by decide]
  · have e : S_pick ds S = .bad := by
      unfold S_pick
      split
      · rename_i i many
        rw [dif_neg]
        rintro ⟨⟨j, row, a, sd⟩, h, hm⟩
        exact hp ⟨i, many, j, row, a, sd, rfl, h, hm⟩
      · rfl
    rw [e]; trivial
theorem range_loop {lo : Int} {n i : Nat} {b : MS} (Inv : Nat → Ls → Hs → Prop) (step : ∀ k l S, k < n → Inv k l S → ∃ l' S', b (l.set i (some (.int (lo + k)))) S = .ok (.nx l') S' ∧ Inv (k + 1) l' S') :
    ∀ m k l S, k + m = n → Inv k l S → ∃ l' S', fLoop (.rng lo n) (gN i) b k l S = .ok (.nx l') S' ∧ Inv n l' S'
  | 0, k, l, S, e, h => by
    have hk : k = n := by omega
    subst hk
    exact ⟨l, S, by rw [fLoop_eq]; simp [itGo], h⟩
  | m + 1, k, l, S, e, h => by
    have hk : k < n := by omega
    obtain ⟨l1, S1, e1, h1⟩ := step k l S hk h
    obtain ⟨l2, S2, e2, h2⟩ := range_loop Inv step m (k + 1) l1 S1 (by omega) h1
    exact ⟨l2, S2, by rw [fLoop_eq]; simp [itGo, hk, gN, e1, e2], h2⟩
def b_str1 : MS := (mIfS (mAndB (mCmp oGt (mVar 4) (mC (.int 0))) (mCmp oLt (mCall bLen (lCons (mVar 2) lNil)) (mVar 1))) (mSeq (mExpr (mBM "list" oAppend (mVar 2) (lCons (mBin oMod (mCall bInt (lCons (mVar 4) lNil)) (mC (.int 1000))) lNil)))
    (mSet 4 (mBin oFdiv (mVar 4) (mC (.int 1000))))) mPass)
def b_str2 (mix : MD) : MS := (mIfS (mCmp oLt (mCall bLen (lCons (mVar 2) lNil)) (mVar 1)) (mExpr (mBM "list" oAppend (mVar 2) (lCons (mFn mix (lCons (mVar 4) (lCons (mBin oAdd (mBin oMul (mC (.int 64)) (mVar 5)) (mVar 3)) lNil))) lNil))) mPass)
noncomputable def b_str3 (mix : MD) : MS := (mSeq (mSet 4 (mBin oIx (mVar 0) (mVar 3)))
    (mIfS (mCmp oGe (mVar 4) (mBin oPow (mC (.int 10)) (mC (.int 18)))) (mFor (mRng1 (lCons (mC (.int 60)) lNil)) (gN 5) b_str1) (mFor (mRng1 (lCons (mC (.int 3)) lNil)) (gN 5) (b_str2 mix))))
noncomputable def b_stream (mix : MD) : MS := (mSeq (mSet 2 (mLst lNil))
    (mSeq (mFor (mRng1 (lCons (mCall bMin (lCons (mCall bLen (lCons (mVar 0) lNil)) (lCons (mC (.int 63)) lNil))) lNil)) (gN 3) (b_str3 mix))
    (mRet (mDisp (dpCons (mC (.str "row")) (mVar 2) (dpCons (mC (.str "at")) (mC (.int 0)) (dpCons (mC (.str "seed")) (mCall bLen (lCons (mVar 2) lNil)) dpNil)))))))
theorem get_end {S : Hs} {o : O} : (S ++ [o])[S.length]? = some o := by simp
theorem lenD_seq {x : D} {S : Hs} {ds : List D} (h : seqD x S = some ds) : lenD x S = some ds.length := by
  unfold seqD at h
  split at h
  · unfold lenD
    split at h <;> first | (rename_i q; cases h; simp [q]) | cases h
  · cases h; rfl
  · cases h
theorem seqD_more {x : D} {S g : Hs} {ds : List D} (h : seqD x S = some ds) : seqD x (S ++ g) = some ds := by
  unfold seqD at h ⊢
  split at h
  · rename_i i
    split at h
    · rename_i q; rw [List.getElem?_append_left (Real.lt q), q]; exact h
    · rename_i q; rw [List.getElem?_append_left (Real.lt q), q]; exact h
    · cases h
  · exact h
  · cases h
theorem oIx_seq {x : D} {S : Hs} {ds : List D} {i : Int} {d : D} (h : seqD x S = some ds) (h0 : 0 ≤ i) (h1 : i < (ds.length : Int)) (hd : ds[i.toNat]? = some d) : oIx x (.int i) S = .ok d S := by
  have ha : L2.atI ds i = some d := by rw [atI_nat h0 h1]; exact hd
  unfold seqD at h
  split at h
  · split at h <;> first | (rename_i q; cases h; simp [oIx, q, ha]) | cases h
  · cases h; simp [oIx, ha]
  · cases h
theorem line_big {n : Nat} (h : n ≤ 1000000) : n < sizeLine := Nat.lt_of_le_of_lt h (by decide)
def RowAt (S0 : Hs) (most : Int) (S : Hs) : Prop := ∃ row : List Int, S = S0 ++ [.lst (row.map D.int)] ∧ (row.length : Int) ≤ max most 0
theorem rowAt_push {S0 : Hs} {most : Int} {row : List Int} {v : Int} (h : (row.length : Int) < most) : RowAt S0 most (S0 ++ [.lst (row.map D.int ++ [.int v])]) := ⟨row ++ [v], by simp, by simp; omega⟩
theorem pow18 (S : Hs) : oPow (.int 10) (.int 18) S = .ok (.int 1000000000000000000) S := by
  have e : (10 : Int) ^ (18 : Int).toNat = 1000000000000000000 := by decide +kernel
  have h : 0 ≤ (18 : Int) ∧ (18 : Int) ≤ 1000000 ∧ (10 : Int).natAbs < 2 ^ 64 := by decide +kernel
  simp only [oPow]
  rw [if_pos h, e]
theorem rng1 {n : Int} (S : Hs) (h0 : -1000000000 ≤ n) (h1 : n ≤ 1000000000) : oRng1 [.int n] S = .ok (.rng 0 n.toNat) S := by
  have h : -(2 ^ 62) ≤ n ∧ n < 2 ^ 62 := ⟨Int.le_trans (by decide +kernel) h0, Int.lt_of_le_of_lt h1 (by decide +kernel)⟩
  simp only [oRng1]
  rw [if_pos h]
theorem str1_true {S : Hs} {x : D} {most : Int} {o3 o5 : Option D} {rest : Int} {S' : Hs} (hm : most ≤ 1000000) (hS : RowAt S most S') : ∃ l' S'', fLoop (.rng 0 60) (gN 5) b_str1 0 [some x, some (.int most), some (.ref S.length), o3, some (.int rest), o5] S' = .ok (.nx l') S'' ∧
    (RowAt S most S'' ∧ ∃ o4 o5, l' = [some x, some (.int most), some (.ref S.length), o3, o4, o5]) := by
  have := range_loop (lo := 0) (n := 60) (i := 5) (b := b_str1) (fun _ l S' => RowAt S most S' ∧ ∃ (rest : Int) (o5 : Option D), l = [some x, some (.int most), some (.ref S.length), o3, some (.int rest), o5]) ?_ 60 0 _ S' (by omega) ⟨hS, rest, o5, rfl⟩
  · obtain ⟨l', S'', e, h1, r, o, h2⟩ := this
    exact ⟨l', S'', e, h1, _, _, h2⟩
  · rintro k l S' hk ⟨⟨row, rfl, hr⟩, rest, o5, rfl⟩
    by_cases h0 : 0 < rest
    · by_cases h1 : (row.length : Int) < most
      · refine ⟨_, _, ?_, rowAt_push (v := rest % 1000) h1, rest / 1000, some (.int (0 + k)), rfl⟩
        have hb : row.length < sizeLine := line_big (by omega)
        simp [b_str1, mIfS, mAndB, mCmp, mVar, mC, oGt, oLt, mCall, bLen, lCons, lNil, lenD, h0, h1, mSeq, mExpr, mBM, hasTy, oAppend, mBin, oMod, bInt, mSet, oFdiv, hb, show Nat.log2 1000 < 9000 by decide]
      · refine ⟨_, _, ?_, ⟨row, rfl, hr⟩, rest, some (.int (0 + k)), rfl⟩
        simp [b_str1, mIfS, mAndB, mCmp, mVar, mC, oGt, oLt, mCall, bLen, lCons, lNil, lenD, h0, h1, mPass]
    · refine ⟨_, _, ?_, ⟨row, rfl, hr⟩, rest, some (.int (0 + k)), rfl⟩
      simp [b_str1, mIfS, mAndB, mCmp, mVar, mC, oGt, h0, mPass]
theorem str2_true {S : Hs} {x : D} {most : Int} {c : Int} {o5 : Option D} {rest : Int} {S' : Hs} (hm : most ≤ 1000000) (hS : RowAt S most S') : ∃ l' S'', fLoop (.rng 0 3) (gN 5) (b_str2 S_mix) 0 [some x, some (.int most), some (.ref S.length), some (.int c), some (.int rest), o5] S' = .ok (.nx l') S'' ∧
    (RowAt S most S'' ∧ ∃ o5, l' = [some x, some (.int most), some (.ref S.length), some (.int c), some (.int rest), o5]) := by
  refine range_loop (lo := 0) (n := 3) (i := 5) (fun _ l S' => RowAt S most S' ∧ ∃ (o5 : Option D), l = [some x, some (.int most), some (.ref S.length), some (.int c), some (.int rest), o5]) ?_ 3 0 _ S' (by omega) ⟨hS, o5, rfl⟩
  rintro k l S' hk ⟨⟨row, rfl, hr⟩, o5, rfl⟩
  by_cases h1 : (row.length : Int) < most
  · refine ⟨_, _, ?_, rowAt_push (v := mixI rest (64 * (0 + k) + c)) h1, some (.int (0 + k)), rfl⟩
    have hb : row.length < sizeLine := line_big (by omega)
    have hmul : IntMulOk 64 (k : Int) := mulok_l (by decide)
    simp [b_str2, mIfS, mCmp, mVar, mC, oLt, mCall, bLen, lCons, lNil, lenD, h1, mExpr, mBM, hasTy, oAppend, mBin, hb, mFn, S_mix, oMul, oAdd, hmul]
  · refine ⟨_, _, ?_, ⟨row, rfl, hr⟩, some (.int (0 + k)), rfl⟩
    simp [b_str2, mIfS, mCmp, mVar, mC, oLt, mCall, bLen, lCons, lNil, lenD, h1, mPass]
theorem str3_true {x : D} {S : Hs} {ns : List Int} {most : Int} (hx : seqD x S = some (ns.map D.int)) (hm : most ≤ 1000000) (k : Nat) (l : Ls) (S' : Hs) (hk : k < ns.length) (h : RowAt S most S' ∧ ∃ (o3 o4 o5 : Option D), l = [some x, some (.int most), some (.ref S.length), o3, o4, o5]) :
    ∃ l' S'', b_str3 S_mix (l.set 3 (some (.int (0 + k)))) S' = .ok (.nx l') S'' ∧ RowAt S most S'' ∧ ∃ (o3 o4 o5 : Option D), l' = [some x, some (.int most), some (.ref S.length), o3, o4, o5] := by
  obtain ⟨hS, o3, o4, o5, rfl⟩ := h
  have hS0 := hS
  obtain ⟨row, rfl, hr⟩ := hS
  have hix : oIx x (.int (k : Int)) (S ++ [.lst (row.map D.int)]) = .ok (.int ns[k]) (S ++ [.lst (row.map D.int)]) := oIx_seq (seqD_more hx) (by omega) (by simpa using hk) (by simp [hk])
  by_cases hg : (1000000000000000000 : Int) ≤ ns[k]
  · obtain ⟨l', S'', e, h1, o4', o5', h2⟩ := str1_true (S := S) (x := x) (o3 := some (.int (0 + k))) (o5 := o5) (rest := ns[k]) hm hS0
    refine ⟨l', S'', ?_, h1, _, _, _, h2⟩
    rw [← e]
    simp [b_str3, mSeq, mSet, mBin, mVar, hix, mIfS, mCmp, mC, pow18, oGe, hg, mFor, mRng1, rng1, lCons, lNil]
  · obtain ⟨l', S'', e, h1, o5', h2⟩ := str2_true (S := S) (x := x) (c := 0 + k) (o5 := o5) (rest := ns[k]) hm hS0
    refine ⟨l', S'', ?_, h1, _, _, _, h2⟩
    rw [← e]
    simp [b_str3, mSeq, mSet, mBin, mVar, hix, mIfS, mCmp, mC, pow18, oGe, hg, mFor, mRng1, rng1, lCons, lNil]
theorem mLst_nil (l : Ls) (S : Hs) : mLst lNil l S = .ok (.ref S.length) (S ++ [.lst []]) := by
  have h : ([] : List D).length ≤ sizeLine := Nat.zero_le _
  simp only [mLst, lNil, R.bind_ok]
  rw [if_pos h]
theorem stream_true {x : D} {S : Hs} {ns : List Int} {most : Int} (hx : seqD x S = some (ns.map D.int)) (hl : ns.length ≤ 63) (hm : most ≤ 1000000) :
    ∃ row : List Int, (row.length : Int) ≤ max most 0 ∧ mDef 2 4 (b_stream S_mix) [x, .int most] S = .ok (.ref (S.length + 1)) (S ++ [.lst (row.map D.int), drawsO S.length 0 row.length]) := by
  have outer := range_loop (lo := 0) (n := ns.length) (i := 3) (b := b_str3 S_mix)
    (fun _ l S' => RowAt S most S' ∧ ∃ (o3 o4 o5 : Option D), l = [some x, some (.int most), some (.ref S.length), o3, o4, o5]) (fun k l S' hk h => str3_true hx hm k l S' hk h) ns.length 0 [some x, some (.int most), some (.ref S.length), none, none, none] (S ++ [.lst []]) (by omega) ⟨⟨[], rfl, by simp; omega⟩, none, none, none, rfl⟩
  obtain ⟨l', S', e, ⟨row, rfl, hr⟩, o3, o4, o5, rfl⟩ := outer
  refine ⟨row, hr, ?_⟩
  have hmin : (if (63 : Int) < (ns.length : Int) then (63 : Int) else (ns.length : Int)) = (ns.length : Int) := if_neg (by omega)
  have hlen' : lenD x (S ++ [.lst []]) = some ns.length := by
    have := lenD_seq (seqD_more (g := [.lst []]) hx)
    rwa [List.length_map] at this
  have hb1 : (ns.length : Int) ≤ 1000000000 := by omega
  have hb0 : -1000000000 ≤ (ns.length : Int) := by omega
  have hb : row.length < sizeLine := line_big (by omega)
  have e1 : mFor (mRng1 (lCons (mCall bMin (lCons (mCall bLen (lCons (mVar 0) lNil)) (lCons (mC (.int 63)) lNil))) lNil)) (gN 3) (b_str3 S_mix) [some x, some (.int most), some (.ref S.length), none, none, none] (S ++ [.lst []]) = .ok (.nx [some x, some (.int most), some (.ref S.length), o3, o4, o5]) (S ++ [.lst (row.map D.int)]) := by
    simp only [mFor, mRng1, lCons, mCall, mVar, List.getElem?_cons_zero, lNil, R.bind_ok, bLen, hlen', mC, bMin, hmin, rng1 _ hb0 hb1, Int.toNat_natCast, e]
  simp [mDef, b_stream, mSeq, mSet, mLst_nil, e1, mRet, mDisp, dpCons, dpNil, mC, mVar, mCall, bLen, lCons, lNil, lenD, keysP, D.key, endOf, drawsO, mergeD, setK, drawsK, kRA, kRS, kAS]
end Ly
set_option Elab.async false
set_option linter.all false
set_option maxRecDepth 100000
namespace Ly
open PySem PySem.Spec L2
open PyProof.Rows hiding St
def tx (cs : List Nat) : Str := ⟨⟨cs⟩⟩
@[simp] theorem tx_len (cs : List Nat) : (tx cs).length = cs.length := rfl
@[simp] theorem tx_list (cs : List Nat) : (tx cs).cps.toList = cs := rfl
theorem tx_inj {a b : List Nat} (h : tx a = tx b) : a = b := congrArg (fun z => z.cps.toList) h
@[simp] theorem tx_eq {a b : List Nat} : (tx a = tx b) = (a = b) := propext ⟨tx_inj, fun h => by rw [h]⟩
theorem ix_tx {cs : List Nat} {i c : Nat} {S : Hs} (h : cs[i]? = some c) (hl : cs.length ≤ sizeLine) : oIx (.str (tx cs)) (.int (i : Int)) S = .ok (.str (tx [c])) S := by
  have hlt : i < cs.length := (List.getElem?_eq_some_iff.mp h).1
  have ha : L2.atI cs (i : Int) = some c := by rw [atI_nat (by omega) (by omega)]; simpa using h
  have hl' : (tx cs).length ≤ sizeLine := hl
  simp only [oIx]
  rw [if_pos hl', tx_list, ha]
  rfl
mutual
def D.plain : D → Bool
  | .non => true
  | .bl _ => true
  | .int _ => true
  | .str x => PyData.strOk x
  | .tup ds => D.plains ds
  | .wt ds => D.plains ds
  | _ => false
def D.plains : List D → Bool
  | [] => true
  | d :: ds => D.plain d && D.plains ds
end
mutual
def D.toP : D → PyData
  | .non => .none
  | .bl b => .bool b
  | .int i => .int i
  | .str x => .str x
  | .tup ds => .tuple (D.toPs ds)
  | .wt ds => .tuple (D.toPs ds)
  | _ => .none
def D.toPs : List D → List PyData
  | [] => []
  | d :: ds => D.toP d :: D.toPs ds
end
mutual
theorem D.pd_plain (S : Hs) : ∀ (d : D) (k : Nat), d.plain = true → 2 * d.toP.depth < k → D.pd S k d = some d.toP
  | d, 0, _, h => absurd h (Nat.not_lt_zero _)
  | .non, k + 1, _, _ => by rw [D.pd, D.toP]
  | .bl _, k + 1, _, _ => by rw [D.pd, D.toP]
  | .int _, k + 1, _, _ => by rw [D.pd, D.toP]
  | .str _, k + 1, _, _ => by rw [D.pd, D.toP]
  | .tup ds, k + 1, h, hk => by
    rw [D.pd, D.toP, D.pds_plain S ds k (by simpa [D.plain] using h) (by simp [D.toP, PyData.depth] at hk; omega)]; rfl
  | .wt ds, k + 1, h, hk => by
    rw [D.pd, D.toP, D.pds_plain S ds k (by simpa [D.plain] using h) (by simp [D.toP, PyData.depth] at hk; omega)]; rfl
  | .wl _, _ + 1, h, _ => by simp [D.plain] at h
  | .ref _, _ + 1, h, _ => by simp [D.plain] at h
  | .cst _, _ + 1, h, _ => by simp [D.plain] at h
theorem D.pds_plain (S : Hs) : ∀ (ds : List D) (k : Nat), D.plains ds = true → 2 * PyData.depthAll (D.toPs ds) + 1 < k → D.pds S k ds = some (D.toPs ds)
  | [], k, _, _ => by cases k <;> simp [D.pds, D.toPs]
  | d :: ds, 0, _, h => absurd h (Nat.not_lt_zero _)
  | d :: ds, k + 1, h, hk => by
    simp only [D.plains, Bool.and_eq_true] at h
    simp only [D.toPs, PyData.depthAll] at hk
    rw [D.pds, D.pd_plain S d k h.1 (by omega), D.pds_plain S ds (k + 1) h.2 (by omega), D.toPs]
end
mutual
theorem D.lay_plain : ∀ (d : D), d.plain = true → d.toP.canLay0 = true
  | .non, _ => by simp [D.toP, PyData.canLay0]
  | .bl _, _ => by simp [D.toP, PyData.canLay0]
  | .int _, _ => by simp [D.toP, PyData.canLay0]
  | .str x, h => by simpa [D.toP, PyData.canLay0, D.plain] using h
  | .tup ds, h => by
    rw [D.toP, PyData.canLay0]; exact D.lays_plain ds (by simpa [D.plain] using h)
  | .wt ds, h => by
    rw [D.toP, PyData.canLay0]; exact D.lays_plain ds (by simpa [D.plain] using h)
  | .wl _, h => by simp [D.plain] at h
  | .ref _, h => by simp [D.plain] at h
  | .cst _, h => by simp [D.plain] at h
theorem D.lays_plain : ∀ (ds : List D), D.plains ds = true → PyData.canLayAll0 (D.toPs ds) = true
  | [], _ => by simp [D.toPs, PyData.canLayAll0]
  | d :: ds, h => by
    simp only [D.plains, Bool.and_eq_true] at h
    simp [D.toPs, PyData.canLayAll0, D.lay_plain d h.1, D.lays_plain ds h.2]
end
theorem plains_mem : ∀ (xs : List D), D.plains xs = true ↔ ∀ x ∈ xs, D.plain x = true
  | [] => by simp [D.plains]
  | x :: xs => by simp [D.plains, plains_mem xs]
theorem depthAll_mem {n : Nat} : ∀ (xs : List D), (∀ x ∈ xs, x.toP.depth ≤ n) → PyData.depthAll (D.toPs xs) ≤ n
  | [], _ => by simp [D.toPs, PyData.depthAll]
  | x :: xs, h => by
    simp only [D.toPs, PyData.depthAll]
    have h1 := h x (List.mem_cons_self ..)
    have h2 := depthAll_mem xs (fun y m => h y (List.mem_cons_of_mem _ m))
    omega
theorem cEqD_same {x y : D} {S : Hs} {a : PyData} (e : cEqS x y = none) (hx : D.pd S 70 x = some a) (hy : D.pd S 70 y = some a) (hs : SeqAt.shaped a = true) : cEqD x y S = some true := by
  unfold cEqD
  rw [e, hx, hy]
  simp only []
  have h : a.canLay0 = true := by
    simp only [SeqAt.shaped, Bool.and_eq_true] at hs; exact hs.1
  rw [if_pos ⟨hs, hs⟩, PySem.SeqAt.eqv_refl a h]
theorem pd_lst {S : Hs} {i : Nat} {xs : List D} (h : S[i]? = some (.lst xs)) (hp : D.plains xs = true) (hd : PyData.depthAll (D.toPs xs) ≤ 30) : D.pd S 70 (.ref i) = some (.list (D.toPs xs)) ∧ SeqAt.shaped (.list (D.toPs xs)) = true := by
  refine ⟨?_, ?_⟩
  · rw [D.pd, h]
    simp only []
    rw [D.pds_plain S xs 69 hp (by omega)]; rfl
  · show (_ && _) = true
    rw [Bool.and_eq_true]
    refine ⟨by rw [PyData.canLay0]; exact D.lays_plain xs hp, decide_eq_true ?_⟩
    rw [PyData.depth]
    omega
theorem pd_tup {S : Hs} {xs : List D} (hp : D.plains xs = true) (hd : PyData.depthAll (D.toPs xs) ≤ 30) : D.pd S 70 (.tup xs) = some (.tuple (D.toPs xs)) ∧ SeqAt.shaped (.tuple (D.toPs xs)) = true := by
  refine ⟨?_, ?_⟩
  · rw [D.pd, D.pds_plain S xs 69 hp (by omega)]; rfl
  · show (_ && _) = true
    rw [Bool.and_eq_true]
    refine ⟨by rw [PyData.canLay0]; exact D.lays_plain xs hp, decide_eq_true ?_⟩
    rw [PyData.depth]
    omega
end Ly
set_option Elab.async false
set_option linter.all false
set_option maxRecDepth 100000
namespace Ly
open PySem PySem.Spec L2
open PyProof.Rows hiding St
theorem nr {α : Type} {a b : α} (h : a = b) : a = b := h.trans (Eq.refl _)
section
variable {f g h : M} {fl : ML} {fm : MO} {c c2 : MB} {b b2 : MS} {gg : MG} {gs : MGs} {l : Ls} {S : Hs} {i n : Nat} {d : D} {ds : List D} {md : MD} {op2 : D → D → Hs → R D} {op1 : D → Hs → R D} {opn : List D → Hs → R D} {opm : D → List D → Hs → R D} {T : String} {it : MI} {mp : MP} {lo hi : MO}
end
theorem set_same {S : Hs} {i : Nat} {o : O} (h : S[i]? = some o) : S.set i o = S := by
  obtain ⟨hlt, rfl⟩ := List.getElem?_eq_some_iff.mp h
  exact List.set_getElem_self hlt
def DrwA (S : Hs) (i j : Nat) (row : List Int) (sd : Int) : Prop := ∃ a, Drw S i j row a sd
def Upd (i j : Nat) (sd : Int) (S S' : Hs) : Prop := ∃ a g, 0 ≤ a ∧ S' = S.set i (drawsO j a sd) ++ g
section
variable {i j : Nat} {row : List Int} {sd : Int} {S S1 S2 g : Hs}
theorem Upd.refl (h : DrwA S i j row sd) : Upd i j sd S S := by
  obtain ⟨a, h⟩ := h
  exact ⟨a, [], h.nn, by rw [set_same h.d]; simp⟩
theorem Upd.trans (h : DrwA S i j row sd) (u : Upd i j sd S S1) (v : Upd i j sd S1 S2) : Upd i j sd S S2 := by
  obtain ⟨_, h⟩ := h
  obtain ⟨a, g, ha, rfl⟩ := u
  obtain ⟨b, g', hb, rfl⟩ := v
  have hi : i < S.length := Real.lt h.d
  refine ⟨b, g ++ g', hb, ?_⟩
  rw [List.set_append_left _ _ (by simpa using hi), List.set_set, List.append_assoc]
theorem Upd.app (u : Upd i j sd S S1) : Upd i j sd S (S1 ++ g) := by
  obtain ⟨a, g', ha, rfl⟩ := u
  exact ⟨a, g' ++ g, ha, by rw [List.append_assoc]⟩
theorem Upd.new (h : DrwA S i j row sd) : Upd i j sd S (S ++ g) := (Upd.refl h).app
theorem Upd.get (u : Upd i j sd S S1) {k : Nat} {o : O} (h : S[k]? = some o) (hk : k ≠ i) : S1[k]? = some o := by
  obtain ⟨a, g', ha, rfl⟩ := u
  have hl : k < S.length := Real.lt h
  rw [List.getElem?_append_left (by simpa using hl), List.getElem?_set_ne (Ne.symm hk), h]
theorem Upd.drw (h : DrwA S i j row sd) (u : Upd i j sd S S1) : DrwA S1 i j row sd := by
  obtain ⟨_, h⟩ := h
  have hr := u.get h.r (Ne.symm h.ne)
  obtain ⟨a, g', ha, rfl⟩ := u
  have hi : i < S.length := Real.lt h.d
  exact ⟨a, by rw [List.getElem?_append_left (by simpa using hi)]; exact get_put h.d, hr, h.ne, ha⟩
theorem Upd.le (u : Upd i j sd S S1) : S.length ≤ S1.length := by
  obtain ⟨a, g', ha, rfl⟩ := u
  simp
theorem pick_ok (h : DrwA S i j row sd) {many : Int} (hm : 0 < many) : ∃ v S', S_pick [.ref i, .int many] S = .ok (.int v) S' ∧ Upd i j sd S S' ∧ 0 ≤ v ∧ v < many := by
  obtain ⟨a, h⟩ := h
  refine ⟨_, _, S_pick_eq h hm, ⟨a + 1, [], by have := h.nn; omega, by simp⟩, ?_, ?_⟩
  · exact Int.emod_nonneg _ (by omega)
  · exact Int.emod_lt_of_pos _ hm
theorem line_le {n : Nat} (h : n ≤ 1000000) : n ≤ sizeLine := Nat.le_trans h (by decide)
end
theorem oAdd_int {a b : Int} {S : Hs} : oAdd (.int a) (.int b) S = .ok (.int (a + b)) S := nr rfl
theorem oSub_int {a b : Int} {S : Hs} : oSub (.int a) (.int b) S = .ok (.int (a - b)) S := nr rfl
theorem oLt_int {a b : Int} {S : Hs} : oLt (.int a) (.int b) S = .ok (.bl (decide (a < b))) S := nr rfl
theorem oEq_int {a b : Int} {S : Hs} : oEq (.int a) (.int b) S = .ok (.bl (decide (a = b))) S := nr rfl
theorem oNe_int {a b : Int} {S : Hs} : oNe (.int a) (.int b) S = .ok (.bl (!decide (a = b))) S := nr rfl
theorem oEq_str {a b : Str} {S : Hs} : oEq (.str a) (.str b) S = .ok (.bl (decide (a = b))) S := nr rfl
theorem oNe_str {a b : Str} {S : Hs} : oNe (.str a) (.str b) S = .ok (.bl (!decide (a = b))) S := nr rfl
end Ly
set_option Elab.async false
set_option linter.all false
set_option maxRecDepth 100000
namespace Ly
open PySem PySem.Spec L2
open PyProof.Rows hiding St
abbrev XP := V → Option (List (Str × D)) → Ls → Hs → Prop
def WpD {α : Type} (X : XP) (r : R α) (Q : α → Hs → Prop) : Prop := match r with
  | .ok a S => Q a S
  | .exc c fs l S => X c fs l S
  | .bad => False
structure Wp {α : Type} (X : XP) (r : R α) (Q : α → Hs → Prop) : Prop where
  un : WpD X r Q
def NoX : XP := fun _ _ _ _ => False
theorem Wp.mono {α : Type} {X X' : XP} {r : R α} {P Q : α → Hs → Prop} (h : Wp X r P) (hx : ∀ c fs l S, X c fs l S → X' c fs l S) (k : ∀ v S, P v S → Q v S) : Wp X' r Q := by
  cases r with
  | ok a S => exact ⟨k a S h.un⟩
  | exc c fs l S => exact ⟨hx c fs l S h.un⟩
  | bad => exact h.un.elim
theorem Wp.call {α : Type} {X : XP} {r : R α} {P Q : α → Hs → Prop} (h : Wp NoX r P) (k : ∀ v S, P v S → Q v S) : Wp X r Q := h.mono (fun _ _ _ _ h => h.elim) k
theorem Wp.ex {α : Type} {r : R α} {P : α → Hs → Prop} (h : Wp NoX r P) : ∃ v S, r = .ok v S ∧ P v S := by
  cases r with
  | ok a S => exact ⟨a, S, rfl, h.un⟩
  | exc c fs l S => exact h.un.elim
  | bad => exact h.un.elim
theorem Wp.of {α : Type} {X : XP} {r : R α} {P : α → Hs → Prop} {v : α} {S : Hs} (e : r = .ok v S) (h : P v S) : Wp X r P := by rw [e]; exact ⟨h⟩
def atX (X : XP) (l : Ls) : XP := fun c fs _ S => X c fs l S
section
variable {α β : Type} {X : XP}
theorem v_ok {a : α} {S : Hs} {Q : α → Hs → Prop} : Wp X (.ok a S) Q = Q a S := propext ⟨fun h => h.un, fun h => ⟨h⟩⟩
theorem v_bad {Q : α → Hs → Prop} : Wp X (.bad) Q = False := propext ⟨fun h => h.un, fun h => h.elim⟩
theorem v_exc {c : V} {fs : Option (List (Str × D))} {l : Ls} {S : Hs} {Q : α → Hs → Prop} : Wp X (.exc c fs l S) Q = X c fs l S := propext ⟨fun h => h.un, fun h => ⟨h⟩⟩
def bdK (X : XP) (k : α → Hs → R β) (Q : β → Hs → Prop) : α → Hs → Prop := fun a S => Wp X (k a S) Q
theorem v_bind {r : R α} {k : α → Hs → R β} {Q : β → Hs → Prop} : Wp X (r.bind k) Q = Wp X r (bdK X k Q) := by cases r <;> simp only [R.bind, v_ok, v_bad, v_exc] <;> rfl
theorem k_bd {k : α → Hs → R β} {Q : β → Hs → Prop} {a : α} {S : Hs} : bdK X k Q a S = Wp X (k a S) Q := nr rfl
theorem v_at {r : R α} {l : Ls} {Q : α → Hs → Prop} : Wp X (r.at l) Q = Wp (atX X l) r Q := by cases r <;> simp only [R.at, v_ok, v_bad, v_exc] <;> rfl
end
section
variable {X : XP} {f g h : M} {fl : ML} {c c2 : MB} {b b2 : MS} {gg : MG} {gs : MGs} {l : Ls} {S : Hs} {i n : Nat} {d x y : D} {ds : List D} {md : MD} {op2 : D → D → Hs → R D} {op1 : D → Hs → R D} {opn : List D → Hs → R D} {opm : D → List D → Hs → R D} {T : String} {it : MI} {lo hi : MO} {t : Bool}
section
variable {Q : D → Hs → Prop}
def biK (X : XP) (op : D → D → Hs → R D) (g : M) (l : Ls) (Q : D → Hs → Prop) : D → Hs → Prop := fun x S => Wp X (g l S) fun y S2 => Wp X (op x y S2) Q
def biK2 (X : XP) (op : D → D → Hs → R D) (x : D) (Q : D → Hs → Prop) : D → Hs → Prop := fun y S => Wp X (op x y S) Q
theorem v_bin : Wp X (mBin op2 f g l S) Q = Wp X (f l S) (biK X op2 g l Q) := by
  unfold mBin; rw [v_bind]; congr 1; funext x S1; unfold bdK biK; simp only [v_bind]; first | rfl | (congr 1; funext _ _; exact v_ok)
theorem k_bi : biK X op2 g l Q x S = Wp X (g l S) (biK2 X op2 x Q) := nr rfl
theorem k_bi2 : biK2 X op2 x Q y S = Wp X (op2 x y S) Q := nr rfl
theorem v_var : Wp X (mVar i l S) Q = match l[i]? with | some (some d) => Q d S | _ => False := by
  unfold mVar; cases l[i]? with
  | none => exact v_bad
  | some o =>
    cases o with
    | none => exact v_bad
    | some d => exact v_ok
theorem v_c : Wp X (mC d l S) Q = Q d S := v_ok
def unK (X : XP) (op : D → Hs → R D) (Q : D → Hs → Prop) : D → Hs → Prop := fun x S => Wp X (op x S) Q
theorem v_un : Wp X (mUn op1 f l S) Q = Wp X (f l S) (unK X op1 Q) := by unfold mUn; rw [v_bind]; first | rfl | (congr 1; funext _ _; exact v_ok)
theorem k_un : unK X op1 Q x S = Wp X (op1 x S) Q := nr rfl
def ifeK (X : XP) (f g : M) (l : Ls) (Q : D → Hs → Prop) : Bool → Hs → Prop := fun t S => if t = true then Wp X (f l S) Q else Wp X (g l S) Q
theorem v_if : Wp X (mIf c f g l S) Q = Wp X (c l S) (ifeK X f g l Q) := by
  unfold mIf; rw [v_bind]; congr 1; funext t S1; unfold bdK ifeK; cases t <;> first | rfl | exact v_bad | exact v_ok
theorem k_ife : ifeK X f g l Q t S = if t = true then Wp X (f l S) Q else Wp X (g l S) Q := nr rfl
def andK (X : XP) (g : M) (l : Ls) (Q : D → Hs → Prop) : D → Hs → Prop := fun x S => Wp X (oTru x S) fun t S1 => if t = true then Wp X (g l S1) Q else Q x S1
def andK2 (X : XP) (x : D) (g : M) (l : Ls) (Q : D → Hs → Prop) : Bool → Hs → Prop := fun t S1 => if t = true then Wp X (g l S1) Q else Q x S1
theorem v_and : Wp X (mAnd f g l S) Q = Wp X (f l S) (andK X g l Q) := by
  unfold mAnd; rw [v_bind]; congr 1; funext x S1; unfold bdK andK; simp only [v_bind]; congr 1; funext t S2; unfold bdK; cases t <;> first | rfl | exact v_bad | exact v_ok
theorem k_and : andK X g l Q x S = Wp X (oTru x S) (andK2 X x g l Q) := nr rfl
theorem k_and2 : andK2 X x g l Q t S = if t = true then Wp X (g l S) Q else Q x S := nr rfl
def orK (X : XP) (g : M) (l : Ls) (Q : D → Hs → Prop) : D → Hs → Prop := fun x S => Wp X (oTru x S) fun t S1 => if t = true then Q x S1 else Wp X (g l S1) Q
def orK2 (X : XP) (x : D) (g : M) (l : Ls) (Q : D → Hs → Prop) : Bool → Hs → Prop := fun t S1 => if t = true then Q x S1 else Wp X (g l S1) Q
theorem v_or : Wp X (mOr f g l S) Q = Wp X (f l S) (orK X g l Q) := by
  unfold mOr; rw [v_bind]; congr 1; funext x S1; unfold bdK orK; simp only [v_bind]; congr 1; funext t S2; unfold bdK; cases t <;> first | rfl | exact v_bad | exact v_ok
theorem k_or : orK X g l Q x S = Wp X (oTru x S) (orK2 X x g l Q) := nr rfl
theorem k_or2 : orK2 X x g l Q t S = if t = true then Q x S else Wp X (g l S) Q := nr rfl
def tupK (Q : D → Hs → Prop) : List D → Hs → Prop := fun ds S => ds.length ≤ sizeLine ∧ Q (.tup ds) S
theorem v_tup : Wp X (mTup fl l S) Q = Wp X (fl l S) (tupK Q) := by
  unfold mTup; rw [v_bind]; congr 1; funext ds S1; unfold bdK tupK; by_cases h : ds.length ≤ sizeLine
  · simp [h, v_ok]
  · simp [h, v_bad]
theorem k_tup : tupK Q ds S = (ds.length ≤ sizeLine ∧ Q (.tup ds) S) := nr rfl
def lstK (Q : D → Hs → Prop) : List D → Hs → Prop := fun ds S => ds.length ≤ sizeLine ∧ Q (.ref S.length) (S ++ [.lst ds])
theorem v_lst : Wp X (mLst fl l S) Q = Wp X (fl l S) (lstK Q) := by
  unfold mLst; rw [v_bind]; congr 1; funext ds S1; unfold bdK lstK; by_cases h : ds.length ≤ sizeLine
  · simp [h, v_ok]
  · simp [h, v_bad]
theorem k_lst : lstK Q ds S = (ds.length ≤ sizeLine ∧ Q (.ref S.length) (S ++ [.lst ds])) := nr rfl
def caK (X : XP) (op : List D → Hs → R D) (Q : D → Hs → Prop) : List D → Hs → Prop := fun ds S => Wp X (op ds S) Q
theorem v_call : Wp X (mCall opn fl l S) Q = Wp X (fl l S) (caK X opn Q) := by unfold mCall; rw [v_bind]; first | rfl | (congr 1; funext _ _; exact v_ok)
theorem k_ca : caK X opn Q ds S = Wp X (opn ds S) Q := nr rfl
def fnK (X : XP) (md : MD) (l : Ls) (Q : D → Hs → Prop) : List D → Hs → Prop := fun ds S => Wp (atX X l) (md ds S) Q
theorem v_fn : Wp X (mFn md fl l S) Q = Wp X (fl l S) (fnK X md l Q) := by
  unfold mFn; rw [v_bind]; congr 1; funext ds S1; unfold bdK fnK; rw [v_at]
theorem k_fn : fnK X md l Q ds S = Wp (atX X l) (md ds S) Q := nr rfl
def bmK (X : XP) (T : String) (op : D → List D → Hs → R D) (fl : ML) (l : Ls) (Q : D → Hs → Prop) : D → Hs → Prop := fun x S => hasTy T x S = true ∧ Wp X (fl l S) fun ds S1 => Wp X (op x ds S1) Q
def bmK2 (X : XP) (op : D → List D → Hs → R D) (x : D) (Q : D → Hs → Prop) : List D → Hs → Prop := fun ds S1 => Wp X (op x ds S1) Q
theorem v_bm : Wp X (mBM T opm f fl l S) Q = Wp X (f l S) (bmK X T opm fl l Q) := by
  unfold mBM; rw [v_bind]; congr 1; funext x S1; unfold bdK bmK
  by_cases h : hasTy T x S1 = true
  · simp only [h, true_and, if_true, v_bind]; rfl
  · simp [h, v_bad]
theorem k_bm : bmK X T opm fl l Q x S = (hasTy T x S = true ∧ Wp X (fl l S) (bmK2 X opm x Q)) := nr rfl
theorem k_bm2 : bmK2 X opm x Q ds S = Wp X (opm x ds S) Q := nr rfl
def slK (X : XP) (lo hi : MO) (l : Ls) (Q : D → Hs → Prop) : D → Hs → Prop := fun x S => Wp X (lo l S) fun a S1 => Wp X (hi l S1) fun b S2 => Wp X (oSl x a b S2) Q
def slK2 (X : XP) (x : D) (hi : MO) (l : Ls) (Q : D → Hs → Prop) : Option Int → Hs → Prop := fun a S1 => Wp X (hi l S1) fun b S2 => Wp X (oSl x a b S2) Q
def slK3 (X : XP) (x : D) (a : Option Int) (Q : D → Hs → Prop) : Option Int → Hs → Prop := fun b S2 => Wp X (oSl x a b S2) Q
theorem v_sl : Wp X (mSl f lo hi l S) Q = Wp X (f l S) (slK X lo hi l Q) := by
  unfold mSl; rw [v_bind]; congr 1; funext x S1; unfold bdK slK; rw [v_bind]; congr 1; funext a S2; unfold bdK; rw [v_bind]; first | rfl | (congr 1; funext _ _; exact v_ok)
theorem k_sl : slK X lo hi l Q x S = Wp X (lo l S) (slK2 X x hi l Q) := nr rfl
variable {oa ob : Option Int}
theorem k_sl2 : slK2 X x hi l Q oa S = Wp X (hi l S) (slK3 X x oa Q) := nr rfl
theorem k_sl3 : slK3 X x oa Q ob S = Wp X (oSl x oa ob S) Q := nr rfl
variable {tbl : List (Str × D)}
def ixkK (tbl : List (Str × D)) (Q : D → Hs → Prop) : D → Hs → Prop := fun x S => match x with
  | .str z => match tbl.lookup z with
    | some d => Q d S
    | none => False
  | _ => False
theorem v_ixK : Wp X (mIxK tbl f l S) Q = Wp X (f l S) (ixkK tbl Q) := by
  unfold mIxK; rw [v_bind]; congr 1; funext x S1; unfold bdK ixkK
  cases x <;> try (first | rfl | exact v_bad | exact v_ok)
  rename_i z
  simp only []
  cases tbl.lookup z <;> first | rfl | exact v_bad | exact v_ok
theorem k_ixk {z : Str} : ixkK tbl Q (.str z) S = match tbl.lookup z with | some d => Q d S | none => False := nr rfl
def inkK (tbl : List (Str × D)) (Q : D → Hs → Prop) : D → Hs → Prop := fun x S => match x with
  | .str z => Q (.bl (tbl.lookup z).isSome) S
  | _ => False
theorem v_inK : Wp X (mInK tbl f l S) Q = Wp X (f l S) (inkK tbl Q) := by
  unfold mInK; rw [v_bind]; congr 1; funext x S1; unfold bdK inkK; cases x <;> first | rfl | exact v_bad | exact v_ok
theorem k_ink {z : Str} : inkK tbl Q (.str z) S = Q (.bl (tbl.lookup z).isSome) S := nr rfl
def ninkK (tbl : List (Str × D)) (Q : D → Hs → Prop) : D → Hs → Prop := fun x S => match x with
  | .str z => Q (.bl (!(tbl.lookup z).isSome)) S
  | _ => False
theorem v_notinK : Wp X (mNotInK tbl f l S) Q = Wp X (f l S) (ninkK tbl Q) := by
  unfold mNotInK; rw [v_bind]; congr 1; funext x S1; unfold bdK ninkK; cases x <;> first | rfl | exact v_bad | exact v_ok
theorem k_nink {z : Str} : ninkK tbl Q (.str z) S = Q (.bl (!(tbl.lookup z).isSome)) S := nr rfl
def gk2K (X : XP) (tbl : List (Str × D)) (g : M) (l : Ls) (Q : D → Hs → Prop) : D → Hs → Prop := fun x S => match x with
  | .str z => Wp X (g l S) fun y S2 => (match tbl.lookup z with | some d => Q d S2 | none => Q y S2)
  | _ => False
theorem v_getK2 : Wp X (mGetK2 tbl f g l S) Q = Wp X (f l S) (gk2K X tbl g l Q) := by
  unfold mGetK2; rw [v_bind]; congr 1; funext x S1; unfold bdK gk2K; cases x <;> try (first | rfl | exact v_bad | exact v_ok)
  rename_i z
  simp only [v_bind]; congr 1; funext y S2; unfold bdK; cases tbl.lookup z <;> first | rfl | exact v_bad | exact v_ok
def gkK (tbl : List (Str × D)) (z : Str) (Q : D → Hs → Prop) : D → Hs → Prop := fun y S2 => match tbl.lookup z with | some d => Q d S2 | none => Q y S2
theorem k_gk2 {z : Str} : gk2K X tbl g l Q (.str z) S = Wp X (g l S) (gkK tbl z Q) := nr rfl
theorem k_gk {z : Str} : gkK tbl z Q y S = match tbl.lookup z with | some d => Q d S | none => Q y S := nr rfl
def g2K (X : XP) (g h : M) (l : Ls) (Q : D → Hs → Prop) : D → Hs → Prop := fun x S => hasTy "dict" x S = true ∧ Wp X (g l S) fun y S2 => Wp X (h l S2) fun z S3 => match dGet x y S3 with
  | some (some d) => Q d S3
  | some none => Q z S3
  | none => False
def g2K2 (X : XP) (x : D) (h : M) (l : Ls) (Q : D → Hs → Prop) : D → Hs → Prop := fun y S2 => Wp X (h l S2) fun z S3 => match dGet x y S3 with
  | some (some d) => Q d S3
  | some none => Q z S3
  | none => False
def g2K3 (x y : D) (Q : D → Hs → Prop) : D → Hs → Prop := fun z S3 => match dGet x y S3 with
  | some (some d) => Q d S3
  | some none => Q z S3
  | none => False
theorem v_get2 : Wp X (mGet2 f g h l S) Q = Wp X (f l S) (g2K X g h l Q) := by
  unfold mGet2; rw [v_bind]; congr 1; funext x S1; unfold bdK g2K
  by_cases hh : hasTy "dict" x S1 = true
  · simp only [hh, true_and, if_true, v_bind]; congr 1; funext y S2; unfold bdK; rw [v_bind]; congr 1; funext z S3; unfold bdK; simp only []
    cases dGet x y S3 with
    | none => first | rfl | exact v_bad | exact v_ok
    | some o => cases o <;> first | rfl | exact v_bad | exact v_ok
  · simp [hh, v_bad]
theorem k_g2 : g2K X g h l Q x S = (hasTy "dict" x S = true ∧ Wp X (g l S) (g2K2 X x h l Q)) := nr rfl
theorem k_g22 : g2K2 X x h l Q y S = Wp X (h l S) (g2K3 x y Q) := nr rfl
theorem k_g23 {z : D} : g2K3 x y Q z S = match dGet x y S with | some (some d) => Q d S | some none => Q z S | none => False := nr rfl
end
section
variable {Q : List D → Hs → Prop}
theorem v_nil : Wp X (lNil l S) Q = Q [] S := v_ok
def coK (X : XP) (fl : ML) (l : Ls) (Q : List D → Hs → Prop) : D → Hs → Prop := fun x S => Wp X (fl l S) fun xs S2 => Q (x :: xs) S2
def coK2 (x : D) (Q : List D → Hs → Prop) : List D → Hs → Prop := fun xs S2 => Q (x :: xs) S2
theorem v_cons : Wp X (lCons f fl l S) Q = Wp X (f l S) (coK X fl l Q) := by
  unfold lCons; rw [v_bind]; congr 1; funext x S1; unfold bdK coK; rw [v_bind]; first | rfl | (congr 1; funext _ _; exact v_ok)
theorem k_co : coK X fl l Q x S = Wp X (fl l S) (coK2 x Q) := nr rfl
theorem k_co2 : coK2 x Q ds S = Q (x :: ds) S := nr rfl
end
section
variable {Q : Option Int → Hs → Prop}
theorem v_no : Wp X (oNo l S) Q = Q none S := v_ok
def soK (Q : Option Int → Hs → Prop) : D → Hs → Prop := fun d S => match d with
  | .int i => Q (some i) S
  | _ => False
theorem v_some : Wp X (oSome f l S) Q = Wp X (f l S) (soK Q) := by
  unfold oSome; rw [v_bind]; congr 1; funext d S1; unfold bdK soK; cases d <;> first | rfl | exact v_bad | exact v_ok
theorem k_so {j : Int} : soK Q (.int j) S = Q (some j) S := nr rfl
end
section
variable {Q : Bool → Hs → Prop}
def cmK (Q : Bool → Hs → Prop) : D → Hs → Prop := fun d S => match d with
  | .bl b => Q b S
  | _ => False
theorem k_cm {b : Bool} : cmK Q (.bl b) S = Q b S := nr rfl
theorem v_cmp : Wp X (mCmp op2 f g l S) Q = Wp X (f l S) (biK X op2 g l (cmK Q)) := by
  unfold mCmp; rw [v_bind]; congr 1; funext x S1; unfold bdK biK; rw [v_bind]; congr 1; funext y S2; unfold bdK; rw [v_bind]; congr 1; funext d S3; unfold bdK cmK; cases d <;> first | rfl | exact v_bad | exact v_ok
def trK (X : XP) (Q : Bool → Hs → Prop) : D → Hs → Prop := fun d S => Wp X (oTru d S) Q
theorem v_tru : Wp X (mTru f l S) Q = Wp X (f l S) (trK X Q) := by unfold mTru; rw [v_bind]; first | rfl | (congr 1; funext _ _; exact v_ok)
theorem k_tr : trK X Q d S = Wp X (oTru d S) Q := nr rfl
def noK (Q : Bool → Hs → Prop) : Bool → Hs → Prop := fun b S => Q (!b) S
theorem v_notB : Wp X (mNotB c l S) Q = Wp X (c l S) (noK Q) := by unfold mNotB; rw [v_bind]; first | rfl | (congr 1; funext _ _; exact v_ok)
theorem k_no : noK Q t S = Q (!t) S := nr rfl
def anK (X : XP) (c2 : MB) (l : Ls) (Q : Bool → Hs → Prop) : Bool → Hs → Prop := fun b S => if b = true then Wp X (c2 l S) Q else Q false S
theorem v_andB : Wp X (mAndB c c2 l S) Q = Wp X (c l S) (anK X c2 l Q) := by
  unfold mAndB; rw [v_bind]; congr 1; funext b S1; unfold bdK anK; cases b <;> first | rfl | exact v_bad | exact v_ok
theorem k_an : anK X c2 l Q t S = if t = true then Wp X (c2 l S) Q else Q false S := nr rfl
def orbK (X : XP) (c2 : MB) (l : Ls) (Q : Bool → Hs → Prop) : Bool → Hs → Prop := fun b S => if b = true then Q true S else Wp X (c2 l S) Q
theorem v_orB : Wp X (mOrB c c2 l S) Q = Wp X (c l S) (orbK X c2 l Q) := by
  unfold mOrB; rw [v_bind]; congr 1; funext b S1; unfold bdK orbK; cases b <;> first | rfl | exact v_bad | exact v_ok
theorem k_orb : orbK X c2 l Q t S = if t = true then Q true S else Wp X (c2 l S) Q := nr rfl
theorem v_yes : Wp X (mYes l S) Q = Q true S := v_ok
variable {tbl : List (Str × D)}
def inkBK (tbl : List (Str × D)) (Q : Bool → Hs → Prop) : D → Hs → Prop := fun x S => match x with
  | .str z => Q (tbl.lookup z).isSome S
  | _ => False
theorem v_inKB : Wp X (mInKB tbl f l S) Q = Wp X (f l S) (inkBK tbl Q) := by
  unfold mInKB; rw [v_bind]; congr 1; funext x S1; unfold bdK inkBK; cases x <;> first | rfl | exact v_bad | exact v_ok
theorem k_inkB {z : Str} : inkBK tbl Q (.str z) S = Q (tbl.lookup z).isSome S := nr rfl
def ninkBK (tbl : List (Str × D)) (Q : Bool → Hs → Prop) : D → Hs → Prop := fun x S => match x with
  | .str z => Q (!(tbl.lookup z).isSome) S
  | _ => False
theorem v_notinKB : Wp X (mNotInKB tbl f l S) Q = Wp X (f l S) (ninkBK tbl Q) := by
  unfold mNotInKB; rw [v_bind]; congr 1; funext x S1; unfold bdK ninkBK; cases x <;> first | rfl | exact v_bad | exact v_ok
theorem k_ninkB {z : Str} : ninkBK tbl Q (.str z) S = Q (!(tbl.lookup z).isSome) S := nr rfl
end
section
variable {Q : F → Hs → Prop} {l1 : Ls}
def stK (i : Nat) (l : Ls) (Q : F → Hs → Prop) : D → Hs → Prop := fun d S => Q (.nx (l.set i (some d))) S
theorem v_set : Wp X (mSet i f l S) Q = Wp X (f l S) (stK i l Q) := by unfold mSet; rw [v_bind]; first | rfl | (congr 1; funext _ _; exact v_ok)
theorem k_st : stK i l Q d S = Q (.nx (l.set i (some d))) S := nr rfl
def exK (l : Ls) (Q : F → Hs → Prop) : D → Hs → Prop := fun _ S => Q (.nx l) S
theorem v_expr : Wp X (mExpr f l S) Q = Wp X (f l S) (exK l Q) := by unfold mExpr; rw [v_bind]; first | rfl | (congr 1; funext _ _; exact v_ok)
theorem k_ex : exK l Q d S = Q (.nx l) S := nr rfl
def reK (Q : F → Hs → Prop) : D → Hs → Prop := fun d S => Q (.rt d) S
theorem v_ret : Wp X (mRet f l S) Q = Wp X (f l S) (reK Q) := by unfold mRet; rw [v_bind]; first | rfl | (congr 1; funext _ _; exact v_ok)
theorem k_re : reK Q d S = Q (.rt d) S := nr rfl
theorem v_retN : Wp X (mRetN l S) Q = Q (.rt .non) S := v_ok
theorem v_pass : Wp X (mPass l S) Q = Q (.nx l) S := v_ok
theorem v_brk : Wp X (mBrk l S) Q = Q (.bk l) S := v_ok
theorem v_cnt : Wp X (mCnt l S) Q = Q (.ct l) S := v_ok
def sqK (X : XP) (b2 : MS) (Q : F → Hs → Prop) : F → Hs → Prop := fun r S => match r with
  | .nx l1 => Wp X (b2 l1 S) Q
  | r => Q r S
theorem v_seq : Wp X (mSeq b b2 l S) Q = Wp X (b l S) (sqK X b2 Q) := by
  unfold mSeq; rw [v_bind]; congr 1; funext r S1; unfold bdK sqK; cases r <;> first | rfl | exact v_bad | exact v_ok
theorem k_sq_nx : sqK X b2 Q (.nx l1) S = Wp X (b2 l1 S) Q := nr rfl
theorem k_sq_rt : sqK X b2 Q (.rt d) S = Q (.rt d) S := nr rfl
theorem k_sq_bk : sqK X b2 Q (.bk l1) S = Q (.bk l1) S := nr rfl
theorem k_sq_ct : sqK X b2 Q (.ct l1) S = Q (.ct l1) S := nr rfl
def ifsK (X : XP) (b b2 : MS) (l : Ls) (Q : F → Hs → Prop) : Bool → Hs → Prop := fun t S => if t = true then Wp X (b l S) Q else Wp X (b2 l S) Q
theorem v_ifS : Wp X (mIfS c b b2 l S) Q = Wp X (c l S) (ifsK X b b2 l Q) := by
  unfold mIfS; rw [v_bind]; congr 1; funext t S1; unfold bdK ifsK; cases t <;> first | rfl | exact v_bad | exact v_ok
theorem k_ifs : ifsK X b b2 l Q t S = if t = true then Wp X (b l S) Q else Wp X (b2 l S) Q := nr rfl
def asK (X : XP) (gg : MG) (l : Ls) (Q : F → Hs → Prop) : D → Hs → Prop := fun d S => Wp X (gg d l S) fun l1 S2 => Q (.nx l1) S2
def asK2 (Q : F → Hs → Prop) : Ls → Hs → Prop := fun l1 S2 => Q (.nx l1) S2
theorem v_asg : Wp X (mAsg f gg l S) Q = Wp X (f l S) (asK X gg l Q) := by
  unfold mAsg; rw [v_bind]; congr 1; funext d S1; unfold bdK asK; rw [v_bind]; first | rfl | (congr 1; funext _ _; exact v_ok)
theorem k_as : asK X gg l Q d S = Wp X (gg d l S) (asK2 Q) := nr rfl
theorem k_as2 : asK2 Q l1 S = Q (.nx l1) S := nr rfl
def auK (X : XP) (i : Nat) (l : Ls) (op : D → D → Hs → R D) (x : D) (Q : F → Hs → Prop) : D → Hs → Prop := fun y S => Wp X (op x y S) (stK i l Q)
theorem v_aug : Wp X (mAug i op2 f l S) Q = match l[i]? with | some (some x) => Wp X (f l S) (auK X i l op2 x Q) | _ => False := by
  unfold mAug; cases l[i]? with
  | none => first | rfl | exact v_bad | exact v_ok
  | some o =>
    cases o with
    | none => first | rfl | exact v_bad | exact v_ok
    | some x => simp only [v_bind]; congr 1; funext y S1; unfold bdK auK; simp only [v_bind]; first | rfl | (congr 1; funext _ _; exact v_ok)
theorem k_au : auK X i l op2 x Q y S = Wp X (op2 x y S) (stK i l Q) := nr rfl
def foK (X : XP) (gg : MG) (b : MS) (l : Ls) (Q : F → Hs → Prop) : J → Hs → Prop := fun j S => Wp X (fLoop j gg b 0 l S) Q
theorem v_for : Wp X (mFor it gg b l S) Q = Wp X (it l S) (foK X gg b l Q) := by unfold mFor; rw [v_bind]; first | rfl | (congr 1; funext _ _; exact v_ok)
theorem k_fo {j : J} : foK X gg b l Q j S = Wp X (fLoop j gg b 0 l S) Q := nr rfl
end
section
variable {Q : J → Hs → Prop}
def itK (X : XP) (Q : J → Hs → Prop) : D → Hs → Prop := fun d S => Wp X (oIt d S) Q
theorem v_it : Wp X (mIt f l S) Q = Wp X (f l S) (itK X Q) := by unfold mIt; rw [v_bind]; first | rfl | (congr 1; funext _ _; exact v_ok)
theorem k_it : itK X Q d S = Wp X (oIt d S) Q := nr rfl
variable {op : List D → Hs → R J}
def ijK (X : XP) (op : List D → Hs → R J) (Q : J → Hs → Prop) : List D → Hs → Prop := fun ds S => Wp X (op ds S) Q
theorem k_ij : ijK X op Q ds S = Wp X (op ds S) Q := nr rfl
theorem v_rng1 : Wp X (mRng1 fl l S) Q = Wp X (fl l S) (ijK X oRng1 Q) := by unfold mRng1; rw [v_bind]; first | rfl | (congr 1; funext _ _; exact v_ok)
theorem v_rng2 : Wp X (mRng2 fl l S) Q = Wp X (fl l S) (ijK X oRng2 Q) := by unfold mRng2; rw [v_bind]; first | rfl | (congr 1; funext _ _; exact v_ok)
theorem v_enum : Wp X (mEnum fl l S) Q = Wp X (fl l S) (ijK X oEnum Q) := by unfold mEnum; rw [v_bind]; first | rfl | (congr 1; funext _ _; exact v_ok)
theorem v_ez : Wp X (mEz fl l S) Q = Wp X (fl l S) (ijK X oEz Q) := by unfold mEz; rw [v_bind]; first | rfl | (congr 1; funext _ _; exact v_ok)
theorem v_zip : Wp X (mZip fl l S) Q = Wp X (fl l S) (ijK X oZip Q) := by unfold mZip; rw [v_bind]; first | rfl | (congr 1; funext _ _; exact v_ok)
end
section
variable {Q : Ls → Hs → Prop}
theorem v_gN : Wp X (gN i d l S) Q = Q (l.set i (some d)) S := v_ok
theorem v_gsN : Wp X (gsN [] l S) Q = Q l S := v_ok
def gcK (X : XP) (gs : MGs) (ds : List D) (Q : Ls → Hs → Prop) : Ls → Hs → Prop := fun l1 S => Wp X (gs ds l1 S) Q
theorem v_gsC : Wp X (gsC gg gs (d :: ds) l S) Q = Wp X (gg d l S) (gcK X gs ds Q) := by show Wp X (R.bind _ _) Q = _; rw [v_bind]; first | rfl | (congr 1; funext _ _; exact v_ok)
theorem k_gc : gcK X gs ds Q l S = Wp X (gs ds l S) Q := nr rfl
theorem v_gT : Wp X (gT n gs (.tup ds) l S) Q = (ds.length = n ∧ Wp X (gs ds l S) Q) := by
  unfold gT; by_cases h : ds.length = n
  · simp [h]
  · simp [h, v_bad]
theorem v_gTw : Wp X (gT n gs (.wt ds) l S) Q = (ds.length = n ∧ Wp X (gs ds l S) Q) := by
  unfold gT; by_cases h : ds.length = n
  · simp [h]
  · simp [h, v_bad]
def gsbK (X : XP) (g : M) (d : D) (l : Ls) (Q : Ls → Hs → Prop) : D → Hs → Prop := fun x S => Wp X (g l S) fun y S2 => Wp X (oSet x y d S2) fun _ S3 => Q l S3
def gsbK2 (X : XP) (x d : D) (l : Ls) (Q : Ls → Hs → Prop) : D → Hs → Prop := fun y S2 => Wp X (oSet x y d S2) fun _ S3 => Q l S3
def gsbK3 (l : Ls) (Q : Ls → Hs → Prop) : Unit → Hs → Prop := fun _ S3 => Q l S3
theorem v_gSb : Wp X (gSb f g d l S) Q = Wp X (f l S) (gsbK X g d l Q) := by
  unfold gSb; rw [v_bind]; congr 1; funext x S1; unfold bdK gsbK; rw [v_bind]; congr 1; funext y S2; unfold bdK; rw [v_bind]; first | rfl | (congr 1; funext _ _; exact v_ok)
theorem k_gsb : gsbK X g d l Q x S = Wp X (g l S) (gsbK2 X x d l Q) := nr rfl
theorem k_gsb2 : gsbK2 X x d l Q y S = Wp X (oSet x y d S) (gsbK3 l Q) := nr rfl
theorem k_gsb3 {u : Unit} : gsbK3 l Q u S = Q l S := nr rfl
end
end
section
variable {X : XP} {f g h : M} {l : Ls} {S : Hs} {op2 : D → D → Hs → R D} {x y z : D} {it : MI} {gl : CG} {tt : MB} {tk tv : M} {vs : List Nat}
section
variable {Q : F → Hs → Prop}
def agK (X : XP) (op : D → D → Hs → R D) (g h : M) (l : Ls) (Q : F → Hs → Prop) : D → Hs → Prop := fun x S1 => Wp X (g l S1) fun y S2 => match dGet x y S2 with
  | some (some z) => Wp X (h l S2) fun w S3 => Wp X (op z w S3) fun d S4 => isDic x S4 = true ∧ Wp X (oSet x y d S4) fun _ S5 => Q (.nx l) S5
  | _ => False
def agK2 (X : XP) (op : D → D → Hs → R D) (h : M) (x : D) (l : Ls) (Q : F → Hs → Prop) : D → Hs → Prop := fun y S2 => match dGet x y S2 with
  | some (some z) => Wp X (h l S2) fun w S3 => Wp X (op z w S3) fun d S4 => isDic x S4 = true ∧ Wp X (oSet x y d S4) fun _ S5 => Q (.nx l) S5
  | _ => False
def agK3 (X : XP) (op : D → D → Hs → R D) (x y z : D) (l : Ls) (Q : F → Hs → Prop) : D → Hs → Prop := fun w S3 => Wp X (op z w S3) fun d S4 => isDic x S4 = true ∧ Wp X (oSet x y d S4) fun _ S5 => Q (.nx l) S5
def agK4 (X : XP) (x y : D) (l : Ls) (Q : F → Hs → Prop) : D → Hs → Prop := fun d S4 => isDic x S4 = true ∧ Wp X (oSet x y d S4) fun _ S5 => Q (.nx l) S5
def agK5 (l : Ls) (Q : F → Hs → Prop) : Unit → Hs → Prop := fun _ S5 => Q (.nx l) S5
theorem v_augI : Wp X (mAugI op2 f g h l S) Q = Wp X (f l S) (agK X op2 g h l Q) := by
  unfold mAugI; rw [v_bind]; congr 1; funext x S1; unfold bdK agK; simp only [v_bind]; congr 1; funext y S2; unfold bdK; simp only []
  cases dGet x y S2 with
  | none => first | rfl | exact v_bad | exact v_ok
  | some o =>
    cases o with
    | none => first | rfl | exact v_bad | exact v_ok
    | some z =>
      simp only [v_bind]; congr 1; funext w S3; unfold bdK; simp only [v_bind]; congr 1; funext d S4; unfold bdK; simp only []
      by_cases hh : isDic x S4 = true
      · simp only [hh, if_true, true_and, v_bind]; first | rfl | (congr 1; funext _ _; exact v_ok)
      · simp [hh, v_bad]
theorem k_ag : agK X op2 g h l Q x S = Wp X (g l S) (agK2 X op2 h x l Q) := nr rfl
theorem k_ag2 : agK2 X op2 h x l Q y S = match dGet x y S with | some (some z) => Wp X (h l S) (agK3 X op2 x y z l Q) | _ => False := nr rfl
theorem k_ag3 {w : D} : agK3 X op2 x y z l Q w S = Wp X (op2 z w S) (agK4 X x y l Q) := nr rfl
theorem k_ag4 {w : D} : agK4 X x y l Q w S = (isDic x S = true ∧ Wp X (oSet x y w S) (agK5 l Q)) := nr rfl
theorem k_ag5 {u : Unit} : agK5 l Q u S = Q (.nx l) S := nr rfl
def dlK (X : XP) (g : M) (l : Ls) (Q : F → Hs → Prop) : D → Hs → Prop := fun x S1 => Wp X (g l S1) fun y S2 => Wp X (oDel x y S2) fun _ S3 => Q (.nx l) S3
def dlK2 (X : XP) (x : D) (l : Ls) (Q : F → Hs → Prop) : D → Hs → Prop := fun y S2 => Wp X (oDel x y S2) fun _ S3 => Q (.nx l) S3
theorem v_del : Wp X (mDel f g l S) Q = Wp X (f l S) (dlK X g l Q) := by
  unfold mDel; rw [v_bind]; congr 1; funext x S1; unfold bdK dlK; rw [v_bind]; congr 1; funext y S2; unfold bdK; rw [v_bind]; first | rfl | (congr 1; funext _ _; exact v_ok)
theorem k_dl : dlK X g l Q x S = Wp X (g l S) (dlK2 X x l Q) := nr rfl
theorem k_dl2 : dlK2 X x l Q y S = Wp X (oDel x y S) (agK5 l Q) := nr rfl
end
variable {Q : D → Hs → Prop}
def d3K (X : XP) (op : D → D → D → Hs → R D) (g h : M) (l : Ls) (Q : D → Hs → Prop) : D → Hs → Prop := fun x S1 => hasTy "dict" x S1 = true ∧ Wp X (g l S1) fun y S2 => Wp X (h l S2) fun z S3 => Wp X (op x y z S3) Q
def d3K2 (X : XP) (op : D → D → D → Hs → R D) (h : M) (x : D) (l : Ls) (Q : D → Hs → Prop) : D → Hs → Prop := fun y S2 => Wp X (h l S2) fun z S3 => Wp X (op x y z S3) Q
def d3K3 (X : XP) (op : D → D → D → Hs → R D) (x y : D) (Q : D → Hs → Prop) : D → Hs → Prop := fun z S3 => Wp X (op x y z S3) Q
theorem v_setd : Wp X (mSetd f g h l S) Q = Wp X (f l S) (d3K X oSetd g h l Q) := by
  unfold mSetd; rw [v_bind]; congr 1; funext x S1; unfold bdK d3K
  by_cases hh : hasTy "dict" x S1 = true
  · simp only [hh, true_and, if_true, v_bind]; congr 1; funext y S2; unfold bdK; rw [v_bind]; first | rfl | (congr 1; funext _ _; exact v_ok)
  · simp [hh, v_bad]
theorem v_pop2 : Wp X (mPop2 f g h l S) Q = Wp X (f l S) (d3K X oPop2 g h l Q) := by
  unfold mPop2; rw [v_bind]; congr 1; funext x S1; unfold bdK d3K
  by_cases hh : hasTy "dict" x S1 = true
  · simp only [hh, true_and, if_true, v_bind]; congr 1; funext y S2; unfold bdK; rw [v_bind]; first | rfl | (congr 1; funext _ _; exact v_ok)
  · simp [hh, v_bad]
variable {op3 : D → D → D → Hs → R D}
theorem k_d3 : d3K X op3 g h l Q x S = (hasTy "dict" x S = true ∧ Wp X (g l S) (d3K2 X op3 h x l Q)) := nr rfl
theorem k_d32 : d3K2 X op3 h x l Q y S = Wp X (h l S) (d3K3 X op3 x y Q) := nr rfl
theorem k_d33 : d3K3 X op3 x y Q z S = Wp X (op3 x y z S) Q := nr rfl
def g1K (X : XP) (g : M) (l : Ls) (Q : D → Hs → Prop) : D → Hs → Prop := fun x S => hasTy "dict" x S = true ∧ Wp X (g l S) fun y S2 => match dGet x y S2 with
  | some (some d) => Q d S2
  | some none => Q .non S2
  | none => False
def g1K2 (x : D) (Q : D → Hs → Prop) : D → Hs → Prop := fun y S2 => match dGet x y S2 with
  | some (some d) => Q d S2
  | some none => Q .non S2
  | none => False
theorem v_get1 : Wp X (mGet1 f g l S) Q = Wp X (f l S) (g1K X g l Q) := by
  unfold mGet1; rw [v_bind]; congr 1; funext x S1; unfold bdK g1K
  by_cases hh : hasTy "dict" x S1 = true
  · simp only [hh, true_and, if_true, v_bind]; congr 1; funext y S2; unfold bdK; simp only []
    cases dGet x y S2 with
    | none => first | rfl | exact v_bad | exact v_ok
    | some o => cases o <;> first | rfl | exact v_bad | exact v_ok
  · simp [hh, v_bad]
theorem k_g1 : g1K X g l Q x S = (hasTy "dict" x S = true ∧ Wp X (g l S) (g1K2 x Q)) := nr rfl
theorem k_g12 : g1K2 x Q y S = match dGet x y S with | some (some d) => Q d S | some none => Q .non S | none => False := nr rfl
variable {opr : Int → Int → Hs → R D}
def rgK (X : XP) (op : Int → Int → Hs → R D) (Q : D → Hs → Prop) : D → Hs → Prop := fun x S => Wp X (rg1 op [x] S) Q
theorem v_rg1 : Wp X (mRg1 opr f l S) Q = Wp X (f l S) (rgK X opr Q) := by unfold mRg1; rw [v_bind]; first | rfl | (congr 1; funext _ _; exact v_ok)
theorem k_rg {n : Int} : rgK X opr Q (.int n) S = Wp X (opr 0 n S) Q := nr rfl
def rg2K (X : XP) (op : Int → Int → Hs → R D) (g : M) (l : Ls) (Q : D → Hs → Prop) : D → Hs → Prop := fun x S => Wp X (g l S) fun y S2 => Wp X (rg1 op [x, y] S2) Q
def rg2K2 (X : XP) (op : Int → Int → Hs → R D) (x : D) (Q : D → Hs → Prop) : D → Hs → Prop := fun y S2 => Wp X (rg1 op [x, y] S2) Q
theorem v_rg2 : Wp X (mRg2 opr f g l S) Q = Wp X (f l S) (rg2K X opr g l Q) := by
  unfold mRg2; rw [v_bind]; congr 1; funext x S1; unfold bdK rg2K; rw [v_bind]; first | rfl | (congr 1; funext _ _; exact v_ok)
theorem k_rg2 : rg2K X opr g l Q x S = Wp X (g l S) (rg2K2 X opr x Q) := nr rfl
theorem k_rg22 {m n : Int} : rg2K2 X opr (.int m) Q (.int n) S = Wp X (opr m n S) Q := nr rfl
theorem v_dicK : Wp X (mDicK l S) Q = Q (.ref S.length) (S ++ [.dic []]) := v_ok
theorem v_dicT : Wp X (mDicT l S) Q = Q (.ref S.length) (S ++ [.dit []]) := v_ok
def dcK (X : XP) (gl : CG) (tt : MB) (tk tv : M) (l : Ls) (Q : D → Hs → Prop) : J → Hs → Prop := fun j S1 => Wp X (dcLoop j gl tt tk tv l S1.length 0 (S1 ++ [.dic []])) Q
theorem v_dc : Wp X (mDc it gl tt tk tv vs l S) Q = Wp X (it l S) (dcK X gl tt tk tv (wipeL l vs) Q) := by unfold mDc; rw [v_bind]; first | rfl | (congr 1; funext _ _; exact v_ok)
theorem k_dc {j : J} : dcK X gl tt tk tv l Q j S = Wp X (dcLoop j gl tt tk tv l S.length 0 (S ++ [.dic []])) Q := nr rfl
end
theorem ofString_inj {a b : String} : (Str.ofString a = Str.ofString b) = (a = b) := by
  rw [Str.ofString_eq_toList, Str.ofString_eq_toList, Str.mk.injEq]
  apply propext
  constructor
  · intro h
    have h := List.toArray_inj h
    have h2 : ∀ {xs ys : List Char}, xs.map Char.toNat = ys.map Char.toNat → xs = ys := by
      intro xs
      induction xs with
      | nil => intro ys e; cases ys with | nil => rfl | cons _ _ => cases e
      | cons x xs ih =>
        intro ys e
        cases ys with
        | nil => cases e
        | cons y ys =>
          simp only [List.map_cons, List.cons.injEq] at e
          rw [Char.toNat_inj.mp e.1, ih e.2]
    exact String.toList_inj.mp (h2 h)
  · rintro rfl; rfl
theorem beq_lit {a b : String} : (Str.ofString a == Str.ofString b) = (a == b) := by
  rw [Bool.eq_iff_iff]; simp [ofString_inj]
def enK (Q : D → Hs → Prop) : F → Hs → Prop := fun r S => match r with
  | .nx _ => Q .non S
  | .rt d => Q d S
  | _ => False
theorem k_en_rt {Q : D → Hs → Prop} {d : D} {S : Hs} : enK Q (.rt d) S = Q d S := nr rfl
theorem k_en_nx {Q : D → Hs → Prop} {l : Ls} {S : Hs} : enK Q (.nx l) S = Q .non S := nr rfl
theorem wp_def {np nl : Nat} {b : MS} {ds : List D} {S : Hs} {X : XP} {Q : D → Hs → Prop} (hl : ds.length = np) (h : Wp (fun c fs _ S => X c fs [] S) (b (ds.map some ++ List.replicate nl none) S) (enK Q)) : Wp X (mDef np nl b ds S) Q := by
  unfold mDef
  rw [if_pos hl]
  generalize b (ds.map some ++ List.replicate nl none) S = r at h
  cases r with
  | ok f S1 => cases f <;> exact ⟨h.un⟩
  | exc c fs l S1 => exact ⟨h.un⟩
  | bad => exact ⟨h.un⟩
theorem wp_def0 {np nl : Nat} {b : MS} {ds : List D} {S : Hs} {Q : D → Hs → Prop} (hl : ds.length = np) (h : Wp NoX (b (ds.map some ++ List.replicate nl none) S) (enK Q)) : Wp NoX (mDef np nl b ds S) Q := wp_def hl h
theorem atX_no {l : Ls} : atX NoX l = NoX := nr rfl
def tuK (I : Ls → Hs → Prop) (Q : F → Hs → Prop) : F → Hs → Prop := fun r S => match r with
  | .nx l => I l S
  | .ct l => I l S
  | .bk l => Q (.nx l) S
  | .rt d => Q (.rt d) S
section
variable {X : XP} {I : Ls → Hs → Prop} {Q : F → Hs → Prop} {l : Ls} {S : Hs} {d : D}
theorem k_tu_nx : tuK I Q (.nx l) S = I l S := nr rfl
theorem k_tu_ct : tuK I Q (.ct l) S = I l S := nr rfl
theorem k_tu_bk : tuK I Q (.bk l) S = Q (.nx l) S := nr rfl
theorem k_tu_rt : tuK I Q (.rt d) S = Q (.rt d) S := nr rfl
theorem wp_fLoop {j : J} {gg : MG} {b : MS} (N : Nat) (Inv : Nat → Ls → Hs → Prop) (hend : ∀ l S, Inv N l S → itGo j N S = some none)
    (hs : ∀ k l S, k < N → Inv k l S → ∃ d, itGo j k S = some (some d) ∧ Wp X (gg d l S) fun l1 S1 => Wp X (b l1 S1) (tuK (Inv (k + 1)) Q))
    (hd : ∀ l S, Inv N l S → Q (.nx l) S) : ∀ m k l S, k + m = N → Inv k l S → Wp X (fLoop j gg b k l S) Q
  | 0, k, l, S, e, h => by
    have hk : k = N := by omega
    subst hk
    rw [fLoop_eq, hend l S h]
    exact ⟨hd l S h⟩
  | m + 1, k, l, S, e, h => by
    obtain ⟨d, e1, h1⟩ := hs k l S (by omega) h
    rw [fLoop_eq, e1]
    simp only [v_bind]
    refine h1.mono (fun _ _ _ _ h => h) fun l1 S1 h2 => ?_
    unfold bdK
    rw [v_bind]
    refine h2.mono (fun _ _ _ _ h => h) fun r S2 h3 => ?_
    cases r with
    | nx l2 => exact wp_fLoop N Inv hend hs hd m (k + 1) l2 S2 (by omega) h3
    | ct l2 => exact wp_fLoop N Inv hend hs hd m (k + 1) l2 S2 (by omega) h3
    | bk l2 => exact ⟨h3⟩
    | rt d => exact ⟨h3⟩
theorem wp_rng {lo : Int} {n : Nat} {gg : MG} {b : MS} (Inv : Nat → Ls → Hs → Prop) (h0 : Inv 0 l S)
    (hs : ∀ k l S, k < n → Inv k l S → Wp X (gg (.int (lo + k)) l S) fun l1 S1 => Wp X (b l1 S1) (tuK (Inv (k + 1)) Q)) (hd : ∀ l S, Inv n l S → Q (.nx l) S) : Wp X (fLoop (.rng lo n) gg b 0 l S) Q :=
  wp_fLoop n Inv (fun l S h => by simp [itGo]) (fun k l S hk h => ⟨_, by simp [itGo, hk], hs k l S hk h⟩) hd n 0 l S (by omega) h0
theorem split_at {α : Type} {ds : List α} {k : Nat} {d : α} (h : ds[k]? = some d) : ds = ds.take k ++ d :: ds.drop (k + 1) := by
  obtain ⟨hk, rfl⟩ := List.getElem?_eq_some_iff.mp h
  simp
theorem take_at {α : Type} {ds : List α} {k : Nat} {d : α} (h : ds[k]? = some d) : ds.take (k + 1) = ds.take k ++ [d] := by
  rw [List.take_add_one, h]; rfl
theorem wp_tup {ds : List D} {gg : MG} {b : MS} (Inv : List D → Ls → Hs → Prop) (h0 : Inv [] l S)
    (hs : ∀ pre d post l S, ds = pre ++ d :: post → Inv pre l S → Wp X (gg d l S) fun l1 S1 => Wp X (b l1 S1) (tuK (Inv (pre ++ [d])) Q)) (hd : ∀ l S, Inv ds l S → Q (.nx l) S) : Wp X (fLoop (.tup ds) gg b 0 l S) Q := by
  refine wp_fLoop ds.length (fun k l S => Inv (ds.take k) l S) (fun l S h => by simp [itGo]) (fun k l S hk h => ?_) (fun l S h => hd l S (by simpa using h)) ds.length 0 l S (by omega) h0
  have e : ds[k]? = some ds[k] := List.getElem?_eq_getElem hk
  refine ⟨ds[k], by simp [itGo, e], ?_⟩
  have := hs _ _ _ l S (split_at e) h
  rwa [← take_at e] at this
theorem wp_lst {i : Nat} {ds : List D} {gg : MG} {b : MS} (Inv : List D → Ls → Hs → Prop) (hq : ∀ pre l S, Inv pre l S → seqAt S i = some ds) (h0 : Inv [] l S)
    (hs : ∀ pre d post l S, ds = pre ++ d :: post → Inv pre l S → Wp X (gg d l S) fun l1 S1 => Wp X (b l1 S1) (tuK (Inv (pre ++ [d])) Q)) (hd : ∀ l S, Inv ds l S → Q (.nx l) S) : Wp X (fLoop (.lst i) gg b 0 l S) Q := by
  refine wp_fLoop ds.length (fun k l S => Inv (ds.take k) l S) (fun l S h => by simp [itGo, hq _ _ _ h]) (fun k l S hk h => ?_) (fun l S h => hd l S (by simpa using h)) ds.length 0 l S (by omega) h0
  have e : ds[k]? = some ds[k] := List.getElem?_eq_getElem hk
  refine ⟨ds[k], by simp [itGo, hq _ _ _ h, e], ?_⟩
  have := hs _ _ _ l S (split_at e) h
  rwa [← take_at e] at this
theorem wp_while {c : MB} {b : MS} (Inv : Nat → Ls → Hs → Prop)
    (hs : ∀ m l S, Inv m l S → Wp X (c l S) fun t S1 => if t = true then Wp X (b l S1) (tuK (fun l2 S2 => ∃ m', m' < m ∧ Inv m' l2 S2) Q) else Q (.nx l) S1) : ∀ m l S, Inv m l S → Wp X (mWhile c b l S) Q := by
  intro m
  induction m using Nat.strongRecOn with
  | _ m ih =>
    intro l S h
    rw [mWhile_eq, v_bind]
    refine (hs m l S h).mono (fun _ _ _ _ h => h) fun t S1 h1 => ?_
    unfold bdK
    cases t with
    | false => exact ⟨h1⟩
    | true =>
      simp only [if_true] at h1 ⊢
      rw [v_bind]
      refine h1.mono (fun _ _ _ _ h => h) fun r S2 h2 => ?_
      unfold bdK
      cases r with
      | nx l2 => obtain ⟨m', hm, h3⟩ := h2; exact ih m' hm l2 S2 h3
      | ct l2 => obtain ⟨m', hm, h3⟩ := h2; exact ih m' hm l2 S2 h3
      | bk l2 => exact ⟨h2⟩
      | rt d => exact ⟨h2⟩
end
section
variable {X : XP} {Q : D → Hs → Prop} {l : Ls} {S : Hs} {j : J} {gl : CG} {tt : MB} {te : M} {it : MI} {vs : List Nat}
def lcK (X : XP) (gl : CG) (tt : MB) (te : M) (l : Ls) (Q : D → Hs → Prop) : J → Hs → Prop := fun j S1 => Wp X (cLoop j gl tt te l S1.length 0 (S1 ++ [.lst []])) Q
theorem v_lc : Wp X (mLc it gl tt te vs l S) Q = Wp X (it l S) (lcK X gl tt te (wipeL l vs) Q) := by unfold mLc; rw [v_bind]; rfl
theorem k_lc : lcK X gl tt te l Q j S = Wp X (cLoop j gl tt te l S.length 0 (S ++ [.lst []])) Q := nr rfl
def CTurn (gl : CG) (tt : MB) (te : M) (l : Ls) (n : Nat) (d : D) (S : Hs) (acc : List D) (I : List D → Hs → Prop) : Prop :=
  ∃ l1, gl d l = some l1 ∧ Wp NoX (tt l1 S) fun t S2 => if t = true then Wp NoX (te l1 S2) fun y S3 => S3[n]? = some (.lst acc) ∧ acc.length < sizeLine ∧ I (acc ++ [y]) (S3.set n (.lst (acc ++ [y]))) else I acc S2
theorem wp_cLoop {n : Nat} (N : Nat) (Inv : Nat → List D → Hs → Prop) (hend : ∀ acc S, Inv N acc S → itGo j N S = some none)
    (hs : ∀ k acc S, k < N → Inv k acc S → ∃ d, itGo j k S = some (some d) ∧ CTurn gl tt te l n d S acc (Inv (k + 1)))
    (hd : ∀ acc S, Inv N acc S → Q (.ref n) S) : ∀ m k acc S, k + m = N → Inv k acc S → Wp X (cLoop j gl tt te l n k S) Q
  | 0, k, acc, S, e, h => by
    have hk : k = N := by omega
    subst hk
    rw [cLoop_eq]
    simp only [cStep, hend acc S h]
    exact ⟨hd acc S h⟩
  | m + 1, k, acc, S, e, h => by
    obtain ⟨d, e1, l1, e2, h1⟩ := hs k acc S (by omega) h
    obtain ⟨t, S2, e3, h2⟩ := h1.ex
    rw [cLoop_eq]
    cases t with
    | false =>
      simp only [cStep, e1, e2, e3]
      exact wp_cLoop N Inv hend hs hd m (k + 1) acc S2 (by omega) h2
    | true =>
      obtain ⟨y, S3, e4, e5, e6, h3⟩ := Wp.ex h2
      simp only [cStep, e1, e2, e3, e4, e5, e6, if_true]
      exact wp_cLoop N Inv hend hs hd m (k + 1) _ _ (by omega) h3
theorem wp_lcRng {n : Nat} {lo : Int} {m : Nat} (Inv : Nat → List D → Hs → Prop) (h0 : Inv 0 [] S) (hs : ∀ k acc S, k < m → Inv k acc S → CTurn gl tt te l n (.int (lo + k)) S acc (Inv (k + 1)))
    (hd : ∀ acc S, Inv m acc S → Q (.ref n) S) : Wp X (cLoop (.rng lo m) gl tt te l n 0 S) Q :=
  wp_cLoop m Inv (fun acc S h => by simp [itGo]) (fun k acc S hk h => ⟨_, by simp [itGo, hk], hs k acc S hk h⟩) hd m 0 [] S (by omega) h0
def DTurn (gl : CG) (tt : MB) (tk tv : M) (l : Ls) (n : Nat) (d : D) (S : Hs) (acc : List (Key × D)) (I : List (Key × D) → Hs → Prop) : Prop :=
  ∃ l1, gl d l = some l1 ∧ Wp NoX (tt l1 S) fun t S2 => if t = true then Wp NoX (tk l1 S2) fun y S3 => Wp NoX (tv l1 S3) fun z S4 => S4[n]? = some (.dic acc) ∧ acc.length < sizeLine ∧ ∃ k, y.key = some k ∧ I (setK acc k z) (S4.set n (.dic (setK acc k z))) else I acc S2
theorem wp_dcLoop {n : Nat} {tk tv : M} (N : Nat) (Inv : Nat → List (Key × D) → Hs → Prop) (hend : ∀ acc S, Inv N acc S → itGo j N S = some none)
    (hs : ∀ k acc S, k < N → Inv k acc S → ∃ d, itGo j k S = some (some d) ∧ DTurn gl tt tk tv l n d S acc (Inv (k + 1)))
    (hd : ∀ acc S, Inv N acc S → Q (.ref n) S) : ∀ m k acc S, k + m = N → Inv k acc S → Wp X (dcLoop j gl tt tk tv l n k S) Q
  | 0, k, acc, S, e, h => by
    have hk : k = N := by omega
    subst hk
    rw [dcLoop_eq]
    simp only [dcStep, hend acc S h]
    exact ⟨hd acc S h⟩
  | m + 1, k, acc, S, e, h => by
    obtain ⟨d, e1, l1, e2, h1⟩ := hs k acc S (by omega) h
    obtain ⟨t, S2, e3, h2⟩ := h1.ex
    rw [dcLoop_eq]
    cases t with
    | false =>
      simp only [dcStep, e1, e2, e3]
      exact wp_dcLoop N Inv hend hs hd m (k + 1) acc S2 (by omega) h2
    | true =>
      obtain ⟨y, S3, e4, h3⟩ := Wp.ex h2
      obtain ⟨z, S4, e4', e5, e6, k0, ek, h4⟩ := Wp.ex h3
      simp only [dcStep, e1, e2, e3, e4, e4', e5, e6, ek, if_true]
      exact wp_dcLoop N Inv hend hs hd m (k + 1) _ _ (by omega) h4
end
def Kp (X : List Nat) (S S' : Hs) : Prop := S.length ≤ S'.length ∧ ∀ i, i < S.length → i ∉ X → S'[i]? = S[i]?
section
variable {A B : List Nat} {S S1 S2 g : Hs} {i n : Nat} {o : O}
theorem Kp.refl : Kp A S S := ⟨Nat.le_refl _, fun _ _ _ => rfl⟩
theorem Kp.trans (a : Kp A S S1) (b : Kp A S1 S2) : Kp A S S2 := ⟨Nat.le_trans a.1 b.1, fun i h hn => (b.2 i (Nat.lt_of_lt_of_le h a.1) hn).trans (a.2 i h hn)⟩
theorem Kp.sub (a : Kp A S S1) (h : ∀ i ∈ A, i < S.length → i ∈ B) : Kp B S S1 := ⟨a.1, fun i hi hn => a.2 i hi fun hm => hn (h i hm hi)⟩
theorem Kp.le (a : Kp A S S1) : S.length ≤ S1.length := a.1
theorem Kp.get (a : Kp A S S1) (h : S[i]? = some o) (hn : i ∉ A) : S1[i]? = some o := (a.2 i (Real.lt h) hn).trans h
theorem Kp.new : Kp A S (S ++ g) := ⟨by simp, fun i h _ => List.getElem?_append_left h⟩
theorem Kp.app (a : Kp A S S1) : Kp A S (S1 ++ g) := a.trans Kp.new
theorem Kp.set (h : i ∈ A) : Kp A S (S.set i o) := ⟨by simp, fun k hk hn => List.getElem?_set_ne (fun e => by subst e; exact hn h)⟩
theorem Kp.setNew (a : Kp A S S1) (h : S.length ≤ i) : Kp A S (S1.set i o) := ⟨by rw [List.length_set]; exact a.1, fun k hk hn => (List.getElem?_set_ne (by omega)).trans (a.2 k hk hn)⟩
theorem Kp.setIn (a : Kp A S S1) (h : i ∈ A) : Kp A S (S1.set i o) := a.trans (Kp.set h)
theorem Kp.after (a : Kp A S S1) (b : Kp B S1 S2) (h : ∀ i ∈ B, i < S.length → i ∈ A) : Kp A S S2 := ⟨Nat.le_trans a.1 b.1, fun i hi hn => (b.2 i (Nat.lt_of_lt_of_le hi a.1) (fun hm => hn (h i hm hi))).trans (a.2 i hi hn)⟩
theorem Kp.seqAt (a : Kp A S S1) {ds : List D} (h : seqAt S i = some ds) (hn : i ∉ A) : Ly.seqAt S1 i = some ds := by
  unfold Ly.seqAt seqD at h ⊢
  simp only at h ⊢
  split at h
  · rename_i q; rw [a.get q hn]; exact h
  · rename_i q; rw [a.get q hn]; exact h
  · cases h
end
end Ly
set_option Elab.async false
set_option linter.all false
set_option maxRecDepth 100000
namespace Ly
open PySem PySem.Spec L2
open PyProof.Rows hiding St
section
variable {X : XP} {Q : F → Hs → Prop} {l : Ls} {S : Hs} {α : Type} (f : α → D) {xs : List α}
theorem wp_tupM {gg : MG} {b : MS} (Inv : List α → Ls → Hs → Prop) (h0 : Inv [] l S)
    (hs : ∀ pre x post l S, xs = pre ++ x :: post → Inv pre l S → Wp X (gg (f x) l S) fun l1 S1 => Wp X (b l1 S1) (tuK (Inv (pre ++ [x])) Q)) (hd : ∀ l S, Inv xs l S → Q (.nx l) S) : Wp X (fLoop (.tup (xs.map f)) gg b 0 l S) Q := by
  refine wp_fLoop xs.length (fun k l S => Inv (xs.take k) l S) (fun l S h => by simp [itGo]) (fun k l S hk h => ?_) (fun l S h => hd l S (by simpa using h)) xs.length 0 l S (by omega) h0
  have e : xs[k]? = some xs[k] := List.getElem?_eq_getElem hk
  refine ⟨f xs[k], by simp [itGo, e], ?_⟩
  have := hs _ _ _ l S (split_at e) h
  rwa [← take_at e] at this
theorem wp_tup0 {gg : MG} {b : MS} (h : Q (.nx l) S) : Wp X (fLoop (.tup []) gg b 0 l S) Q := by
  rw [fLoop_eq]; exact ⟨h⟩
theorem wp_tup1 {gg : MG} {b : MS} {d : D} (h : Wp X (gg d l S) fun l1 S1 => Wp X (b l1 S1) (tuK (fun l2 S2 => Q (.nx l2) S2) Q)) : Wp X (fLoop (.tup [d]) gg b 0 l S) Q := by
  refine wp_tup (fun pre l' S' => (pre = [] ∧ l' = l ∧ S' = S) ∨ (pre = [d] ∧ Q (.nx l') S')) (.inl ⟨rfl, rfl, rfl⟩) ?_ ?_
  · intro pre x post l' S' e hI
    rcases hI with ⟨rfl, rfl, rfl⟩ | ⟨rfl, _⟩
    · simp only [List.nil_append, List.cons.injEq] at e
      obtain ⟨rfl, _⟩ := e
      refine h.mono (fun _ _ _ _ h => h) fun l1 S1 h1 => h1.mono (fun _ _ _ _ h => h) fun r S2 h2 => ?_
      cases r with
      | nx l2 => exact .inr ⟨rfl, h2⟩
      | ct l2 => exact .inr ⟨rfl, h2⟩
      | bk l2 => exact h2
      | rt d => exact h2
    · simp at e
  · intro l' S' hI
    rcases hI with ⟨e, _⟩ | ⟨_, h⟩
    · cases e
    · exact h
variable {P : D → Hs → Prop} {gl : CG} {tt : MB} {te : M}
theorem lc_pure {j : J} (g : α → Option D) (hj : ∀ S', Kp [] S S' → ∀ k, k ≤ xs.length → itGo j k S' = some ((xs[k]?).map f)) (hx : xs.length ≤ 1000000)
    (hs : ∀ x ∈ xs, ∀ S', Kp [] S S' → ∃ l1, gl (f x) l = some l1 ∧ Wp NoX (tt l1 S') fun t S2 => Kp [] S' S2 ∧ if t = true then Wp NoX (te l1 S2) fun y S3 => Kp [] S2 S3 ∧ g x = some y else g x = none)
    (hd : ∀ S', S'[S.length]? = some (.lst (xs.filterMap g)) → Kp [] S S' → P (.ref S.length) S') : Wp X (cLoop j gl tt te l S.length 0 (S ++ [.lst []])) P := by
  refine wp_cLoop xs.length (fun k acc S' => acc = (xs.take k).filterMap g ∧ S'[S.length]? = some (.lst acc) ∧ Kp [] S S') (fun acc S' h => ?_) (fun k acc S' hk h => ?_) (fun acc S' h => ?_) xs.length 0 [] _ (by omega) ⟨by simp, by simp, Kp.new⟩
  · rw [hj S' h.2.2 _ (Nat.le_refl _), List.getElem?_eq_none (Nat.le_refl _)]; rfl
  · obtain ⟨rfl, h1, h2⟩ := h
    have e : xs[k]? = some xs[k] := List.getElem?_eq_getElem hk
    obtain ⟨l1, e1, h3⟩ := hs xs[k] (List.getElem_mem hk) S' h2
    refine ⟨f xs[k], by rw [hj S' h2 _ (Nat.le_of_lt hk), e]; rfl, l1, e1, ?_⟩
    refine h3.mono (fun _ _ _ _ h => h) ?_
    rintro t S2 ⟨k1, h4⟩
    rw [take_at e, List.filterMap_append]
    have hb : ((xs.take k).filterMap g).length < sizeLine := by
      refine line_big (Nat.le_trans (List.length_filterMap_le _ _) ?_)
      simp; omega
    cases t with
    | false =>
      simp only [Bool.false_eq_true, if_false] at h4 ⊢
      simp only [List.filterMap_cons, h4, List.filterMap_nil, List.append_nil]
      exact ⟨trivial, k1.get h1 (by simp), h2.trans k1⟩
    | true =>
      simp only [if_true] at h4 ⊢
      refine h4.mono (fun _ _ _ _ h => h) ?_
      rintro y S3 ⟨k2, h5⟩
      have h6 := k2.get (k1.get h1 (by simp)) (by simp)
      simp only [List.filterMap_cons, h5, List.filterMap_nil]
      exact ⟨h6, hb, trivial, get_put h6, ((h2.trans k1).trans k2).setNew (Nat.le_refl _)⟩
  · obtain ⟨rfl, h1, h2⟩ := h
    exact hd S' (by simpa using h1) h2
end
end Ly
set_option Elab.async false
set_option linter.all false
set_option maxRecDepth 100000
namespace Ly
open PySem PySem.Spec L2
open PyProof.Rows hiding St
section
variable {X : XP} {Q : D → Hs → Prop} {h : MP} {l : Ls} {S : Hs}
def dsK (n : Nat) (Q : D → Hs → Prop) : List (D × D) → Hs → Prop := fun ps S1 => ∃ kvs, keysP ps = some kvs ∧ S1[n]? = some (.dic []) ∧ kvs.length ≤ 15 ∧ Q (.ref n) (S1.set n (.dic (mergeD [] kvs)))
theorem v_disp (H : Wp X (h l (S ++ [.dic []])) (dsK S.length Q)) : Wp X (mDisp h l S) Q := by
  unfold mDisp
  rw [v_bind]
  refine H.mono (fun _ _ _ _ h => h) ?_
  rintro ps S1 ⟨kvs, e1, e2, e3, e4⟩
  unfold bdK
  simp only [e1, e2, e3, if_true]
  exact ⟨e4⟩
variable {Q : List (D × D) → Hs → Prop} {f g : M}
theorem v_dpNil : Wp X (dpNil l S) Q = Q [] S := v_ok
def dpK (X : XP) (g : M) (h : MP) (l : Ls) (Q : List (D × D) → Hs → Prop) : D → Hs → Prop := fun x S1 => Wp X (g l S1) fun y S2 => Wp X (h l S2) fun r S3 => Q ((x, y) :: r) S3
def dpK2 (X : XP) (h : MP) (x : D) (l : Ls) (Q : List (D × D) → Hs → Prop) : D → Hs → Prop := fun y S2 => Wp X (h l S2) fun r S3 => Q ((x, y) :: r) S3
def dpK3 (x y : D) (Q : List (D × D) → Hs → Prop) : List (D × D) → Hs → Prop := fun r S3 => Q ((x, y) :: r) S3
theorem v_dpCons : Wp X (dpCons f g h l S) Q = Wp X (f l S) (dpK X g h l Q) := by
  unfold dpCons; rw [v_bind]; congr 1; funext x S1; unfold bdK dpK; rw [v_bind]; congr 1; funext y S2; unfold bdK; rw [v_bind]; congr 1; funext r S3; exact v_ok
theorem k_dp {x : D} : dpK X g h l Q x S = Wp X (g l S) (dpK2 X h x l Q) := nr rfl
theorem k_dp2 {x y : D} : dpK2 X h x l Q y S = Wp X (h l S) (dpK3 x y Q) := nr rfl
theorem k_dp3 {x y : D} {ps : List (D × D)} : dpK3 x y Q ps S = Q ((x, y) :: ps) S := nr rfl
end
section
variable {X : XP} {cs : List Addr} {f m : Str} {o e : M} {l : Ls} {S S1 : Hs} {i : Nat} {C : Addr} {fs : List (Str × D)} {d x y : D} {ds : List D} {g : ML} {md : MD} {tbl : List (Addr × MD)} {op : D → D → Hs → R D}
section
variable {Q : D → Hs → Prop}
def flK (cs : List Addr) (f : Str) (Q : D → Hs → Prop) : D → Hs → Prop := fun x S1 => match x with
  | .ref i => match S1[i]? with
    | some (.ins C fs) => C ∈ cs ∧ (match fs.lookup f with
      | some d => Q d S1
      | none => False)
    | _ => False
  | _ => False
theorem v_fld : Wp X (mFld cs f o l S) Q = Wp X (o l S) (flK cs f Q) := by
  unfold mFld; rw [v_bind]; congr 1; funext x S1; unfold bdK flK
  cases x with
  | ref i =>
    simp only []
    cases S1[i]? with
    | none => exact v_bad
    | some u =>
      cases u with
      | ins C fs =>
        simp only []
        by_cases h : C ∈ cs
        · simp only [h, if_true, true_and]; cases fs.lookup f <;> first | exact v_ok | exact v_bad
        · simp only [h, if_false, false_and]; exact v_bad
      | _ => exact v_bad
  | _ => exact v_bad
theorem k_fl (h : S[i]? = some (.ins C fs)) : flK cs f Q (.ref i) S = (C ∈ cs ∧ (match fs.lookup f with | some d => Q d S | none => False)) := by simp only [flK, h]
def meK2 (X : XP) (md : MD) (i : Nat) (l : Ls) (Q : D → Hs → Prop) : List D → Hs → Prop := fun ds S2 => Wp (atX X l) (md (.ref i :: ds) S2) Q
def meK (X : XP) (tbl : List (Addr × MD)) (m : Str) (g : ML) (l : Ls) (Q : D → Hs → Prop) : D → Hs → Prop := fun x S1 => match x with
  | .ref i => match S1[i]? with
    | some (.ins C fs) => (match tbl.lookup C with
      | some md => fs.lookup m = none ∧ Wp X (g l S1) (meK2 X md i l Q)
      | none => False)
    | _ => False
  | _ => False
theorem v_meth : Wp X (mMeth tbl m o g l S) Q = Wp X (o l S) (meK X tbl m g l Q) := by
  unfold mMeth; rw [v_bind]; congr 1; funext x S1; unfold bdK meK
  cases x with
  | ref i =>
    simp only []
    cases S1[i]? with
    | none => exact v_bad
    | some u =>
      cases u with
      | ins C fs =>
        simp only []
        cases tbl.lookup C with
        | none => exact v_bad
        | some md =>
          simp only [Option.isNone_iff_eq_none]
          by_cases h : fs.lookup m = none
          · simp only [h, if_true, true_and]; rw [v_bind]; congr 1; funext ds S2; unfold bdK meK2; rw [v_at]
          · simp only [h, if_false, false_and]; exact v_bad
      | _ => exact v_bad
  | _ => exact v_bad
theorem k_me (h : S[i]? = some (.ins C fs)) : meK X tbl m g l Q (.ref i) S = (match tbl.lookup C with | some md => fs.lookup m = none ∧ Wp X (g l S) (meK2 X md i l Q) | none => False) := by simp only [meK, h]
theorem k_me2 : meK2 X md i l Q ds S = Wp (atX X l) (md (.ref i :: ds) S) Q := nr rfl
def mkK (X : XP) (C : Addr) (md : MD) (l : Ls) (Q : D → Hs → Prop) : List D → Hs → Prop := fun ds S1 => Wp (atX X l) (md (.ref S1.length :: ds) (S1 ++ [.ins C []])) fun d S2 => d = .non ∧ Q (.ref S1.length) S2
theorem v_make : Wp X (mMake C md g l S) Q = Wp X (g l S) (mkK X C md l Q) := by
  unfold mMake; rw [v_bind]; congr 1; funext ds S1; unfold bdK mkK; rw [v_bind, v_at]; congr 1; funext d S2; unfold bdK
  cases d with
  | non => simp only [v_ok, true_and]
  | _ => simp only [v_bad, reduceCtorEq, false_and]
theorem k_mk : mkK X C md l Q ds S = Wp (atX X l) (md (.ref S.length :: ds) (S ++ [.ins C []])) fun d S2 => d = .non ∧ Q (.ref S.length) S2 := nr rfl
theorem look1 {α β : Type} [BEq α] [LawfulBEq α] {a : α} {b : β} {r : List (α × β)} : ((a, b) :: r).lookup a = some b := by rw [List.lookup_cons, beq_self_eq_true]
end
section
variable {Q : F → Hs → Prop}
def fsK (X : XP) (cs : List Addr) (f : Str) (o : M) (l : Ls) (Q : F → Hs → Prop) : D → Hs → Prop := fun d S1 => Wp X (o l S1) fun x S2 => match x with
  | .ref i => match S2[i]? with
    | some (.ins C fs) => C ∈ cs ∧ fs.length < 1000 ∧ Q (.nx l) (S2.set i (.ins C (putD f d fs)))
    | _ => False
  | _ => False
def fsK2 (cs : List Addr) (f : Str) (d : D) (l : Ls) (Q : F → Hs → Prop) : D → Hs → Prop := fun x S2 => match x with
  | .ref i => match S2[i]? with
    | some (.ins C fs) => C ∈ cs ∧ fs.length < 1000 ∧ Q (.nx l) (S2.set i (.ins C (putD f d fs)))
    | _ => False
  | _ => False
theorem v_fldset : Wp X (mFldSet cs f e o l S) Q = Wp X (e l S) (fsK X cs f o l Q) := by
  unfold mFldSet; rw [v_bind]; congr 1; funext d S1; unfold bdK fsK; rw [v_bind]; congr 1; funext x S2; unfold bdK
  cases x with
  | ref i =>
    simp only []
    cases S2[i]? with
    | none => exact v_bad
    | some u =>
      cases u with
      | ins C fs =>
        simp only []
        by_cases h : C ∈ cs
        · by_cases h2 : fs.length < 1000
          · simp only [h, h2, and_self, if_true, true_and]; exact v_ok
          · simp only [h, h2, and_false, if_false, false_and]; exact v_bad
        · simp only [h, if_false, false_and]; exact v_bad
      | _ => exact v_bad
  | _ => exact v_bad
theorem k_fs : fsK X cs f o l Q d S = Wp X (o l S) (fsK2 cs f d l Q) := nr rfl
theorem k_fs2 (h : S[i]? = some (.ins C fs)) : fsK2 cs f d l Q (.ref i) S = (C ∈ cs ∧ fs.length < 1000 ∧ Q (.nx l) (S.set i (.ins C (putD f d fs)))) := by simp only [fsK2, h]
def faK3 (C : Addr) (f : Str) (i : Nat) (l : Ls) (Q : F → Hs → Prop) : D → Hs → Prop := fun z S3 => match S3[i]? with
  | some (.ins C' fs') => C' = C ∧ fs'.length < 1000 ∧ Q (.nx l) (S3.set i (.ins C (putD f z fs')))
  | _ => False
def faK2 (X : XP) (op : D → D → Hs → R D) (C : Addr) (f : Str) (i : Nat) (d0 : D) (l : Ls) (Q : F → Hs → Prop) : D → Hs → Prop := fun d S2 => Wp X (op d0 d S2) (faK3 C f i l Q)
def faK (X : XP) (cs : List Addr) (f : Str) (op : D → D → Hs → R D) (e : M) (l : Ls) (Q : F → Hs → Prop) : D → Hs → Prop := fun x S1 => match x with
  | .ref i => match S1[i]? with
    | some (.ins C fs) => C ∈ cs ∧ (match fs.lookup f with
      | some d0 => Wp X (e l S1) (faK2 X op C f i d0 l Q)
      | none => False)
    | _ => False
  | _ => False
theorem v_fldaug : Wp X (mFldAug cs f op o e l S) Q = Wp X (o l S) (faK X cs f op e l Q) := by
  unfold mFldAug; rw [v_bind]; congr 1; funext x S1; unfold bdK faK
  cases x with
  | ref i =>
    simp only []
    cases S1[i]? with
    | none => exact v_bad
    | some u =>
      cases u with
      | ins C fs =>
        simp only []
        by_cases h : C ∈ cs
        · simp only [h, if_true, true_and]
          cases fs.lookup f with
          | none => exact v_bad
          | some d0 =>
            simp only []
            rw [v_bind]; congr 1; funext d S2; unfold bdK faK2; rw [v_bind]; congr 1; funext z S3; unfold bdK faK3; dsimp only
            cases S3[i]? with
            | none => exact v_bad
            | some u =>
              cases u with
              | ins C' fs' =>
                simp only []
                by_cases h : C' = C
                · by_cases h2 : fs'.length < 1000
                  · simp only [h, h2, and_self, if_true, true_and]; exact v_ok
                  · simp only [h, h2, and_false, if_false, false_and, and_false]; exact v_bad
                · simp only [h, if_false, false_and]; exact v_bad
              | _ => exact v_bad
        · simp only [h, if_false, false_and]; exact v_bad
      | _ => exact v_bad
  | _ => exact v_bad
theorem k_fa (h : S[i]? = some (.ins C fs)) : faK X cs f op e l Q (.ref i) S = (C ∈ cs ∧ (match fs.lookup f with | some d0 => Wp X (e l S) (faK2 X op C f i d0 l Q) | none => False)) := by simp only [faK, h]
theorem k_fa2 {d0 : D} : faK2 X op C f i d0 l Q d S = Wp X (op d0 d S) (faK3 C f i l Q) := nr rfl
theorem k_fa3 {C' : Addr} (h : S[i]? = some (.ins C' fs)) : faK3 C f i l Q d S = (C' = C ∧ fs.length < 1000 ∧ Q (.nx l) (S.set i (.ins C (putD f d fs)))) := by simp only [faK3, h]
end
end
end Ly
set_option Elab.async false
set_option linter.all false
set_option maxRecDepth 100000
namespace Ly
open PySem PySem.Spec L2
open PyProof.Rows hiding St
section
variable {K : PySem.W.Frag} {E : St → XK}
end
section
variable {X : Cx} {E : St → XK} {e o : Expr} {f g : M} {fl : ML} {p pos apos cpos : Pos}
end
section
variable {X : XP} {f g : M} {l : Ls} {S : Hs} {x y : D} {Q : D → Hs → Prop}
end
end Ly
set_option Elab.async false
set_option linter.all false
set_option maxRecDepth 100000
set_option maxHeartbeats 4000000
namespace Ly
open PySem PySem.Spec L2
open PyProof.Rows hiding St
section
variable {X : Cx}
end
section
variable {X : Cx} {E : St → XK} {a b : Expr} {f g : M} {pos : Pos}
end
section
variable {X : XP} {op op' : D → D → Hs → R D} {f g h : M} {l : Ls} {S : Hs} {x y z d : D} {Q : Bool → Hs → Prop}
def cbK3 (X : XP) (op' : D → D → Hs → R D) (y : D) (Q : Bool → Hs → Prop) : D → Hs → Prop := fun z S => Wp X (op' y z S) (cmK Q)
def cbK2 (X : XP) (op' : D → D → Hs → R D) (h : M) (y : D) (l : Ls) (Q : Bool → Hs → Prop) : D → Hs → Prop := fun d S => match d with
  | .bl true => Wp X (h l S) (cbK3 X op' y Q)
  | .bl false => Q false S
  | _ => False
def cbK1 (X : XP) (op op' : D → D → Hs → R D) (h : M) (x : D) (l : Ls) (Q : Bool → Hs → Prop) : D → Hs → Prop := fun y S => Wp X (op x y S) (cbK2 X op' h y l Q)
def cbK (X : XP) (op op' : D → D → Hs → R D) (g h : M) (l : Ls) (Q : Bool → Hs → Prop) : D → Hs → Prop := fun x S => Wp X (g l S) (cbK1 X op op' h x l Q)
theorem v_chnB : Wp X (mChnB op op' f g h l S) Q = Wp X (f l S) (cbK X op op' g h l Q) := by
  unfold mChnB; rw [v_bind]; congr 1; funext x S1; unfold bdK cbK; rw [v_bind]; congr 1; funext y S2; unfold bdK cbK1; rw [v_bind]; congr 1; funext d S3; unfold bdK cbK2
  cases d with
  | bl b =>
    cases b with
    | true =>
      dsimp only
      rw [v_bind]; congr 1; funext z S4; unfold bdK cbK3; rw [v_bind]; congr 1; funext d S5; unfold bdK cmK
      cases d <;> first | exact v_ok | exact v_bad
    | false => exact v_ok
  | _ => exact v_bad
theorem k_cb : cbK X op op' g h l Q x S = Wp X (g l S) (cbK1 X op op' h x l Q) := nr rfl
theorem k_cb1 : cbK1 X op op' h x l Q y S = Wp X (op x y S) (cbK2 X op' h y l Q) := nr rfl
theorem k_cb2t : cbK2 X op' h y l Q (.bl true) S = Wp X (h l S) (cbK3 X op' y Q) := nr rfl
theorem k_cb2f : cbK2 X op' h y l Q (.bl false) S = Q false S := nr rfl
theorem k_cb3 : cbK3 X op' y Q z S = Wp X (op' y z S) (cmK Q) := nr rfl
end
end Ly
set_option Elab.async false
set_option linter.all false
set_option maxRecDepth 100000
set_option maxHeartbeats 4000000
namespace Ly
open PySem PySem.Spec L2
open PyProof.Rows hiding St
section
variable {X : Cx}
end
section
variable {X : Cx} {E : St → XK} {e : Expr} {f : M} {p p2 pos pos2 : Pos}
end
end Ly
set_option Elab.async false
set_option linter.all false
set_option maxRecDepth 100000
namespace Ly
open PySem PySem.Spec L2
open PyProof.Rows hiding St
section
variable {X : Cx} {E : St → XK} {o : Expr} {eo : M} {to : TE} {f : Str} {cs : List Addr} {pos : Pos}
end
section
variable {X : XP} {cs : List Addr} {f : Str} {o : M} {l : Ls} {S : Hs} {i : Nat} {C : Addr} {fs : List (Str × D)} {d x : D} {Q : Ls → Hs → Prop}
end
theorem flats_vals : ∀ {us : List Value} {ds : List D}, us.map absV = ds.map flatC → (ds.all fun d => (flatC d).isSome) = true → ∃ vs : List V, Vals vs us ∧ ∀ K p n H, Reps K p n H ds vs
  | [], [], _, _ => ⟨[], .nil, fun _ _ _ _ => .nil⟩
  | [], _ :: _, h, _ => by cases h
  | _ :: _, [], h, _ => by cases h
  | u :: us, d :: ds, h, k => by
    simp only [List.map_cons, List.cons.injEq] at h
    simp only [List.all_cons, Bool.and_eq_true] at k
    obtain ⟨vs, h1, h2⟩ := flats_vals h.2 k.2
    cases d with
    | int i =>
      cases u <;> first | (have e := h.1; simp only [absV, flatC] at e; cases e; exact ⟨V.int _ :: vs, .cons ⟨_, rfl⟩ h1, fun K p n H => .cons (.int _) (h2 K p n H)⟩) | (have e := h.1; simp only [absV, flatC] at e; cases e)
    | str i =>
      cases u <;> first | (have e := h.1; simp only [absV, flatC] at e; cases e; exact ⟨V.str _ :: vs, .cons ⟨_, rfl⟩ h1, fun K p n H => .cons (.str _) (h2 K p n H)⟩) | (have e := h.1; simp only [absV, flatC] at e; cases e)
    | _ => simp [flatC] at k
theorem gv_flats {K : PySem.W.Frag} {mg : Str → Option Value} {x : Str} {a : Addr} {od : Option Addr} {its : Array Value} {n : Nat} {sl : Array (Option Value)} {ds : List D} (h : mg x = some (.ref a)) (l : K.lookup a = some ⟨.type "tuple", od, .seq its n, sl⟩)
    (e : its.toList.map absV = ds.map flatC) (k : (ds.all fun d => (flatC d).isSome) = true := by rfl) (hz : ds.length ≤ sizeLine := by decide) : GV K mg x (.wt ds) := by
  obtain ⟨vs, h1, h2⟩ := flats_vals e k
  refine ⟨.ref a, .ref a, h, rfl, fun p m H => .wt (xs := vs) ⟨_, its, n, l, rfl, rfl, ?_, h1⟩ (h2 K p m H)⟩
  have := h1.length
  have e2 := congrArg List.length e
  simp only [List.length_map, Array.length_toList] at this e2
  omega
theorem kv_flats {K : PySem.W.Frag} {a : Addr} {od : Option Addr} {its : Array Value} {n : Nat} {sl : Array (Option Value)} {ds : List D} (l : K.lookup a = some ⟨.type "tuple", od, .seq its n, sl⟩)
    (e : its.toList.map absV = ds.map flatC) (k : (ds.all fun d => (flatC d).isSome) = true := by rfl) (hz : ds.length ≤ sizeLine := by decide) : KV K (.ref a) (.wt ds) := by
  obtain ⟨u, v, h1, h2, h3⟩ := gv_flats (K := K) (mg := fun _ => some (.ref a)) (x := "x") rfl l e k hz
  cases h1
  exact ⟨v, h2, h3⟩
theorem FOk.one {K : PySem.W.Frag} {cs : List Addr} {f : Str} {C : Addr} (h : FOk K cs f) (hc : C ∈ cs) : FOk K [C] f := fun C' h' => by
  rw [List.mem_singleton] at h'; subst h'; exact h _ hc
end Ly
set_option Elab.async false
set_option linter.all false
set_option maxRecDepth 100000
set_option maxHeartbeats 4000000
namespace Ly
open PySem PySem.Spec L2
open PyProof.Rows hiding St
section
variable {X : Cx}
end
end Ly
set_option Elab.async false
set_option linter.all false
set_option maxRecDepth 100000
namespace Ly
open PySem PySem.Spec L2
open PyProof.Rows hiding St
section
variable {K : PySem.W.Frag} {E : St → XK}
end
end Ly
set_option Elab.async false
set_option linter.all false
set_option maxRecDepth 100000
namespace Ly
open PySem PySem.Spec L2
open PyProof.Rows hiding St
open RZ
section
variable {X : Cx} {E : St → XK} {e : Expr} {f : M} {p p2 pos pos2 : Pos}
end
end Ly
set_option Elab.async false
set_option linter.all false
set_option maxRecDepth 100000
namespace Ly
open PySem PySem.Spec L2
open PyProof.Rows hiding St
section
variable {prog : Program} {w : World} {A : Around} {E : Value → Shared → Prop} {s : Shared}
end
section
variable {X : Cx} {E : St → XK} {e : Expr} {f : ML} {p pos : Pos}
end
end Ly
set_option Elab.async false
set_option linter.all false
set_option maxRecDepth 100000
namespace Ly
open PySem PySem.Spec L2
open PyProof.Rows hiding St
section
variable {P : Program} {w : World} {A : Around} {E : Value → Shared → Prop} {s : Shared}
set_option maxRecDepth 100000 in
set_option maxHeartbeats 3200000 in
end
def insI (k : Int) : List Int → List Int
  | [] => [k]
  | x :: xs => if k < x then k :: x :: xs else if k = x then x :: xs else x :: insI k xs
def dedI (ns : List Int) : List Int := ns.foldr insI []
theorem insI_mem {k j : Int} : ∀ {xs : List Int}, j ∈ insI k xs ↔ j = k ∨ j ∈ xs
  | [] => by simp [insI]
  | x :: xs => by
    unfold insI
    split
    · simp
    · split
      · rename_i h; subst h; simp
      · rw [List.mem_cons, insI_mem, List.mem_cons]
        constructor
        · rintro (h | h | h) <;> simp [h]
        · rintro (h | h | h) <;> simp [h]
theorem insI_pw {k : Int} : ∀ {xs : List Int}, xs.Pairwise (· < ·) → (insI k xs).Pairwise (· < ·)
  | [], _ => by simp [insI]
  | x :: xs, h => by
    obtain ⟨h1, h2⟩ := List.pairwise_cons.mp h
    unfold insI
    split
    · refine List.pairwise_cons.mpr ⟨fun y hy => ?_, h⟩
      rcases List.mem_cons.mp hy with e | m
      · omega
      · have := h1 y m; omega
    · split
      · exact h
      · refine List.pairwise_cons.mpr ⟨fun y hy => ?_, insI_pw h2⟩
        rcases insI_mem.mp hy with e | m
        · omega
        · exact h1 y m
theorem dedI_mem {j : Int} : ∀ {ns : List Int}, j ∈ dedI ns ↔ j ∈ ns
  | [] => by simp [dedI]
  | x :: xs => by
    show j ∈ insI x (dedI xs) ↔ _
    rw [insI_mem, dedI_mem, List.mem_cons]
theorem dedI_pw : ∀ {ns : List Int}, (dedI ns).Pairwise (· < ·)
  | [] => by simp [dedI]
  | x :: xs => insI_pw (dedI_pw (ns := xs))
theorem lt_nodup {xs : List Int} (h : xs.Pairwise (· < ·)) : xs.Nodup := h.imp fun h e => by omega
theorem rising_same {xs ys : List Int} (h1 : xs.Pairwise (· < ·)) (h2 : ys.Pairwise (· < ·)) (h : ∀ k, k ∈ xs ↔ k ∈ ys) : xs = ys :=
  List.Perm.eq_of_pairwise (fun a b _ _ p q => Int.le_antisymm p q) (h1.imp Int.le_of_lt) (h2.imp Int.le_of_lt) ((List.perm_ext_iff_of_nodup (lt_nodup h1) (lt_nodup h2)).mpr h)
def oSrtSet (x : D) (S : Hs) : R D := match (seqD x S).bind intsD with
  | some ns => match x with
    | .ref _ => if ns.length ≤ 4000 then .ok (.ref S.length) (S ++ [.lst ((dedI ns).map D.int)]) else .bad
    | _ => .bad
  | none => .bad
theorem oSrtSet_lst {S : Hs} {i : Nat} {ns : List Int} (h : S[i]? = some (.lst (ns.map D.int))) (hn : ns.length ≤ 4000) : oSrtSet (.ref i) S = .ok (.ref S.length) (S ++ [.lst ((dedI ns).map D.int)]) := by
  have : ∀ xs : List Int, intsD (xs.map D.int) = some xs := fun xs => by
    induction xs with
    | nil => rfl
    | cons x xs ih => simp [intsD, ih]
  unfold oSrtSet
  simp [seqD, h, this, hn]
section
variable {X : Cx} {E : St → XK} {e : Expr} {f : M} {p p2 pos pos2 : Pos}
end
end Ly
set_option Elab.async false
set_option linter.all false
set_option maxRecDepth 100000
namespace Ly
open PySem PySem.Spec L2
open PyProof.Rows hiding St
section
variable {X : Cx} {E : St → XK} {e c : Expr} {f g : M} {p pos kpos : Pos}
end
end Ly
set_option Elab.async false
set_option linter.all false
set_option maxRecDepth 100000
namespace Ly
open PySem PySem.Spec L2
open PyProof.Rows hiding St
section
variable {prog : Program} {w : World} {A : Around} {E : Value → Shared → Prop} {s : Shared}
end
section
variable {X : Cx}
end
section
variable {X : Cx} {E : St → XK} {pos p2 : Pos} {f : M} {fh : MO}
end
section
variable {X : XP} {f : M} {fh : MO} {l : Ls} {S : Hs} {Q : Ls → Hs → Prop}
end
end Ly
set_option Elab.async false
set_option linter.all false
set_option maxRecDepth 100000
namespace Ly
open PySem PySem.Spec L2
open PyProof.Rows hiding St
def oSplit (x : D) (ds : List D) (S : Hs) : R D := match x, ds with
  | .str a, [.str b] => if (b.length == 0) = false ∧ a.length + 2 ≤ sizeLine then .ok (.ref S.length) (S ++ [.lst ((Txt.split a b).map D.str)]) else .bad
  | _, _ => .bad
theorem strs_reps {K : PySem.W.Frag} {pi : Nat → Addr} {n : Nat} {H : Hp} : ∀ ys : List Str, Reps K pi n H (ys.map D.str) (ys.map V.str)
  | [] => .nil
  | y :: ys => .cons (.str y) (strs_reps ys)
abbrev rSplit : V → List V → Hp → VK → Prop := fun x xs H Q => ∃ a b, x = .str a ∧ xs = [.str b] ∧ (b.length == 0) = false ∧ a.length + 2 ≤ sizeLine ∧ rNewStrs (Txt.split a b) H Q
theorem ok_split {K : PySem.W.Frag} {E : St → XK} : MtOk K E rSplit oSplit := by
  intro p S H x v ds vs Q R rx r h
  unfold oSplit at h
  split at h
  · split at h
    · rename_i hl
      cases rx
      cases r with
      | cons r0 rs =>
      cases rs; cases r0
      exact ⟨_, _, rfl, rfl, hl.1, hl.2, fun q hq => h.newL R (strs_reps _) hq⟩
    · exact h.elim
  · exact h.elim
theorem hasTy_str {x : Str} {S : Hs} : hasTy "str" (.str x) S = true := by simp [hasTy]
end Ly
set_option Elab.async false
set_option linter.all false
set_option maxRecDepth 100000
namespace Ly
open PySem PySem.Spec L2
open PyProof.Rows hiding St
theorem walk_ofL {l : PySem.W.OpenLaw} {n k : Nat} {q : Program} {loose : List Str} {XP : (Str → Option Value) → Heap → Prop} {YP : World → Heap → Prop} {d : DefRec} {CX : World → CXT} {x : Str}
    (hn : l.most = some n) (hn2 : n ≤ sizeLine) (hdf : d.params.defaults = []) (hr : Room k callerA)
    (F : ∀ (w : World) (mg : Str → Option Value) (fa : Addr) (h : Heap), YP w h → h.Ns mainGlobals mg → mg d.name = some (.ref fa) →
      ∃ (K : PySem.W.Frag) (fd : FuncData) (sp : Sp), K.In h ∧ (∀ (s : Shared) (u : Value), BindsTo s fd ⟨[u], []⟩ [(x, u)]) ∧
        (∀ (H : Hp) (a : Addr) (ns : List Int), ns.length ≤ n → (∀ z ∈ ns, Builtin.Int.intBits z ≤ 1048576) → Only H → SqL K H a (ns.map V.int) → sp [.ref a] H (fun v _ => v = .bl true) fun _ _ _ => False) ∧
        ∀ base : Heap, K.In base → base.Ns mainGlobals mg → FnOk l.prog w K mg base (CX w) k fa fd [x] sp)
    (hCX : ∀ (w : World) (H : Hp) (s : Shared) (e : Value) (s' : Shared), CX w [] H s (fun _ _ _ => False) e s' → False) :
    PySem.W.WalkO q loose XP YP l.row.toRowW d [] (fun f vs => PySem.call f vs) := by
  refine Att.attach_callB hn hdf fun w s₀ s₁ mg mb fa o pm cd doc a vs ns G Y ho hd hcd hmg hobj hints hlen hbits hg => ?_
  obtain ⟨K, fd, sp, KX, hb, hsp, hF⟩ := F w mg fa _ Y G.T.g hmg
  exact law_call KX G.T.g G.T.b G.T.builtins G.T.nolimit hg hobj hints (Nat.le_trans hlen hn2) hr hF hb (fun H hO hS => hsp H a ns hlen hbits hO hS) fun H e s' => hCX w H s₁ e s'
def dcVs (K : PySem.W.Frag) (a : Addr) : List Value := match K.lookup a with
  | some ⟨_, _, .dict es _, _⟩ => es.toList.map (·.val)
  | _ => []
def dcAt (K : PySem.W.Frag) (a : Addr) (i : Nat) : Addr := match (dcVs K a)[i]? with
  | some (.ref b) => b
  | _ => 0
def oV (K : PySem.W.Frag) (x : Str) : Option (List (Option V)) := match PySem.W.nsIn K mainGlobals x with
  | some (some u) => some [absV u]
  | _ => none
def oT (K : PySem.W.Frag) (a : Addr) : Option (List (Option V)) := match K.lookup a with
  | some ⟨.type c, _, .seq its _, _⟩ => (match decide (c = "tuple") with
    | true => some (its.toList.map absV)
    | false => none)
  | _ => none
def eqVs (a b : List Value) : Bool := decide (a = b)
section
variable {K : PySem.W.Frag} {a : Addr} {x : Str} {w : World} {mg : Str → Option Value} {h : Heap}
theorem oV_ok {c : Option V} (e : oV K x = some [c]) : ∃ u, PySem.W.nsIn K mainGlobals x = some (some u) ∧ absV u = c := by
  unfold oV at e
  split at e
  · rename_i u q
    exact ⟨u, q, by injection Option.some.inj e⟩
  · cases e
theorem oT_ok {L : List (Option V)} (e : oT K a = some L) : ∃ od its n sl, K.lookup a = some ⟨.type "tuple", od, .seq its n, sl⟩ ∧ its.toList.map absV = L := by
  unfold oT at e
  split at e
  · rename_i c od its n sl q
    split at e
    · rename_i hc
      have := of_decide_eq_true hc
      subst this
      exact ⟨od, its, n, sl, q, Option.some.inj e⟩
    · cases e
  · cases e
theorem dicW_look {ks : List Str} (e : He.dicW K a = some (He.keysIn w.params ks)) : ∃ es n, K.lookup a = some ⟨.type "dict", none, .dict es n, #[]⟩ ∧ (a == sysModules) = false ∧ es.toList.map He.keyOf = He.keysIn w.params ks ∧ dcVs K a = es.toList.map (·.val) := by
  unfold He.dicW at e
  split at e
  · rename_i c es n sl q
    split at e
    · rename_i hc
      obtain ⟨z1, z2⟩ := He.ba hc
      obtain ⟨z3, z4⟩ := He.ba z2
      have e1 : c = "dict" := of_decide_eq_true z1
      have e2 : sl = #[] := Array.isEmpty_iff.mp z3
      subst e1 e2
      refine ⟨es, n, q, ?_, Option.some.inj e, by unfold dcVs; rw [q]⟩
      cases y : a == sysModules with
      | false => rfl
      | true => rw [y] at z4; cases z4
    · cases e
  · cases e
end
abbrev AlA : Type := Bool × List (Option (List (Option (Str × Int)))) × List (Option (List (Option V))) × Bool
abbrev AlB : Type := Bool × List He.FnV
structure Lk where
  fa : List He.Fa
  fn : List He.FnD
  ts : List He.Tab
  xo : List ((PySem.W.Frag → Option (List (Option V))) × List (Option V))
  xb : List (PySem.W.Frag → Bool)
def obsA (L : Lk) (K : PySem.W.Frag) : AlA := (L.fa.all fun f => f.ok K, L.ts.map fun t => He.dicW K (t.1 K), L.xo.map fun t => t.1 K, L.xb.all fun f => f K)
def obsB (L : Lk) (K : PySem.W.Frag) : AlB := (L.fn.all fun d => (He.Fa.code d.at_ d.qual).ok K, L.fn.map fun d => He.fnObs K d.at_)
def valA (L : Lk) (w : World) : AlA := (true, L.ts.map fun t => some (He.keysIn w.params t.2), L.xo.map fun t => some t.2, true)
def valB (L : Lk) : AlB := (true, L.fn.map He.FnD.val)
def SaysL (L : Lk) (w : World) (K : PySem.W.Frag) : Prop := obsA L K = valA L w ∧ obsB L K = valB L
def frL (g : Addr → Option Obj) (n : Nat) : PySem.W.Frag := He.frG g (mainGlobals :: List.range' 10 (n - 10))
def hookL (L : Lk) : PySem.W.Hook where
  α := AlA × AlB
  obs := fun s => (obsA L (frL s.heap.get? s.heap.objs.size), obsB L (frL s.heap.get? s.heap.objs.size))
  val := fun w => (valA L w, valB L)
  says := fun w h => ∃ K : PySem.W.Frag, K.In h ∧ SaysL L w K
  of := fun _ _ e => ⟨_, He.frG_in, congrArg (fun z : AlA × AlB => z.1) e, congrArg (fun z : AlA × AlB => z.2) e⟩
  keeps := fun _ _ _ ⟨K, hK, c⟩ k => ⟨K, PySem.W.Frag.In.keeps hK k, c⟩
noncomputable section
def obA (L : Lk) (s : PySem.W.SharedT) : AlA := obsA L (frL (HandSHeadRun.getT s) s.n)
def obB (L : Lk) (s : PySem.W.SharedT) : AlB := obsB L (frL (HandSHeadRun.getT s) s.n)
theorem obL_eq {L : Lk} (s : PySem.W.SharedT) : (obA L s, obB L s) = (hookL L).obs s.abs := by
  have e : HandSHeadRun.getT s = s.abs.heap.get? := funext (HandSHeadRun.getT_eq s)
  have n : s.abs.heap.objs.size = s.n := PySem.W.absHeap_size _ _ _
  show _ = (obsA L (frL s.abs.heap.get? s.abs.heap.objs.size), obsB L (frL s.abs.heap.get? s.abs.heap.objs.size))
  rw [n, ← e]; rfl
open HandSHeadRun PySem.W PySem.Calls in
def RunA (r : PySem.W.OpenRow) (q : Program) (L : Lk) (M : Nat) (loose : List Str) (w : World) : Prop :=
  ∀ os : OsState, (endF (stepQ (denQ tabQ) r.prog w) M r.prog w os).map (fun s => (looksF r.prog (boot_heap w.params) s.abs, HandSHeadRun.seenQ q loose (importedModules r.prog.main.body) (fun s => PySem.W.xlAt q [] s && PySem.W.recOk r.toRowW.records s) s.abs, obA L s)) = some (true, PySem.W.openGood q loose, valA L w)
open HandSHeadRun PySem.W PySem.Calls in
def RunB (r : PySem.W.OpenRow) (L : Lk) (M : Nat) (w : World) : Prop :=
  ∀ os : OsState, (endF (stepQ (denQ tabQ) r.prog w) M r.prog w os).map (obB L) = some (valB L)
theorem run_ab {r : PySem.W.OpenRow} {q : Program} {L : Lk} {M : Nat} {loose : List Str} {w : World} (a : RunA r q L M loose w) (b : RunB r L M w) : HandSHeadRun.RunEq r q (hookL L) (fun s => (obA L s, obB L s)) M loose w := by
  intro os
  obtain ⟨s, hs, e⟩ := Option.map_eq_some_iff.mp (a os)
  obtain ⟨s2, hs2, e2⟩ := Option.map_eq_some_iff.mp (b os)
  rw [hs] at hs2
  cases hs2
  obtain ⟨e3, e4⟩ := Prod.mk.inj e
  obtain ⟨e5, e6⟩ := Prod.mk.inj e4
  rw [hs]
  show some (_, _, obA L s, obB L s) = some (true, PySem.W.openGood q loose, valA L w, valB L)
  rw [e3, e5, e6, e2]
end
section
variable {L : Lk} {w : World} {K : PySem.W.Frag}
theorem SaysL.fact (c : SaysL L w K) (f : He.Fa) (i : Nat) (h : L.fa[i]? = some f := by rfl) : f.ok K = true :=
  List.all_eq_true.mp (show (L.fa.all fun f => f.ok K) = true from congrArg (fun z : AlA => z.1) c.1) f (List.mem_of_getElem? h)
theorem SaysL.def_ (c : SaysL L w K) (i : Nat) {d : He.FnD} (h : L.fn[i]? = some d := by rfl) :
    ∃ oc od osl kV doc pm an cdv ct, K.lookup (He.fAd K d.at_) = some ⟨oc, od, .func (PySem.W.fnOf d.name d.qual d.params d.body d.scope .none kV doc pm an cdv ct), osl⟩ ∧ PySem.W.codeIn K cdv d.qual = true := by
  have c2 : (L.fn.all fun d => (He.Fa.code d.at_ d.qual).ok K) = true := congrArg (fun z : AlB => z.1) c.2
  have e : L.fn.map (fun d => He.fnObs K d.at_) = L.fn.map He.FnD.val := congrArg (fun z : AlB => z.2) c.2
  have e2 : (L.fn.map fun d => He.fnObs K d.at_)[i]? = (L.fn.map He.FnD.val)[i]? := by rw [e]
  rw [List.getElem?_map, List.getElem?_map, h] at e2
  exact He.fn_ok (Option.some.inj e2) (List.all_eq_true.mp c2 d (List.mem_of_getElem? h))
theorem SaysL.tab (c : SaysL L w K) (i : Nat) {t : He.Tab} (h : L.ts[i]? = some t := by rfl) : He.dicW K (t.1 K) = some (He.keysIn w.params t.2) := by
  have e : L.ts.map (fun t => He.dicW K (t.1 K)) = L.ts.map fun t => some (He.keysIn w.params t.2) := congrArg (fun z : AlA => z.2.1) c.1
  have e2 : (L.ts.map fun t => He.dicW K (t.1 K))[i]? = (L.ts.map fun t => some (He.keysIn w.params t.2))[i]? := by rw [e]
  rw [List.getElem?_map, List.getElem?_map, h] at e2
  exact Option.some.inj e2
theorem SaysL.val (c : SaysL L w K) (i : Nat) {t : (PySem.W.Frag → Option (List (Option V))) × List (Option V)} (h : L.xo[i]? = some t := by rfl) : t.1 K = some t.2 := by
  have e : L.xo.map (fun t => t.1 K) = L.xo.map fun t => some t.2 := congrArg (fun z : AlA => z.2.2.1) c.1
  have e2 : (L.xo.map fun t => t.1 K)[i]? = (L.xo.map fun t => some t.2)[i]? := by rw [e]
  rw [List.getElem?_map, List.getElem?_map, h] at e2
  exact Option.some.inj e2
theorem SaysL.chk (c : SaysL L w K) (i : Nat) {f : PySem.W.Frag → Bool} (h : L.xb[i]? = some f := by rfl) : f K = true := by
  have e : (L.xb.all fun f => f K) = true := congrArg (fun z : AlA => z.2.2.2) c.1
  exact List.all_eq_true.mp e f (List.mem_of_getElem? h)
end
end Ly
set_option Elab.async false
set_option linter.all false
set_option maxRecDepth 100000
namespace Ly
open PySem PySem.Spec L2
open PyProof.Rows hiding St
local macro_rules | `(tactic| simp_arith [$ls,*]) => `(tactic| simp only [Ly.line_le, Ly.atX_no, Ly.v_ok, Ly.v_bad, Ly.v_bind, Ly.k_bd, Ly.v_at, Ly.v_bin, Ly.k_bi, Ly.k_bi2, Ly.v_var, Ly.v_c, Ly.v_un, Ly.k_un, Ly.v_if, Ly.k_ife, Ly.v_and, Ly.k_and, Ly.k_and2, Ly.v_or, Ly.k_or, Ly.k_or2, Ly.v_tup, Ly.k_tup, Ly.v_lst, Ly.k_lst, Ly.v_call, Ly.k_ca, Ly.v_fn, Ly.k_fn, Ly.v_bm, Ly.k_bm, Ly.k_bm2, Ly.v_sl, Ly.k_sl, Ly.k_sl2, Ly.k_sl3, Ly.v_ixK, Ly.k_ixk, Ly.v_inK, Ly.k_ink, Ly.v_notinK, Ly.k_nink, Ly.v_getK2, Ly.k_gk2, Ly.k_gk, Ly.v_get2, Ly.k_g2, Ly.k_g22, Ly.k_g23, Ly.v_nil, Ly.v_cons, Ly.k_co, Ly.k_co2, Ly.v_no, Ly.v_some, Ly.k_so, Ly.k_cm, Ly.v_cmp, Ly.v_tru, Ly.k_tr, Ly.v_notB, Ly.k_no, Ly.v_andB, Ly.k_an, Ly.v_orB, Ly.k_orb, Ly.v_yes, Ly.v_inKB, Ly.k_inkB, Ly.v_notinKB, Ly.k_ninkB, Ly.v_set, Ly.k_st, Ly.v_expr, Ly.k_ex, Ly.v_ret, Ly.k_re, Ly.v_retN, Ly.v_pass, Ly.v_brk, Ly.v_cnt, Ly.v_seq, Ly.k_sq_nx, Ly.k_sq_rt, Ly.k_sq_bk, Ly.k_sq_ct, Ly.v_ifS, Ly.k_ifs, Ly.v_asg, Ly.k_as, Ly.k_as2, Ly.v_aug, Ly.k_au, Ly.v_for, Ly.k_fo, Ly.v_it, Ly.k_it, Ly.k_ij, Ly.v_rng1, Ly.v_rng2, Ly.v_enum, Ly.v_zip, Ly.v_ez, Ly.v_gN, Ly.v_gsN, Ly.v_gsC, Ly.k_gc, Ly.v_gT, Ly.v_gTw, Ly.v_gSb, Ly.k_gsb, Ly.k_gsb2, Ly.k_gsb3, Ly.k_en_rt, Ly.k_en_nx, Ly.k_tu_nx, Ly.k_tu_ct, Ly.k_tu_bk, Ly.k_tu_rt, Ly.v_lc, Ly.k_lc, Ly.v_augI, Ly.k_ag, Ly.k_ag2, Ly.k_ag3, Ly.k_ag4, Ly.k_ag5, Ly.v_del, Ly.k_dl, Ly.k_dl2, Ly.v_setd, Ly.v_pop2, Ly.k_d3, Ly.k_d32, Ly.k_d33, Ly.v_get1, Ly.k_g1, Ly.k_g12, Ly.v_rg1, Ly.k_rg, Ly.v_rg2, Ly.k_rg2, Ly.k_rg22, Ly.v_dicK, Ly.v_dicT, Ly.v_dc, Ly.k_dc, List.getElem?_cons_zero, List.getElem?_cons_succ, List.set_cons_zero, List.set_cons_succ, List.length_cons, List.length_nil, List.map_cons, List.map_nil, List.cons_append, List.nil_append, List.replicate, if_true, if_false, Bool.false_eq_true, Bool.not_true, Bool.not_false, Bool.true_and, Bool.false_and, decide_true, decide_false, decide_eq_true_eq, Nat.zero_add, Nat.reduceAdd, Nat.reduceLeDiff, true_and, and_true, $ls,*])
def nxK (j : Nat) (a : Int) : List (Key × D) := [(.inr "draws", .ref j), (.inr "at", .int a)]
structure Nxt (S : Hs) (i j : Nat) (row : List Int) (a : Int) : Prop where
  d : S[i]? = some (.dic (nxK j a))
  r : S[j]? = some (.lst (row.map D.int))
  ne : i ≠ j
  nn : 0 ≤ a
def NxtA (S : Hs) (i j : Nat) (row : List Int) : Prop := ∃ a, Nxt S i j row a
theorem key_str {x : Str} : (D.str x).key = some (.inr x) := nr rfl
theorem key_int {x : Int} : (D.int x).key = some (.inl x) := nr rfl
theorem oIx_dic {S : Hs} {i : Nat} {kvs : List (Key × D)} {y d : D} {k : Key} (h : S[i]? = some (.dic kvs)) (hk : y.key = some k) (hg : getK kvs k = some d) : oIx (.ref i) y S = .ok d S := by
  simp [oIx, h, dGet, hk, hg]
theorem dGet_dic {S : Hs} {i : Nat} {kvs : List (Key × D)} {y : D} {k : Key} (h : S[i]? = some (.dic kvs)) (hk : y.key = some k) : dGet (.ref i) y S = some (getK kvs k) := by
  simp [h, dGet, hk]
theorem oSet_dic {S : Hs} {i : Nat} {kvs : List (Key × D)} {y d : D} {k : Key} (h : S[i]? = some (.dic kvs)) (hk : y.key = some k) (hl : kvs.length < sizeLine) : oSet (.ref i) y d S = .ok () (S.set i (.dic (setK kvs k d))) := by
  simp [oSet, h, hk, hl]
theorem bLen_lst {S : Hs} {i : Nat} {ds : List D} (h : S[i]? = some (.lst ds)) : bLen [.ref i] S = .ok (.int ds.length) S := by simp [bLen, lenD, h]
theorem bLen_tup {S : Hs} {ds : List D} : bLen [.tup ds] S = .ok (.int ds.length) S := nr rfl
theorem oIx_lst {S : Hs} {i : Nat} {ds : List D} {k : Int} {d : D} (h : S[i]? = some (.lst ds)) (h0 : 0 ≤ k) (h1 : k < (ds.length : Int)) (hd : ds[k.toNat]? = some d) : oIx (.ref i) (.int k) S = .ok d S :=
  oIx_seq (by simp [seqD, h]) h0 h1 hd
theorem oGt_int {a b : Int} {S : Hs} : oGt (.int a) (.int b) S = .ok (.bl (decide (b < a))) S := nr rfl
theorem oLe_int {a b : Int} {S : Hs} : oLe (.int a) (.int b) S = .ok (.bl (decide (a ≤ b))) S := nr rfl
theorem bInt_int {a : Int} {S : Hs} : bInt [.int a] S = .ok (.int a) S := nr rfl
theorem oMod_int {a b : Int} {S : Hs} (h : 0 < b) : oMod (.int a) (.int b) S = .ok (.int (a % b)) S := by simp [oMod, h]
def OutL (S0 : Hs) (q n : Nat) (S : Hs) : Prop := ∃ row : List Int, S[q]? = some (.lst (row.map D.int)) ∧ row.length ≤ n ∧ Kp [] S0 S ∧ S0.length ≤ q
theorem hasTy_lst {S : Hs} {i : Nat} {ds : List D} (h : S[i]? = some (.lst ds)) : hasTy "list" (.ref i) S = true := by simp [hasTy, h]
theorem oAppend_lst {S : Hs} {i : Nat} {ds : List D} {d : D} (h : S[i]? = some (.lst ds)) (hl : ds.length < sizeLine) : oAppend (.ref i) [d] S = .ok .non (S.set i (.lst (ds ++ [d]))) := by simp [oAppend, h, hl]
theorem OutL.push {S0 S : Hs} {q n : Nat} {row : List Int} {v : Int} (h : S[q]? = some (.lst (row.map D.int))) (hl : row.length ≤ n) (k : Kp [] S0 S) (hq : S0.length ≤ q) : OutL S0 q (n + 1) (S.set q (.lst (row.map D.int ++ [.int v]))) :=
  ⟨row ++ [v], by simp [get_put h], by simp; omega, k.setNew hq, hq⟩
theorem OutL.mono {S0 S : Hs} {q n m : Nat} (h : OutL S0 q n S) (hm : n ≤ m) : OutL S0 q m S := by
  obtain ⟨row, a, b, c, d⟩ := h; exact ⟨row, a, by omega, c, d⟩
theorem oFdiv_int {a b : Int} {S : Hs} (h : 0 < b) (h2 : b.natAbs.log2 < 9000) : oFdiv (.int a) (.int b) S = .ok (.int (a / b)) S := by simp [oFdiv, h, h2]
theorem oMul_int {a b : Int} {S : Hs} (h : IntMulOk a b) : oMul (.int a) (.int b) S = .ok (.int (a * b)) S := by simp [oMul, h]
inductive Row where
  | const (d : Nat) (n : Int) | copy (d a : Nat) | op (s : Str) (d a b : Nat) | select (d c a b : Nat) | load (d i a : Nat) | store (i a v : Nat) | out (a : Nat)
  | jump (t : Nat) | branch (a t u : Nat) | stop (a : Nat)
abbrev nD (n : Nat) : D := .int (n : Int)
def Row.D : Row → D
  | .const d n => .tup [.str "const", nD d, .int n]
  | .copy d a => .tup [.str "copy", nD d, nD a]
  | .op s d a b => .tup [.str "op", .str s, nD d, nD a, nD b]
  | .select d c a b => .tup [.str "select", nD d, nD c, nD a, nD b]
  | .load d i a => .tup [.str "load", nD d, nD i, nD a]
  | .store i a v => .tup [.str "store", nD i, nD a, nD v]
  | .out a => .tup [.str "out", nD a]
  | .jump t => .tup [.str "jump", nD t]
  | .branch a t u => .tup [.str "branch", nD a, nD t, nD u]
  | .stop a => .tup [.str "stop", nD a]
def signsL : List Str := ["+", "-", "*", "&", "|", "^", "<<", ">>", "==", "<", "<=", "div", "mod"]
def Row.ok (nr na nb : Nat) : Row → Prop
  | .const d n => d < nr ∧ 0 ≤ n ∧ n ≤ 4294967295
  | .copy d a => d < nr ∧ a < nr
  | .op s d a b => s ∈ signsL ∧ d < nr ∧ a < nr ∧ b < nr
  | .select d c a b => d < nr ∧ c < nr ∧ a < nr ∧ b < nr
  | .load d i a => d < nr ∧ i < na ∧ a < nr
  | .store i a v => i < na ∧ a < nr ∧ v < nr
  | .out a => a < nr
  | .jump t => t < nb
  | .branch a t u => a < nr ∧ t < nb ∧ u < nb
  | .stop a => a < nr
def Row.last : Row → Bool
  | .jump _ => true
  | .branch _ _ _ => true
  | .stop _ => true
  | _ => false
theorem nat_of {k : Int} (h : 0 ≤ k) : D.int k = nD k.toNat := by unfold nD; rw [Int.toNat_of_nonneg h]
theorem NxtA.new {S g : Hs} {i j : Nat} {row : List Int} (h : NxtA S i j row) : NxtA (S ++ g) i j row := by
  obtain ⟨a, h⟩ := h
  exact ⟨a, by rw [List.getElem?_append_left (Real.lt h.d)]; exact h.d, by rw [List.getElem?_append_left (Real.lt h.r)]; exact h.r, h.ne, h.nn⟩
theorem NxtA.lt {S : Hs} {i j : Nat} {row : List Int} (h : NxtA S i j row) : i < S.length := by obtain ⟨a, h⟩ := h; exact Real.lt h.d
theorem NxtA.ltj {S : Hs} {i j : Nat} {row : List Int} (h : NxtA S i j row) : j < S.length := by obtain ⟨a, h⟩ := h; exact Real.lt h.r
structure Arr where
  name : Str
  len : Nat
  label : Str
def Arr.D (a : Arr) : D := .tup [.str a.name, nD a.len, .str a.label]
def Arr.ok (a : Arr) : Prop := 1 ≤ a.len ∧ a.len ≤ 11 ∧ (a.label = "public" ∨ a.label = "secret") ∧ a.name.length ≤ 1000 ∧ PyData.strOk a.name = true
abbrev blockD (b : List Row) : D := .tup (b.map Row.D)
def progD (arrs : List Arr) (params : Nat) (blocks : List (List Row)) : D := .tup [.tup (arrs.map Arr.D), nD params, .tup (blocks.map blockD)]
def blockOk (nr na nb : Nat) (b : List Row) : Prop := b.length ≤ 8 ∧ ∃ body r, b = body ++ [r] ∧ (∀ x ∈ body, x.ok nr na nb ∧ x.last = false) ∧ r.ok nr na nb ∧ r.last = true
structure ProgOk (nr : Nat) (arrs : List Arr) (params : Nat) (blocks : List (List Row)) : Prop where
  na : arrs.length ≤ 3
  ar : ∀ a ∈ arrs, a.ok
  np : params ≤ 4
  nb : 1 ≤ blocks.length ∧ blocks.length ≤ 5
  bl : ∀ b ∈ blocks, blockOk nr arrs.length blocks.length b
theorem bTuple_lst {S : Hs} {q : Nat} {ds : List D} (h : S[q]? = some (.lst ds)) : bTuple [.ref q] S = .ok (.tup ds) S := by simp [bTuple, seqD, h]
theorem oAdd_lst {S : Hs} {p q : Nat} {ds es : List D} (h : S[p]? = some (.lst ds)) (h' : S[q]? = some (.lst es)) (hl : ds.length + es.length ≤ sizeLine) : oAdd (.ref p) (.ref q) S = .ok (.ref S.length) (S ++ [.lst (ds ++ es)]) := by simp [oAdd, h, h', hl]
theorem wipe1 {l : Ls} {s : Nat} : wipeL l [s] = l.set s none := nr rfl
end Ly
set_option Elab.async false
set_option linter.all false
set_option maxRecDepth 100000
namespace Ly
open PySem PySem.Spec L2
open PyProof.Rows hiding St
local macro_rules | `(tactic| simp_arith [$ls,*]) => `(tactic| simp only [Ly.line_le, Ly.atX_no, Ly.v_ok, Ly.v_bad, Ly.v_bind, Ly.k_bd, Ly.v_at, Ly.v_bin, Ly.k_bi, Ly.k_bi2, Ly.v_var, Ly.v_c, Ly.v_un, Ly.k_un, Ly.v_if, Ly.k_ife, Ly.v_and, Ly.k_and, Ly.k_and2, Ly.v_or, Ly.k_or, Ly.k_or2, Ly.v_tup, Ly.k_tup, Ly.v_lst, Ly.k_lst, Ly.v_call, Ly.k_ca, Ly.v_fn, Ly.k_fn, Ly.v_bm, Ly.k_bm, Ly.k_bm2, Ly.v_sl, Ly.k_sl, Ly.k_sl2, Ly.k_sl3, Ly.v_ixK, Ly.k_ixk, Ly.v_inK, Ly.k_ink, Ly.v_notinK, Ly.k_nink, Ly.v_getK2, Ly.k_gk2, Ly.k_gk, Ly.v_get2, Ly.k_g2, Ly.k_g22, Ly.k_g23, Ly.v_nil, Ly.v_cons, Ly.k_co, Ly.k_co2, Ly.v_no, Ly.v_some, Ly.k_so, Ly.k_cm, Ly.v_cmp, Ly.v_tru, Ly.k_tr, Ly.v_notB, Ly.k_no, Ly.v_andB, Ly.k_an, Ly.v_orB, Ly.k_orb, Ly.v_yes, Ly.v_inKB, Ly.k_inkB, Ly.v_notinKB, Ly.k_ninkB, Ly.v_set, Ly.k_st, Ly.v_expr, Ly.k_ex, Ly.v_ret, Ly.k_re, Ly.v_retN, Ly.v_pass, Ly.v_brk, Ly.v_cnt, Ly.v_seq, Ly.k_sq_nx, Ly.k_sq_rt, Ly.k_sq_bk, Ly.k_sq_ct, Ly.v_ifS, Ly.k_ifs, Ly.v_asg, Ly.k_as, Ly.k_as2, Ly.v_aug, Ly.k_au, Ly.v_for, Ly.k_fo, Ly.v_it, Ly.k_it, Ly.k_ij, Ly.v_rng1, Ly.v_rng2, Ly.v_enum, Ly.v_zip, Ly.v_ez, Ly.v_gN, Ly.v_gsN, Ly.v_gsC, Ly.k_gc, Ly.v_gT, Ly.v_gTw, Ly.v_gSb, Ly.k_gsb, Ly.k_gsb2, Ly.k_gsb3, Ly.k_en_rt, Ly.k_en_nx, Ly.k_tu_nx, Ly.k_tu_ct, Ly.k_tu_bk, Ly.k_tu_rt, Ly.v_lc, Ly.k_lc, Ly.v_augI, Ly.k_ag, Ly.k_ag2, Ly.k_ag3, Ly.k_ag4, Ly.k_ag5, Ly.v_del, Ly.k_dl, Ly.k_dl2, Ly.v_setd, Ly.v_pop2, Ly.k_d3, Ly.k_d32, Ly.k_d33, Ly.v_get1, Ly.k_g1, Ly.k_g12, Ly.v_rg1, Ly.k_rg, Ly.v_rg2, Ly.k_rg2, Ly.k_rg22, Ly.v_dicK, Ly.v_dicT, Ly.v_dc, Ly.k_dc, List.getElem?_cons_zero, List.getElem?_cons_succ, List.set_cons_zero, List.set_cons_succ, List.length_cons, List.length_nil, List.map_cons, List.map_nil, List.cons_append, List.nil_append, List.replicate, if_true, if_false, Bool.false_eq_true, Bool.not_true, Bool.not_false, Bool.true_and, Bool.false_and, decide_true, decide_false, decide_eq_true_eq, Nat.zero_add, Nat.reduceAdd, Nat.reduceLeDiff, true_and, and_true, $ls,*])
noncomputable def b_nextD : MS := (mSeq (mSet 2 (mBin oIx (mVar 0) (mC (.str "at"))))
    (mSeq (mAsg (mBin oAdd (mVar 2) (mC (.int 1))) (gSb (mVar 0) (mC (.str "at"))))
    (mSeq (mIfS (mCmp oLt (mVar 2) (mCall bLen (lCons (mBin oIx (mVar 0) (mC (.str "row"))) lNil))) (mRet (mBin oMod (mCall bInt (lCons (mBin oIx (mBin oIx (mVar 0) (mC (.str "row"))) (mVar 2)) lNil)) (mVar 1))) mPass)
    (mSeq (mSet 3 (mBin oMod (mCall bInt (lCons (mBin oMul (mBin oAdd (mBin oAdd (mBin oIx (mVar 0) (mC (.str "seed"))) (mBin oMul (mC (.int 17)) (mVar 2))) (mC (.int 3))) (mC (.int 48271))) lNil)) (mC (.int 2147483647))))
    (mRet (mBin oMod (mBin oFdiv (mBin oMod (mCall bInt (lCons (mBin oAdd (mBin oMul (mVar 3) (mVar 3)) (mVar 2)) lNil)) (mC (.int 2147483629))) (mC (.int 7))) (mVar 1)))))))
noncomputable def m_nextD : MD := mDef 2 2 b_nextD
theorem oIx_at {x : D} {S : Hs} {ds : List D} {i : Int} {d : D} (h : seqD x S = some ds) (ha : L2.atI ds i = some d) : oIx x (.int i) S = .ok d S := by
  unfold seqD at h
  split at h
  · split at h <;> first | (rename_i q; cases h; simp [oIx, q, ha]) | cases h
  · cases h; simp [oIx, ha]
  · cases h
def DrwN (S : Hs) (i j : Nat) : Prop := ∃ row a sd, Drw S i j row a sd
section
variable {S S' g : Hs} {i j : Nat} {many : Int}
theorem DrwN.kp {A : List Nat} (h : DrwN S i j) (k : Kp A S S') (hi : i ∉ A) (hj : j ∉ A) : DrwN S' i j := by
  obtain ⟨row, a, sd, h⟩ := h
  exact ⟨row, a, sd, k.get h.d hi, k.get h.r hj, h.ne, h.nn⟩
theorem DrwN.kp0 (h : DrwN S i j) (k : Kp [] S S') : DrwN S' i j := h.kp k (by simp) (by simp)
theorem DrwN.new (h : DrwN S i j) : DrwN (S ++ g) i j := h.kp0 Kp.new
theorem DrwN.lt (h : DrwN S i j) : i < S.length := by obtain ⟨row, a, sd, h⟩ := h; exact Real.lt h.d
theorem DrwN.ltj (h : DrwN S i j) : j < S.length := by obtain ⟨row, a, sd, h⟩ := h; exact Real.lt h.r
theorem DrwN.ne (h : DrwN S i j) : i ≠ j := by obtain ⟨row, a, sd, h⟩ := h; exact h.ne
theorem nextD_ok (h : DrwN S i j) (hm : 0 < many) : Wp NoX (m_nextD [.ref i, .int many] S) fun v S' => ∃ x : Nat, v = nD x ∧ (x : Int) < many ∧ DrwN S' i j ∧ Kp [i] S S' ∧ S'.length = S.length := by
  obtain ⟨row, a, sd, h⟩ := h
  have nat : ∀ z : Int, 0 ≤ z → z < many → ∃ x : Nat, D.int z = nD x ∧ (x : Int) < many := fun z h0 h1 => ⟨z.toNat, by simp only [nD]; rw [Int.toNat_of_nonneg h0], by omega⟩
  have hd := h.d
  have d0 : S[i]? = some (.dic (drawsK (.ref j) (.int a) (.int sd))) := hd
  have nn := h.nn
  have h2 : (S.set i (drawsO j (a + 1) sd))[i]? = some (.dic (drawsK (.ref j) (.int (a + 1)) (.int sd))) := get_put hd
  have hr2 : (S.set i (drawsO j (a + 1) sd))[j]? = some (.lst (row.map D.int)) := by rw [List.getElem?_set_ne h.ne]; exact h.r
  have hK : Kp [i] S (S.set i (drawsO j (a + 1) sd)) := Kp.set (by simp)
  have hN : DrwN (S.set i (drawsO j (a + 1) sd)) i j := ⟨row, a + 1, sd, h2, hr2, h.ne, by omega⟩
  have hrest : (S.set i (drawsO j (a + 1) sd)).length = S.length := by simp
  have e3 : oSet (.ref i) (.str "at") (.int (a + 1)) S = .ok () (S.set i (drawsO j (a + 1) sd)) := by
    rw [oSet_dic d0 key_str (by rw [drawsK_len]; decide), drawsK_set]; rfl
  refine wp_def0 rfl ?_
  unfold b_nextD
  simp_arith [oIx_dic d0 key_str (drawsK_at _ _ _), oAdd_int, e3, oIx_dic h2 key_str (drawsK_row _ _ _), oIx_dic h2 key_str (drawsK_seed _ _ _), bLen_lst hr2, oLt_int, List.length_map]
  by_cases hl : a < (row.length : Int)
  · have hx : oIx (.ref j) (.int a) (S.set i (drawsO j (a + 1) sd)) = .ok (.int (row.getD a.toNat 0)) (S.set i (drawsO j (a + 1) sd)) := by
      have : a.toNat < row.length := by omega
      exact oIx_lst hr2 nn (by simpa using hl) (by simp [List.getD, List.getElem?_eq_getElem this])
    simp_arith [hl, hx, bInt_int, oMod_int hm]
    obtain ⟨x, e, hx⟩ := nat _ (Int.emod_nonneg _ (by omega)) (Int.emod_lt_of_pos _ hm)
    exact ⟨x, e, hx, hN, hK, hrest⟩
  · have m1 : IntMulOk 17 a := mulok_l (by decide)
    have m2 : ∀ c : Int, IntMulOk c 48271 := fun c => mulok_r (by decide)
    have m3 : ∀ c : Int, IntMulOk (c % 2147483647) (c % 2147483647) := fun c => mulok_r (by omega)
    simp_arith [hl, oMul_int m1, oMul_int (m2 _), oMod_int (show (0:Int) < 2147483647 by decide), bInt_int, oMul_int (m3 _), oMod_int (show (0:Int) < 2147483629 by decide), oFdiv_int (show (0:Int) < 7 by decide) (show Nat.log2 7 < 9000 by decide), oMod_int hm, oAdd_int]
    obtain ⟨x, e, hx⟩ := nat _ (Int.emod_nonneg _ (by omega)) (Int.emod_lt_of_pos _ hm)
    exact ⟨x, e, hx, hN, hK, hrest⟩
end
theorem oSl_lst {S : Hs} {i : Nat} {ds : List D} {a b : Option Int} (h : S[i]? = some (.lst ds)) : oSl (.ref i) a b S = .ok (.ref S.length) (S ++ [.lst (cutD ds a b)]) := by simp [oSl, h]
theorem tix0 {xs : List D} {d : D} {S : Hs} : oIx (.tup (d :: xs)) (.int 0) S = .ok d S := by simp [oIx, L2.atI, L2.ixN]
theorem tix1 {xs : List D} {d e : D} {S : Hs} : oIx (.tup (d :: e :: xs)) (.int 1) S = .ok e S := by
  have : (1 : Int) < ((d :: e :: xs).length : Int) := by simp only [List.length_cons]; omega
  simp only [oIx, L2.atI, L2.ixN]; rw [if_pos (by decide), if_pos this]; rfl
theorem tix2 {xs : List D} {d e f : D} {S : Hs} : oIx (.tup (d :: e :: f :: xs)) (.int 2) S = .ok f S := by
  have : (2 : Int) < ((d :: e :: f :: xs).length : Int) := by simp only [List.length_cons]; omega
  simp only [oIx, L2.atI, L2.ixN]; rw [if_pos (by decide), if_pos this]; rfl
end Ly
set_option Elab.async false
set_option linter.all false
set_option maxRecDepth 100000
namespace Ly
open PySem PySem.Spec L2
open PyProof.Rows hiding St
local macro_rules | `(tactic| simp_arith [$ls,*]) => `(tactic| simp only [Ly.line_le, Ly.atX_no, Ly.v_ok, Ly.v_bad, Ly.v_bind, Ly.k_bd, Ly.v_at, Ly.v_bin, Ly.k_bi, Ly.k_bi2, Ly.v_var, Ly.v_c, Ly.v_un, Ly.k_un, Ly.v_if, Ly.k_ife, Ly.v_and, Ly.k_and, Ly.k_and2, Ly.v_or, Ly.k_or, Ly.k_or2, Ly.v_tup, Ly.k_tup, Ly.v_lst, Ly.k_lst, Ly.v_call, Ly.k_ca, Ly.v_fn, Ly.k_fn, Ly.v_bm, Ly.k_bm, Ly.k_bm2, Ly.v_sl, Ly.k_sl, Ly.k_sl2, Ly.k_sl3, Ly.v_ixK, Ly.k_ixk, Ly.v_inK, Ly.k_ink, Ly.v_notinK, Ly.k_nink, Ly.v_getK2, Ly.k_gk2, Ly.k_gk, Ly.v_get2, Ly.k_g2, Ly.k_g22, Ly.k_g23, Ly.v_nil, Ly.v_cons, Ly.k_co, Ly.k_co2, Ly.v_no, Ly.v_some, Ly.k_so, Ly.k_cm, Ly.v_cmp, Ly.v_tru, Ly.k_tr, Ly.v_notB, Ly.k_no, Ly.v_andB, Ly.k_an, Ly.v_orB, Ly.k_orb, Ly.v_yes, Ly.v_inKB, Ly.k_inkB, Ly.v_notinKB, Ly.k_ninkB, Ly.v_set, Ly.k_st, Ly.v_expr, Ly.k_ex, Ly.v_ret, Ly.k_re, Ly.v_retN, Ly.v_pass, Ly.v_brk, Ly.v_cnt, Ly.v_seq, Ly.k_sq_nx, Ly.k_sq_rt, Ly.k_sq_bk, Ly.k_sq_ct, Ly.v_ifS, Ly.k_ifs, Ly.v_asg, Ly.k_as, Ly.k_as2, Ly.v_aug, Ly.k_au, Ly.v_for, Ly.k_fo, Ly.v_it, Ly.k_it, Ly.k_ij, Ly.v_rng1, Ly.v_rng2, Ly.v_enum, Ly.v_zip, Ly.v_ez, Ly.v_gN, Ly.v_gsN, Ly.v_gsC, Ly.k_gc, Ly.v_gT, Ly.v_gTw, Ly.v_gSb, Ly.k_gsb, Ly.k_gsb2, Ly.k_gsb3, Ly.k_en_rt, Ly.k_en_nx, Ly.k_tu_nx, Ly.k_tu_ct, Ly.k_tu_bk, Ly.k_tu_rt, Ly.v_lc, Ly.k_lc, Ly.v_augI, Ly.k_ag, Ly.k_ag2, Ly.k_ag3, Ly.k_ag4, Ly.k_ag5, Ly.v_del, Ly.k_dl, Ly.k_dl2, Ly.v_setd, Ly.v_pop2, Ly.k_d3, Ly.k_d32, Ly.k_d33, Ly.v_get1, Ly.k_g1, Ly.k_g12, Ly.v_rg1, Ly.k_rg, Ly.v_rg2, Ly.k_rg2, Ly.k_rg22, Ly.v_dicK, Ly.v_dicT, Ly.v_dc, Ly.k_dc, List.getElem?_cons_zero, List.getElem?_cons_succ, List.set_cons_zero, List.set_cons_succ, List.length_cons, List.length_nil, List.map_cons, List.map_nil, List.cons_append, List.nil_append, List.replicate, if_true, if_false, Bool.false_eq_true, Bool.not_true, Bool.not_false, Bool.true_and, Bool.false_and, decide_true, decide_false, decide_eq_true_eq, Nat.zero_add, Nat.reduceAdd, Nat.reduceLeDiff, true_and, and_true, $ls,*])
def opN (s : Str) (a b : Nat) : Nat :=
  if s = "+" then (a + b) % 4294967296
  else if s = "-" then (a + 4294967296 - b) % 4294967296
  else if s = "*" then a * b % 4294967296
  else if s = "&" then a &&& b
  else if s = "|" then a ||| b
  else if s = "^" then a ^^^ b
  else if s = "<<" then a * 2 ^ (b % 32) % 4294967296
  else if s = ">>" then a / 2 ^ (b % 32)
  else if s = "==" then (if a = b then 1 else 0)
  else if s = "<" then (if a < b then 1 else 0)
  else if s = "<=" then (if a ≤ b then 1 else 0)
  else if s = "div" then a / b
  else a % b
theorem pow_big {n : Nat} : (2 : Nat) ^ 32 = 4294967296 := by decide +kernel
theorem opN_lt {s : Str} {a b : Nat} (ha : a < 4294967296) (hb : b < 4294967296) : opN s a b < 4294967296 := by
  have g : ∀ (c : Prop) [Decidable c] (x y : Nat), x < 4294967296 → y < 4294967296 → (if c then x else y) < 4294967296 := fun c _ x y hx hy => by
    by_cases h : c
    · rw [if_pos h]; exact hx
    · rw [if_neg h]; exact hy
  have m : ∀ x : Nat, x % 4294967296 < 4294967296 := fun x => Nat.mod_lt _ (by decide)
  have ha' : a < 2 ^ 32 := by rw [pow_big (n := 0)]; exact ha
  have hb' : b < 2 ^ 32 := by rw [pow_big (n := 0)]; exact hb
  have p : (2 : Nat) ^ 32 = 4294967296 := pow_big (n := 0)
  exact g _ _ _ (m _) (g _ _ _ (m _) (g _ _ _ (m _) (g _ _ _ (Nat.lt_of_le_of_lt Nat.and_le_left ha) (g _ _ _ (p ▸ Nat.or_lt_two_pow ha' hb') (g _ _ _ (p ▸ Nat.xor_lt_two_pow ha' hb') (g _ _ _ (m _) (g _ _ _ (Nat.lt_of_le_of_lt (Nat.div_le_self _ _) ha)
    (g _ _ _ (g _ _ _ (by decide) (by decide)) (g _ _ _ (g _ _ _ (by decide) (by decide)) (g _ _ _ (g _ _ _ (by decide) (by decide)) (g _ _ _ (Nat.lt_of_le_of_lt (Nat.div_le_self _ _) ha) (Nat.lt_of_le_of_lt (Nat.mod_le _ _) ha))))))))))))
abbrev gw : D := .int 4294967295
theorem oAnd_int {a b : Int} {S : Hs} : oAnd (.int a) (.int b) S = .ok (.int (Builtin.bitAnd a b)) S := nr rfl
section
variable {a b : Nat} {S : Hs}
end
end Ly
set_option Elab.async false
set_option linter.all false
set_option maxRecDepth 100000
namespace Ly
open PySem PySem.Spec L2
open PyProof.Rows hiding St
local macro_rules | `(tactic| simp_arith [$ls,*]) => `(tactic| simp only [Ly.line_le, Ly.atX_no, Ly.v_ok, Ly.v_bad, Ly.v_bind, Ly.k_bd, Ly.v_at, Ly.v_bin, Ly.k_bi, Ly.k_bi2, Ly.v_var, Ly.v_c, Ly.v_un, Ly.k_un, Ly.v_if, Ly.k_ife, Ly.v_and, Ly.k_and, Ly.k_and2, Ly.v_or, Ly.k_or, Ly.k_or2, Ly.v_tup, Ly.k_tup, Ly.v_lst, Ly.k_lst, Ly.v_call, Ly.k_ca, Ly.v_fn, Ly.k_fn, Ly.v_bm, Ly.k_bm, Ly.k_bm2, Ly.v_sl, Ly.k_sl, Ly.k_sl2, Ly.k_sl3, Ly.v_ixK, Ly.k_ixk, Ly.v_inK, Ly.k_ink, Ly.v_notinK, Ly.k_nink, Ly.v_getK2, Ly.k_gk2, Ly.k_gk, Ly.v_get2, Ly.k_g2, Ly.k_g22, Ly.k_g23, Ly.v_nil, Ly.v_cons, Ly.k_co, Ly.k_co2, Ly.v_no, Ly.v_some, Ly.k_so, Ly.k_cm, Ly.v_cmp, Ly.v_tru, Ly.k_tr, Ly.v_notB, Ly.k_no, Ly.v_andB, Ly.k_an, Ly.v_orB, Ly.k_orb, Ly.v_yes, Ly.v_inKB, Ly.k_inkB, Ly.v_notinKB, Ly.k_ninkB, Ly.v_set, Ly.k_st, Ly.v_expr, Ly.k_ex, Ly.v_ret, Ly.k_re, Ly.v_retN, Ly.v_pass, Ly.v_brk, Ly.v_cnt, Ly.v_seq, Ly.k_sq_nx, Ly.k_sq_rt, Ly.k_sq_bk, Ly.k_sq_ct, Ly.v_ifS, Ly.k_ifs, Ly.v_asg, Ly.k_as, Ly.k_as2, Ly.v_aug, Ly.k_au, Ly.v_for, Ly.k_fo, Ly.v_it, Ly.k_it, Ly.k_ij, Ly.v_rng1, Ly.v_rng2, Ly.v_enum, Ly.v_zip, Ly.v_ez, Ly.v_gN, Ly.v_gsN, Ly.v_gsC, Ly.k_gc, Ly.v_gT, Ly.v_gTw, Ly.v_gSb, Ly.k_gsb, Ly.k_gsb2, Ly.k_gsb3, Ly.k_en_rt, Ly.k_en_nx, Ly.k_tu_nx, Ly.k_tu_ct, Ly.k_tu_bk, Ly.k_tu_rt, Ly.v_lc, Ly.k_lc, Ly.v_augI, Ly.k_ag, Ly.k_ag2, Ly.k_ag3, Ly.k_ag4, Ly.k_ag5, Ly.v_del, Ly.k_dl, Ly.k_dl2, Ly.v_setd, Ly.v_pop2, Ly.k_d3, Ly.k_d32, Ly.k_d33, Ly.v_get1, Ly.k_g1, Ly.k_g12, Ly.v_rg1, Ly.k_rg, Ly.v_rg2, Ly.k_rg2, Ly.k_rg22, Ly.v_dicK, Ly.v_dicT, Ly.v_dc, Ly.k_dc, List.getElem?_cons_zero, List.getElem?_cons_succ, List.set_cons_zero, List.set_cons_succ, List.length_cons, List.length_nil, List.map_cons, List.map_nil, List.cons_append, List.nil_append, List.replicate, if_true, if_false, Bool.false_eq_true, Bool.not_true, Bool.not_false, Bool.true_and, Bool.false_and, decide_true, decide_false, decide_eq_true_eq, Nat.zero_add, Nat.reduceAdd, Nat.reduceLeDiff, true_and, and_true, $ls,*])
abbrev nDs (L : List Nat) : List D := L.map nD
def natDic (L : List Nat) (v : D) : List (Key × D) := L.map fun n : Nat => ((Sum.inl (n : Int) : Key), v)
theorem natDic_get {L : List Nat} {v : D} {n : Nat} : getK (natDic L v) (.inl (n : Int)) = if n ∈ L then some v else none := by
  induction L with
  | nil => rfl
  | cons a L ih =>
    unfold natDic getK at *
    simp only [List.map_cons, List.find?_cons]
    by_cases h : a = n
    · subst h; simp
    · have h1 : ¬ (Sum.inl (a : Int) : Key) = Sum.inl (n : Int) := by simp; omega
      have h2 : (n ∈ a :: L) = (n ∈ L) := by simp [Ne.symm h]
      simp only [decide_eq_false h1, h2]
      exact ih
theorem natDic_any {L : List Nat} {v : D} {n : Nat} : ((natDic L v).any fun kv => decide (kv.1 = (Sum.inl (n : Int) : Key))) = decide (n ∈ L) := by
  induction L with
  | nil => simp [natDic]
  | cons a L ih =>
    unfold natDic at *
    simp only [List.map_cons, List.any_cons, ih]
    by_cases h : a = n
    · subst h; simp
    · have h1 : ¬ (Sum.inl (a : Int) : Key) = Sum.inl (n : Int) := by simp; omega
      have h2 : (n ∈ a :: L) = (n ∈ L) := by simp [Ne.symm h]
      simp only [decide_eq_false h1, Bool.false_or, h2]
def addN (L : List Nat) (n : Nat) : List Nat := if n ∈ L then L else L ++ [n]
theorem natDic_set {L : List Nat} {v : D} {n : Nat} : setK (natDic L v) (.inl (n : Int)) v = natDic (addN L n) v := by
  unfold setK addN
  rw [natDic_any]
  by_cases h : n ∈ L
  · simp only [h, decide_true, if_true]
    have : ∀ kvs : List (Key × D), (∀ kv ∈ kvs, kv.2 = v) → (kvs.map fun kv => if kv.1 = (Sum.inl (n : Int) : Key) then (kv.1, v) else kv) = kvs := by
      intro kvs
      induction kvs with
      | nil => intro _; rfl
      | cons a r ih =>
        intro hh
        rw [List.map_cons, ih fun kv hk => hh kv (List.mem_cons_of_mem _ hk)]
        have := hh a (List.mem_cons_self ..)
        split
        · obtain ⟨k, d⟩ := a; cases this; rfl
        · rfl
    refine this _ fun kv hk => ?_
    unfold natDic at hk
    rw [List.mem_map] at hk
    obtain ⟨_, _, rfl⟩ := hk; rfl
  · simp [h, natDic]
theorem mem_addN {L : List Nat} {n x : Nat} : x ∈ addN L n ↔ x ∈ L ∨ x = n := by
  unfold addN; split
  · constructor
    · exact .inl
    · rintro (h | rfl) <;> assumption
  · simp
theorem nodup_addN {L : List Nat} {n : Nat} (h : L.Nodup) : (addN L n).Nodup := by
  unfold addN; split
  · exact h
  · rename_i hn
    rw [List.nodup_append]
    refine ⟨h, by simp, fun a ha b hb => ?_⟩
    simp only [List.mem_singleton] at hb
    subst hb; intro e; exact hn (e ▸ ha)
theorem nodup_len {L : List Nat} {n : Nat} (h : L.Nodup) (hb : ∀ x ∈ L, x < n) : L.length ≤ n := by
  have p : L.Perm ((List.range n).filter (fun x => decide (x ∈ L))) := by
    rw [List.perm_ext_iff_of_nodup h (List.Nodup.sublist List.filter_sublist List.nodup_range)]
    intro a
    simp only [List.mem_filter, List.mem_range, decide_eq_true_eq]
    exact ⟨fun ha => ⟨hb a ha, ha⟩, fun ha => ha.2⟩
  have := p.length_eq
  have h2 := List.length_filter_le (fun x => decide (x ∈ L)) (List.range n)
  simp at h2
  omega
theorem intKeys_nat {L : List Nat} {v : D} : intKeys (natDic L v) = some (L.map Int.ofNat) := by
  induction L with
  | nil => rfl
  | cons a L ih =>
    unfold natDic at *
    simp only [List.map_cons, intKeys, ih, Option.map_some]
    rfl
def sortN (L : List Nat) : List Nat := L.mergeSort (fun a b => decide (a ≤ b))
theorem sortN_perm (L : List Nat) : (sortN L).Perm L := List.mergeSort_perm _ _
theorem sortN_pw (L : List Nat) : (sortN L).Pairwise (· ≤ ·) := by
  have := List.pairwise_mergeSort (le := fun a b : Nat => decide (a ≤ b)) (fun a b c h1 h2 => by simp at *; omega) (fun a b => by simp; omega) L
  exact this.imp fun h => by simpa using h
theorem sortI_nat {L : List Nat} : (sortI (L.map Int.ofNat)).map D.int = nDs (sortN L) := by
  have : sortI (L.map Int.ofNat) = (sortN L).map Int.ofNat := by
    symm
    refine sortI_uniq ((sortN_perm L).map _) ?_
    rw [List.pairwise_map]
    exact (sortN_pw L).imp fun h => Int.ofNat_le.mpr h
  rw [this, List.map_map]; rfl
theorem bSorted_dic {S : Hs} {q : Nat} {L : List Nat} {v : D} (h : S[q]? = some (.dic (natDic L v))) (hl : L.length < 64) : bSorted [.ref q] S = .ok (.ref S.length) (S ++ [.lst (nDs (sortN L))]) := by
  simp [bSorted, seqD, h, intKeys_nat, hl, sortI_nat]
theorem oIn_dic {S : Hs} {q n : Nat} {L : List Nat} {v : D} (h : S[q]? = some (.dic (natDic L v))) : oIn (nD n) (.ref q) S = .ok (.bl (decide (n ∈ L))) S := by
  have e : cIn (nD n) (.ref q) S = some (decide (n ∈ L)) := by
    have hf : dGet (.ref q) (nD n) S = some (if n ∈ L then some v else none) := by rw [dGet_dic h (key_int)]; rw [natDic_get]
    simp only [cIn, h, hf, Option.map_some]
    by_cases hh : n ∈ L <;> simp [hh]
  simp only [oIn, e]
theorem oNotIn_dic {S : Hs} {q n : Nat} {L : List Nat} {v : D} (h : S[q]? = some (.dic (natDic L v))) : oNotIn (nD n) (.ref q) S = .ok (.bl (!decide (n ∈ L))) S := by
  have e : cIn (nD n) (.ref q) S = some (decide (n ∈ L)) := by
    have hf : dGet (.ref q) (nD n) S = some (if n ∈ L then some v else none) := by rw [dGet_dic h (key_int)]; rw [natDic_get]
    simp only [cIn, h, hf, Option.map_some]
    by_cases hh : n ∈ L <;> simp [hh]
  simp only [oNotIn, e]
theorem eqF_str {a b : Str} : eqF (.str a) (.str b) = decide (a = b) := by
  unfold eqF; by_cases h : a = b <;> simp [h]
theorem oIn_strs {S : Hs} {x : Str} {xs : List Str} {y : D} (h : y = .tup (xs.map D.str) ∨ y = .wt (xs.map D.str) ∨ ∃ q, y = .ref q ∧ S[q]? = some (.lst (xs.map D.str))) : oIn (.str x) y S = .ok (.bl (decide (x ∈ xs))) S := by
  have ha : (xs.map D.str).any (fun z => eqF z (.str x)) = decide (x ∈ xs) := by
    clear h
    induction xs with
    | nil => simp
    | cons a L ih =>
      simp only [List.map_cons, List.any_cons, eqF_str]
      rw [ih]
      by_cases h : a = x
      · subst h; simp
      · simp [h, Ne.symm h]
  have hf : (flatD (.str x) && (xs.map D.str).all flatD) = true := by simp [flatD]
  have e : cIn (.str x) y S = some (decide (x ∈ xs)) := by
    rcases h with rfl | rfl | ⟨q, rfl, h⟩
    · simp only [cIn, hf, if_true, ha]
    · simp only [cIn, hf, if_true, ha]
    · simp only [cIn, h, hf, if_true, ha]
  simp only [oIn, e]
theorem atI_lit {α : Type} {xs : List α} {n : Nat} {x : α} (h : xs[n]? = some x) : L2.atI xs (n : Int) = some x := by
  obtain ⟨h1, _⟩ := List.getElem?_eq_some_iff.mp h
  rw [atI_nat (by omega) (by omega)]; simpa using h
theorem oIx_tup {S : Hs} {ds : List D} {n : Nat} {d : D} (h : ds[n]? = some d) : oIx (.tup ds) (.int (n : Int)) S = .ok d S := by simp [oIx, atI_lit h]
def Row.wr : Row → Option Nat
  | .const d _ => some d
  | .copy d _ => some d
  | .op _ d _ _ => some d
  | .select d _ _ _ => some d
  | .load d _ _ => some d
  | _ => none
def Row.rd : Row → List Nat
  | .copy _ a => [a]
  | .op _ _ a b => [a, b]
  | .select _ c a b => [c, a, b]
  | .load _ _ a => [a]
  | .store _ a v => [a, v]
  | .out a => [a]
  | .branch a _ _ => [a]
  | .stop a => [a]
  | _ => []
theorem rd_len (r : Row) : r.rd.length ≤ 3 := by cases r <;> simp [Row.rd]
theorem Row.ok.wr_lt {nr na nb : Nat} {r : Row} (h : r.ok nr na nb) {d : Nat} (e : r.wr = some d) : d < nr := by
  cases r <;> simp only [Row.wr, Option.some.injEq, reduceCtorEq] at e <;> subst e <;> first | exact h.1 | exact h.2.1
def formsT : List (Str × D) := [("const", (.wt [(.str "write"), (.str "word")])), ("copy", (.wt [(.str "write"), (.str "read")])), ("op", (.wt [(.str "sign"), (.str "write"), (.str "read"), (.str "read")])), ("select", (.wt [(.str "write"), (.str "read"), (.str "read"), (.str "read")])), ("load", (.wt [(.str "write"), (.str "array"), (.str "read")])), ("store", (.wt [(.str "array"), (.str "read"), (.str "read")])), ("out", (.wt [(.str "read")])), ("jump", (.wt [(.str "block")])), ("branch", (.wt [(.str "read"), (.str "block"), (.str "block")])), ("stop", (.wt [(.str "read")]))]
noncomputable def b_partsL : MS := (mSeq (mSet 2 (mIxK formsT (mBin oIx (mVar 0) (mC (.int 0)))))
    (mRet (mCall bTuple (lCons (mLc (mZip (lCons (mSl (mVar 0) (oSome (mC (.int 1))) oNo) (lCons (mVar 2) lNil))) (cT [3, 4]) (mCmp oEq (mVar 4) (mVar 1)) (mVar 3) [3, 4]) lNil))))
noncomputable def m_partsL : MD := mDef 2 3 b_partsL
theorem lc_zip {X : XP} {Q : D → Hs → Prop} {s t u : Nat} {l : Ls} {S : Hs} {xs : List D} {ys : List Str} {kind : Str} (hl : xs.length = ys.length) (hs : s < l.length) (ht : t < l.length) (hst : s ≠ t) (hu : l[u]? = some (some (.str kind))) (hus : u ≠ s) (hut : u ≠ t) (hx : xs.length ≤ 1000000)
    (hd : ∀ S', S'[S.length]? = some (.lst (((xs.zip ys).filter fun p => decide (p.2 = kind)).map (·.1))) → Kp [] S S' → Q (.ref S.length) S') :
    Wp X (cLoop (.zip (.t xs) (.t (ys.map D.str))) (cT [s, t]) (mCmp oEq (mVar t) (mVar u)) (mVar s) l S.length 0 (S ++ [.lst []])) Q := by
  refine wp_cLoop xs.length (fun k acc S' => acc = (((xs.zip ys).take k).filter fun p => decide (p.2 = kind)).map (·.1) ∧ S'[S.length]? = some (.lst acc) ∧ Kp [] S S') (fun acc S' h => ?_) (fun k acc S' hk h => ?_) (fun acc S' h => ?_) xs.length 0 [] _ (by omega) ⟨by simp, by simp, Kp.new⟩
  · simp only [itGo, Sq.at, List.length_map]
    rw [if_pos (by omega), List.getElem?_eq_none (by omega)]
  · obtain ⟨rfl, h1, h2⟩ := h
    have hk2 : k < ys.length := by omega
    have ex : xs[k]? = some xs[k] := List.getElem?_eq_getElem hk
    have ey : (ys.map D.str)[k]? = some (.str ys[k]) := by simp [List.getElem?_eq_getElem hk2]
    have ez : (xs.zip ys)[k]? = some (xs[k], ys[k]) := by rw [List.getElem?_zip_eq_some]; exact ⟨ex, List.getElem?_eq_getElem hk2⟩
    refine ⟨.tup [xs[k], .str ys[k]], ?_, (l.set s (some xs[k])).set t (some (.str ys[k])), rfl, ?_⟩
    · simp only [itGo, Sq.at, List.length_map]
      rw [if_pos (by omega), ex, ey]
    · have e1 : ((l.set s (some xs[k])).set t (some (.str ys[k])))[t]? = some (some (.str ys[k])) := List.getElem?_set_self (by simpa using ht)
      have e2 : ((l.set s (some xs[k])).set t (some (.str ys[k])))[s]? = some (some xs[k]) := by rw [List.getElem?_set_ne (Ne.symm hst)]; exact List.getElem?_set_self hs
      have e3 : ((l.set s (some xs[k])).set t (some (.str ys[k])))[u]? = some (some (.str kind)) := by rw [List.getElem?_set_ne (Ne.symm hut), List.getElem?_set_ne (Ne.symm hus)]; exact hu
      have hlen : ((((xs.zip ys).take k).filter fun p => decide (p.2 = kind)).map (·.1)).length < sizeLine := by
        refine line_big ?_
        rw [List.length_map]
        refine Nat.le_trans (List.length_filter_le _ _) ?_
        simp; omega
      simp_arith [e1, e2, e3, oEq_str]
      rw [take_at ez, List.filter_append, List.map_append]
      by_cases hc : ys[k] = kind
      · simp only [hc, List.filter_cons, decide_true, if_true, List.filter_nil, List.map_cons, List.map_nil]
        exact ⟨h1, hlen, trivial, get_put h1, h2.setNew (Nat.le_refl _)⟩
      · simp only [hc, List.filter_cons, decide_false, Bool.false_eq_true, if_false, List.filter_nil, List.map_nil, List.append_nil]
        exact ⟨trivial, h1, h2⟩
  · obtain ⟨rfl, h1, h2⟩ := h
    refine hd S' ?_ h2
    rw [List.take_of_length_le (by simp; omega)] at h1
    exact h1
def kindOf : Row → Str → List Nat
  | r, k => if k = "write" then r.wr.toList else r.rd
theorem cut1 {d : D} {ds : List D} : cutD (d :: ds) (some 1) none = ds := by
  simp only [cutD, HT.sIx]
  simp
theorem lookup_forms (r : Row) : ∃ w ds fs, r.D = .tup (.str w :: ds) ∧ formsT.lookup w = some (.wt (fs.map D.str)) ∧ ds.length = fs.length ∧ ds.length ≤ 4 ∧
    (∀ k : Str, k = "write" ∨ k = "read" → ((ds.zip fs).filter fun p => decide (p.2 = k)).map (·.1) = nDs (kindOf r k)) := by
  have hw : ("read" : Str) ≠ "write" := by simp [ofString_inj]
  cases r with
  | const d n => exact ⟨"const", _, ["write", "word"], rfl, by simp [formsT, List.lookup, beq_lit], rfl, by simp, by rintro k (rfl | rfl) <;> simp [kindOf, Row.wr, Row.rd, ofString_inj, nDs]⟩
  | copy d a => exact ⟨"copy", _, ["write", "read"], rfl, by simp [formsT, List.lookup, beq_lit], rfl, by simp, by rintro k (rfl | rfl) <;> simp [kindOf, Row.wr, Row.rd, ofString_inj, nDs]⟩
  | op s d a b => exact ⟨"op", _, ["sign", "write", "read", "read"], rfl, by simp [formsT, List.lookup, beq_lit], rfl, by simp, by rintro k (rfl | rfl) <;> simp [kindOf, Row.wr, Row.rd, ofString_inj, nDs]⟩
  | select d c a b => exact ⟨"select", _, ["write", "read", "read", "read"], rfl, by simp [formsT, List.lookup, beq_lit], rfl, by simp, by rintro k (rfl | rfl) <;> simp [kindOf, Row.wr, Row.rd, ofString_inj, nDs]⟩
  | load d i a => exact ⟨"load", _, ["write", "array", "read"], rfl, by simp [formsT, List.lookup, beq_lit], rfl, by simp, by rintro k (rfl | rfl) <;> simp [kindOf, Row.wr, Row.rd, ofString_inj, nDs]⟩
  | store i a v => exact ⟨"store", _, ["array", "read", "read"], rfl, by simp [formsT, List.lookup, beq_lit], rfl, by simp, by rintro k (rfl | rfl) <;> simp [kindOf, Row.wr, Row.rd, ofString_inj, nDs]⟩
  | out a => exact ⟨"out", _, ["read"], rfl, by simp [formsT, List.lookup, beq_lit], rfl, by simp, by rintro k (rfl | rfl) <;> simp [kindOf, Row.wr, Row.rd, ofString_inj, nDs]⟩
  | jump t => exact ⟨"jump", _, ["block"], rfl, by simp [formsT, List.lookup, beq_lit], rfl, by simp, by rintro k (rfl | rfl) <;> simp [kindOf, Row.wr, Row.rd, ofString_inj, nDs]⟩
  | branch a t u => exact ⟨"branch", _, ["read", "block", "block"], rfl, by simp [formsT, List.lookup, beq_lit], rfl, by simp, by rintro k (rfl | rfl) <;> simp [kindOf, Row.wr, Row.rd, ofString_inj, nDs]⟩
  | stop a => exact ⟨"stop", _, ["read"], rfl, by simp [formsT, List.lookup, beq_lit], rfl, by simp, by rintro k (rfl | rfl) <;> simp [kindOf, Row.wr, Row.rd, ofString_inj, nDs]⟩
theorem partsL_ok {S : Hs} (r : Row) {k : Str} (hk : k = "write" ∨ k = "read") : Wp NoX (m_partsL [r.D, .str k] S) fun v S' => v = .tup (nDs (kindOf r k)) ∧ Kp [] S S' := by
  obtain ⟨w, ds, fs, e1, e2, e3, e4, e5⟩ := lookup_forms r
  rw [e1]
  refine wp_def0 rfl ?_
  unfold b_partsL
  have h0 : ∀ S, oIx (.tup (.str w :: ds)) (.int 0) S = .ok (.str w) S := fun S => oIx_tup (n := 0) rfl
  have h1 : ∀ S, oZip [.tup ds, .wt (fs.map D.str)] S = .ok (.zip (.t ds) (.t (fs.map D.str))) S := fun S => rfl
  simp_arith [h0, e2, oSl, cut1, h1, wipeL]
  refine lc_zip e3 (by simp) (by simp) (by decide) (by rfl) (by decide) (by decide) (by omega) ?_
  intro S' h2 h3
  simp_arith [bTuple_lst h2]
  exact ⟨by rw [e5 k hk], h3⟩
end Ly
set_option Elab.async false
set_option linter.all false
set_option maxRecDepth 100000
namespace Ly
open PySem PySem.Spec L2
open PyProof.Rows hiding St
local macro_rules | `(tactic| simp_arith [$ls,*]) => `(tactic| simp only [Ly.line_le, Ly.atX_no, Ly.v_ok, Ly.v_bad, Ly.v_bind, Ly.k_bd, Ly.v_at, Ly.v_bin, Ly.k_bi, Ly.k_bi2, Ly.v_var, Ly.v_c, Ly.v_un, Ly.k_un, Ly.v_if, Ly.k_ife, Ly.v_and, Ly.k_and, Ly.k_and2, Ly.v_or, Ly.k_or, Ly.k_or2, Ly.v_tup, Ly.k_tup, Ly.v_lst, Ly.k_lst, Ly.v_call, Ly.k_ca, Ly.v_fn, Ly.k_fn, Ly.v_bm, Ly.k_bm, Ly.k_bm2, Ly.v_sl, Ly.k_sl, Ly.k_sl2, Ly.k_sl3, Ly.v_ixK, Ly.k_ixk, Ly.v_inK, Ly.k_ink, Ly.v_notinK, Ly.k_nink, Ly.v_getK2, Ly.k_gk2, Ly.k_gk, Ly.v_get2, Ly.k_g2, Ly.k_g22, Ly.k_g23, Ly.v_nil, Ly.v_cons, Ly.k_co, Ly.k_co2, Ly.v_no, Ly.v_some, Ly.k_so, Ly.k_cm, Ly.v_cmp, Ly.v_tru, Ly.k_tr, Ly.v_notB, Ly.k_no, Ly.v_andB, Ly.k_an, Ly.v_orB, Ly.k_orb, Ly.v_yes, Ly.v_inKB, Ly.k_inkB, Ly.v_notinKB, Ly.k_ninkB, Ly.v_set, Ly.k_st, Ly.v_expr, Ly.k_ex, Ly.v_ret, Ly.k_re, Ly.v_retN, Ly.v_pass, Ly.v_brk, Ly.v_cnt, Ly.v_seq, Ly.k_sq_nx, Ly.k_sq_rt, Ly.k_sq_bk, Ly.k_sq_ct, Ly.v_ifS, Ly.k_ifs, Ly.v_asg, Ly.k_as, Ly.k_as2, Ly.v_aug, Ly.k_au, Ly.v_for, Ly.k_fo, Ly.v_it, Ly.k_it, Ly.k_ij, Ly.v_rng1, Ly.v_rng2, Ly.v_enum, Ly.v_zip, Ly.v_ez, Ly.v_gN, Ly.v_gsN, Ly.v_gsC, Ly.k_gc, Ly.v_gT, Ly.v_gTw, Ly.v_gSb, Ly.k_gsb, Ly.k_gsb2, Ly.k_gsb3, Ly.k_en_rt, Ly.k_en_nx, Ly.k_tu_nx, Ly.k_tu_ct, Ly.k_tu_bk, Ly.k_tu_rt, Ly.v_lc, Ly.k_lc, Ly.v_augI, Ly.k_ag, Ly.k_ag2, Ly.k_ag3, Ly.k_ag4, Ly.k_ag5, Ly.v_del, Ly.k_dl, Ly.k_dl2, Ly.v_setd, Ly.v_pop2, Ly.k_d3, Ly.k_d32, Ly.k_d33, Ly.v_get1, Ly.k_g1, Ly.k_g12, Ly.v_rg1, Ly.k_rg, Ly.v_rg2, Ly.k_rg2, Ly.k_rg22, Ly.v_dicK, Ly.v_dicT, Ly.v_dc, Ly.k_dc, List.getElem?_cons_zero, List.getElem?_cons_succ, List.set_cons_zero, List.set_cons_succ, List.length_cons, List.length_nil, List.map_cons, List.map_nil, List.cons_append, List.nil_append, List.replicate, if_true, if_false, Bool.false_eq_true, Bool.not_true, Bool.not_false, Bool.true_and, Bool.false_and, decide_true, decide_false, decide_eq_true_eq, Nat.zero_add, Nat.reduceAdd, Nat.reduceLeDiff, true_and, and_true, $ls,*])
def secArr (arrs : List Arr) (i : Nat) : Bool := match arrs[i]? with
  | some a => decide (a.label = "secret")
  | none => false
def secLoad (arrs : List Arr) : Row → Bool
  | .load _ i _ => secArr arrs i
  | _ => false
inductive Sec (arrs : List Arr) (labels : List Str) (rows : List Row) : Nat → Prop
  | param {k : Nat} : labels[k]? = some ("secret" : Str) → Sec arrs labels rows k
  | load {r : Row} {d : Nat} : r ∈ rows → secLoad arrs r = true → r.wr = some d → Sec arrs labels rows d
  | dep {r : Row} {d x : Nat} : r ∈ rows → r.wr = some d → x ∈ r.rd → Sec arrs labels rows x → Sec arrs labels rows d
theorem Sec.lt {arrs : List Arr} {labels : List Str} {rows : List Row} {nr na nb n : Nat} (h : Sec arrs labels rows n) (hl : labels.length ≤ nr) (hr : ∀ r ∈ rows, r.ok nr na nb) : n < nr := by
  induction h with
  | param h => obtain ⟨h, _⟩ := List.getElem?_eq_some_iff.mp h; omega
  | load h1 h2 h3 => exact (hr _ h1).wr_lt h3
  | dep h1 h2 h3 h4 ih => exact (hr _ h1).wr_lt h2
def mkDic (ps : List (Nat × Nat)) : List (Key × D) := ps.map fun p => ((Sum.inl (p.1 : Int) : Key), D.ref p.2)
structure Mk (S : Hs) (m : Nat) (ps : List (Nat × Nat)) (f : Nat → List Nat) : Prop where
  d : S[m]? = some (.dic (mkDic ps))
  n1 : (ps.map (·.1)).Nodup
  n2 : (ps.map (·.2)).Nodup
  lo : ∀ p ∈ ps, m < p.2
  li : ∀ p ∈ ps, S[p.2]? = some (.lst (nDs (f p.1)))
  no : ∀ n, n ∉ ps.map (·.1) → f n = []
theorem nodup_inj {α β : Type} {g : α → β} {xs : List α} (h : (xs.map g).Nodup) {a b : α} (ha : a ∈ xs) (hb : b ∈ xs) (e : g a = g b) : a = b := by
  induction xs with
  | nil => cases ha
  | cons x xs ih =>
    simp only [List.map_cons, List.nodup_cons] at h
    rcases List.mem_cons.mp ha with ea | ha'
    · rcases List.mem_cons.mp hb with eb | hb'
      · rw [ea, eb]
      · exact absurd (List.mem_map.mpr ⟨b, hb', by rw [← e, ea]⟩) h.1
    · rcases List.mem_cons.mp hb with eb | hb'
      · exact absurd (List.mem_map.mpr ⟨a, ha', by rw [e, eb]⟩) h.1
      · exact ih h.2 ha' hb'
theorem mkDic_get {ps : List (Nat × Nat)} (h : (ps.map (·.1)).Nodup) {n r : Nat} (hm : (n, r) ∈ ps) : getK (mkDic ps) (.inl (n : Int)) = some (.ref r) := by
  induction ps with
  | nil => cases hm
  | cons a ps ih =>
    simp only [List.map_cons, List.nodup_cons] at h
    unfold mkDic getK at *
    simp only [List.map_cons, List.find?_cons]
    rcases List.mem_cons.mp hm with e | hm
    · subst e; simp
    · have h1 : a.1 ≠ n := fun e => h.1 (by rw [e]; exact List.mem_map.mpr ⟨_, hm, rfl⟩)
      have h2 : ¬ ((Sum.inl (a.1 : Int) : Key) = Sum.inl (n : Int)) := by simp; omega
      simp only [decide_eq_false h2]
      exact ih h.2 hm
theorem mkDic_none {ps : List (Nat × Nat)} {n : Nat} (h : n ∉ ps.map (·.1)) : getK (mkDic ps) (.inl (n : Int)) = none := by
  unfold mkDic getK
  rw [Option.map_eq_none_iff, List.find?_eq_none]
  intro x hx
  rw [List.mem_map] at hx
  obtain ⟨p, hp, rfl⟩ := hx
  simp only [decide_eq_true_eq, Sum.inl.injEq]
  intro e
  exact h (List.mem_map.mpr ⟨p, hp, by show p.1 = n; omega⟩)
theorem mkDic_new {ps : List (Nat × Nat)} {n r : Nat} (h : n ∉ ps.map (·.1)) : setK (mkDic ps) (.inl (n : Int)) (.ref r) = mkDic (ps ++ [(n, r)]) := by
  unfold setK
  have : ((mkDic ps).any fun kv => decide (kv.1 = (Sum.inl (n : Int) : Key))) = false := by
    rw [List.any_eq_false]
    intro x hx
    unfold mkDic at hx
    rw [List.mem_map] at hx
    obtain ⟨p, hp, rfl⟩ := hx
    simp only [decide_eq_true_eq, Sum.inl.injEq]
    intro e
    exact h (List.mem_map.mpr ⟨p, hp, by show p.1 = n; omega⟩)
  rw [if_neg (by rw [this]; simp)]; simp [mkDic]
def updF (f : Nat → List Nat) (n w : Nat) : Nat → List Nat := fun x => if x = n then f x ++ [w] else f x
theorem Mk.keep {S S' : Hs} {m : Nat} {ps : List (Nat × Nat)} {f : Nat → List Nat} (h : Mk S m ps f) {A : List Nat} (k : Kp A S S') (hA : ∀ i ∈ A, i < m) : Mk S' m ps f :=
  ⟨k.get h.d (fun e => by have := hA _ e; omega), h.n1, h.n2, h.lo, fun p hp => k.get (h.li p hp) (fun e => by have := hA _ e; have := h.lo p hp; omega), h.no⟩
def Kb (b : Nat) (S S' : Hs) : Prop := S.length ≤ S'.length ∧ ∀ i, i < b → S'[i]? = S[i]?
theorem Kb.trans {b : Nat} {S S1 S2 : Hs} (h : Kb b S S1) (h' : Kb b S1 S2) : Kb b S S2 := ⟨Nat.le_trans h.1 h'.1, fun i hi => (h'.2 i hi).trans (h.2 i hi)⟩
theorem Kb.of {b : Nat} {A : List Nat} {S S' : Hs} (h : Kp A S S') (hA : ∀ i ∈ A, b ≤ i) (hb : b ≤ S.length) : Kb b S S' := ⟨h.1, fun i hi => h.2 i (by omega) fun e => by have := hA i e; omega⟩
theorem Kb.refl {b : Nat} {S : Hs} : Kb b S S := ⟨Nat.le_refl _, fun _ _ => rfl⟩
theorem Kb.get {b i : Nat} {S S' : Hs} {o : O} (h : Kb b S S') (e : S[i]? = some o) (hi : i < b) : S'[i]? = some o := (h.2 i hi).trans e
theorem Kb.kp {b : Nat} {S0 S S' : Hs} (k : Kp [] S0 S) (h : Kb b S S') (hb : S0.length ≤ b) : Kp [] S0 S' := ⟨Nat.le_trans k.1 h.1, fun i hi hn => (h.2 i (by omega)).trans (k.2 i hi hn)⟩
theorem setd_ok {S : Hs} {m : Nat} {ps : List (Nat × Nat)} {f : Nat → List Nat} {n w : Nat} {l : Ls} {i j k : Nat} (h : Mk S m ps f) (hi : l[i]? = some (some (.ref m))) (hj : l[j]? = some (some (nD n))) (hk : l[k]? = some (some (nD w))) (hf : (f n).length < 1000000) (hp : ps.length < 1000000) :
    Wp NoX (mExpr (mBM "list" oAppend (mSetd (mVar i) (mVar j) (mLst lNil)) (lCons (mVar k) lNil)) l S) fun r S' => r = .nx l ∧ (∃ ps', Mk S' m ps' (updF f n w) ∧ ps'.length ≤ ps.length + 1) ∧ Kb m S S' := by
  have hm : m < S.length := Real.lt h.d
  have ht : hasTy "dict" (.ref m) S = true := by simp [hasTy, h.d]
  simp_arith [hi, hj, hk, ht]
  have hd1 : (S ++ [O.lst []])[m]? = some (.dic (mkDic ps)) := by rw [List.getElem?_append_left hm]; exact h.d
  have hps : (mkDic ps).length < sizeLine := by simp only [mkDic, List.length_map]; exact line_big (by omega)
  by_cases hn : n ∈ ps.map (·.1)
  · rw [List.mem_map] at hn
    obtain ⟨⟨n', r⟩, hm', rfl⟩ := hn
    simp only at hj hf ⊢
    have e1 : oSetd (.ref m) (nD n') (.ref S.length) (S ++ [O.lst []]) = .ok (.ref r) (S ++ [O.lst []]) := by
      simp only [oSetd, hd1, key_int, hps, if_true, mkDic_get h.n1 hm']
    have hr : S[r]? = some (.lst (nDs (f n'))) := h.li _ hm'
    have hr1 : (S ++ [O.lst []])[r]? = some (.lst (nDs (f n'))) := by rw [List.getElem?_append_left (Real.lt hr)]; exact hr
    simp_arith [e1, hasTy_lst hr1, hk, oAppend_lst hr1 (by simp only [List.length_map]; exact line_big (by omega))]
    have hmr : m < r := h.lo _ hm'
    refine ⟨⟨ps, ⟨by rw [List.getElem?_set_ne (by omega)]; exact hd1, h.n1, h.n2, h.lo, fun p hp => ?_, fun x hx => ?_⟩, by omega⟩, ?_⟩
    · by_cases hpr : p.2 = r
      · have : p = (n', r) := nodup_inj h.n2 hp hm' hpr
        subst this
        simp only
        rw [get_put hr1]; simp [updF]
      · rw [List.getElem?_set_ne (Ne.symm hpr), List.getElem?_append_left (Real.lt (h.li p hp)), h.li p hp]
        have : p.1 ≠ n' := fun e => hpr (congrArg Prod.snd (nodup_inj h.n1 hp hm' e))
        simp [updF, this]
    · have : x ≠ n' := fun e => hx (e ▸ List.mem_map.mpr ⟨_, hm', rfl⟩)
      simp [updF, this, h.no x hx]
    · exact ⟨by simp, fun i hi => by rw [List.getElem?_set_ne (by omega), List.getElem?_append_left (by omega)]⟩
  · have e1 : oSetd (.ref m) (nD n) (.ref S.length) (S ++ [O.lst []]) = .ok (.ref S.length) ((S ++ [O.lst []]).set m (.dic (mkDic (ps ++ [(n, S.length)])))) := by
      simp only [oSetd, hd1, key_int, hps, if_true, mkDic_none hn, mkDic_new hn]
    have hr1 : ((S ++ [O.lst []]).set m (.dic (mkDic (ps ++ [(n, S.length)]))))[S.length]? = some (.lst []) := by rw [List.getElem?_set_ne (by omega)]; simp
    simp_arith [e1, hasTy_lst hr1, hk, oAppend_lst hr1 (by simp only [List.length_nil]; exact line_big (by omega))]
    have hfn := h.no n hn
    have hlt : ∀ p ∈ ps, p.2 < S.length := fun p hp => Real.lt (h.li p hp)
    refine ⟨⟨ps ++ [(n, S.length)], ⟨?_, ?_, ?_, ?_, ?_, ?_⟩, by simp⟩, ?_⟩
    · rw [List.getElem?_set_ne (by omega)]; exact get_put hd1
    · rw [List.map_append, List.nodup_append]
      exact ⟨h.n1, by simp, fun a ha b hb e => by simp at hb; subst hb; subst e; exact hn ha⟩
    · rw [List.map_append, List.nodup_append]
      refine ⟨h.n2, by simp, fun a ha b hb e => ?_⟩
      simp at hb; subst hb; subst e
      rw [List.mem_map] at ha
      obtain ⟨p, hp, e⟩ := ha
      have := hlt p hp; omega
    · intro p hp
      rcases List.mem_append.mp hp with hp | hp
      · exact h.lo p hp
      · simp at hp; subst hp; exact hm
    · intro p hp
      rcases List.mem_append.mp hp with hp | hp
      · have h1 := hlt p hp
        have h2 := h.lo p hp
        have : p.1 ≠ n := fun e => hn (e ▸ List.mem_map.mpr ⟨p, hp, rfl⟩)
        rw [List.getElem?_set_ne (by omega), List.getElem?_set_ne (by omega), List.getElem?_append_left h1, h.li p hp]
        simp [updF, this]
      · simp at hp; subst hp
        rw [get_put hr1]
        simp [updF, hfn]
    · intro x hx
      simp only [List.map_append, List.map_cons, List.map_nil, List.mem_append, List.mem_singleton, not_or] at hx
      simp [updF, hx.2, h.no x hx.1]
    · exact ⟨by simp, fun i hi => by rw [List.getElem?_set_ne (by omega), List.getElem?_set_ne (by omega), List.getElem?_append_left (by omega)]⟩
noncomputable def lb_sec0 : MS := (mExpr (mBM "list" oAppend (mSetd (mVar 3) (mVar 7) (mLst lNil)) (lCons (mVar 6) lNil)))
noncomputable def lb_sec1 : MS := (mSeq (mIfS (mAndB (mCmp oEq (mBin oIx (mVar 5) (mC (.int 0))) (mC (.str "load"))) (mCmp oEq (mBin oIx (mBin oIx (mBin oIx (mVar 0) (mC (.int 0))) (mBin oIx (mVar 5) (mC (.int 2)))) (mC (.int 2))) (mC (.str "secret")))) (mExpr (mBM "list" oAppend (mVar 2) (lCons (mVar 6) lNil))) mPass)
    (mFor (mIt (mFn m_partsL (lCons (mVar 5) (lCons (mC (.str "read")) lNil)))) (gN 7) lb_sec0))
noncomputable def lb_sec2 : MS := (mFor (mIt (mFn m_partsL (lCons (mVar 5) (lCons (mC (.str "write")) lNil)))) (gN 6) lb_sec1)
noncomputable def lb_sec3 : MS := (mFor (mIt (mVar 4)) (gN 5) lb_sec2)
noncomputable def c_sec4 : MB := (mTru (mVar 2))
noncomputable def lb_sec5 : MS := (mSeq (mSet 6 (mBM "list" oPop (mVar 2) lNil))
    (mIfS (mCmp oNotIn (mVar 6) (mVar 8)) (mSeq (mAsg (mC (.bl true)) (gSb (mVar 8) (mVar 6)))
    (mExpr (mBM "list" oExtend (mVar 2) (lCons (mGet2 (mVar 3) (mVar 6) (mLst lNil)) lNil)))) mPass))
noncomputable def b_secR : MS := (mSeq (mSet 2 (mLc (mEnum (lCons (mVar 1) lNil)) (cT [6, 9]) (mCmp oEq (mVar 9) (mC (.str "secret"))) (mVar 6) [6, 9]))
    (mSeq (mSet 3 mDicK)
    (mSeq (mFor (mIt (mBin oIx (mVar 0) (mC (.int 2)))) (gN 4) lb_sec3)
    (mSeq (mSet 8 mDicK)
    (mSeq (mWhile c_sec4 lb_sec5)
    (mRet (mVar 8)))))))
noncomputable def m_secR : MD := mDef 2 8 b_secR
section
variable {arrs : List Arr} {labels : List Str} {rows : List Row} {nr na nb : Nat}
structure Gath (arrs : List Arr) (labels : List Str) (done : List Row) (W : List Nat) (f : Nat → List Nat) : Prop where
  gw : ∀ x, x ∈ W ↔ labels[x]? = some ("secret" : Str) ∨ ∃ r ∈ done, secLoad arrs r = true ∧ r.wr = some x
  gf : ∀ x y, y ∈ f x ↔ ∃ r ∈ done, r.wr = some y ∧ x ∈ r.rd
  gwl : W.length ≤ labels.length + done.length
  gfl : ∀ x, (f x).length ≤ 3 * done.length
theorem sec0_loop {S : Hs} {m d : Nat} {f : Nat → List Nat} {ps : List (Nat × Nat)} {xs : List Nat} {l : Ls} (hm : Mk S m ps f) (hl : l.length = 10) (h3 : l[3]? = some (some (.ref m))) (h6 : l[6]? = some (some (nD d))) (hf : ∀ x, (f x).length ≤ 900000) (hp : ps.length < 900000) (hx : xs.length ≤ 3) :
    Wp NoX (fLoop (.tup (nDs xs)) (gN 7) lb_sec0 0 l S) fun r S' => ∃ l' ps' f', r = .nx l' ∧ (∃ o, l' = l.set 7 o ∨ l' = l) ∧ Mk S' m ps' f' ∧ ps'.length ≤ ps.length + 3 ∧ Kb m S S' ∧ (∀ x y, y ∈ f' x ↔ y ∈ f x ∨ (y = d ∧ x ∈ xs)) ∧ (∀ x, (f' x).length ≤ (f x).length + xs.length) := by
  refine wp_tupM nD (fun pre l' S' => ∃ ps' f', (∃ o, l' = l.set 7 o ∨ l' = l) ∧ Mk S' m ps' f' ∧ ps'.length ≤ ps.length + pre.length ∧ Kb m S S' ∧ (∀ x y, y ∈ f' x ↔ y ∈ f x ∨ (y = d ∧ x ∈ pre)) ∧ (∀ x, (f' x).length ≤ (f x).length + pre.length))
    ⟨ps, f, ⟨none, .inr rfl⟩, hm, by simp, Kb.refl, by simp, by simp⟩ ?_ ?_
  · rintro pre x post l' S' rfl ⟨ps', f', ⟨o, hl'⟩, hM, hpl, hK, hf1, hf2⟩
    have hpre : pre.length ≤ 2 := by simp at hx; omega
    simp_arith []
    unfold lb_sec0
    have e3 : (l'.set 7 (some (nD x)))[3]? = some (some (.ref m)) := by
      rw [List.getElem?_set_ne (by decide)]; rcases hl' with rfl | rfl
      · rw [List.getElem?_set_ne (by decide)]; exact h3
      · exact h3
    have e6 : (l'.set 7 (some (nD x)))[6]? = some (some (nD d)) := by
      rw [List.getElem?_set_ne (by decide)]; rcases hl' with rfl | rfl
      · rw [List.getElem?_set_ne (by decide)]; exact h6
      · exact h6
    have e7 : (l'.set 7 (some (nD x)))[7]? = some (some (nD x)) := by
      refine List.getElem?_set_self ?_
      rcases hl' with rfl | rfl <;> simp [hl]
    have g1 := hf2 x
    have g2 := hf x
    refine (setd_ok hM e3 e7 e6 (by omega) (by omega)).mono (fun _ _ _ _ h => h) ?_
    rintro r S2 ⟨rfl, ⟨ps2, hM2, hp2⟩, hK2⟩
    refine ⟨ps2, updF f' x d, ⟨some (nD x), ?_⟩, hM2, by simp; omega, hK.trans hK2, fun z y => ?_, fun z => ?_⟩
    · rcases hl' with rfl | rfl
      · left; rw [List.set_set]
      · left; rfl
    · unfold updF
      split
      · rename_i e; subst e
        simp only [List.mem_append, hf1, List.mem_singleton]
        constructor
        · rintro ((h | h) | h)
          · exact .inl h
          · exact .inr ⟨h.1, .inl h.2⟩
          · exact .inr ⟨h, by simp⟩
        · rintro (h | ⟨h1, h2⟩)
          · exact .inl (.inl h)
          · exact .inr h1
      · rename_i e
        simp only [List.mem_append, hf1, List.mem_singleton, e, or_false]
    · unfold updF
      have := hf2 z
      split
      · simp; omega
      · simp; omega
  · rintro l' S' ⟨ps', f', hl', hM, hpl, hK, hf1, hf2⟩
    exact ⟨l', ps', f', rfl, hl', hM, by omega, hK, hf1, hf2⟩
def SecL (arrs : List Arr) (params : Nat) (blocks : List (List Row)) (labels : List Str) (q m : Nat) (l : Ls) : Prop :=
  ∃ o4 o5 o6 o7 : Option D, l = [some (progD arrs params blocks), some (.tup (labels.map D.str)), some (.ref q), some (.ref m), o4, o5, o6, o7, none, none]
def SecS (arrs : List Arr) (labels : List Str) (S0 : Hs) (q m : Nat) (done : List Row) (S : Hs) : Prop :=
  ∃ W f ps, Gath arrs labels done W f ∧ S[q]? = some (.lst (nDs W)) ∧ Mk S m ps f ∧ ps.length ≤ 3 * done.length ∧ Kp [] S0 S ∧ S0.length ≤ q ∧ q < m
theorem prog_arrs {params : Nat} {blocks : List (List Row)} {S : Hs} : oIx (progD arrs params blocks) (.int 0) S = .ok (.tup (arrs.map Arr.D)) S := oIx_tup (n := 0) rfl
theorem prog_blocks {params : Nat} {blocks : List (List Row)} {S : Hs} : oIx (progD arrs params blocks) (.int 2) S = .ok (.tup (blocks.map blockD)) S := oIx_tup (n := 2) rfl
theorem arr_at {i : Nat} (h : i < arrs.length) {S : Hs} : oIx (.tup (arrs.map Arr.D)) (nD i) S = .ok arrs[i].D S := oIx_tup (n := i) (by simp [List.getElem?_eq_getElem h])
theorem arr_label {a : Arr} {S : Hs} : oIx a.D (.int 2) S = .ok (.str a.label) S := oIx_tup (n := 2) rfl
theorem row_word (r : Row) : ∃ w : Str, (∀ S, oIx r.D (.int 0) S = .ok (.str w) S) ∧ (w = "load" ↔ ∃ d i a, r = .load d i a) := by
  cases r <;> refine ⟨_, fun S => oIx_tup (n := 0) rfl, ?_⟩ <;> simp [ofString_inj]
theorem sec2_ok {S S0 : Hs} {q m params : Nat} {blocks : List (List Row)} {done : List Row} {r : Row} {l : Ls} (hr : r.ok nr arrs.length nb) (hL : SecL arrs params blocks labels q m l) (h5 : l[5]? = some (some r.D)) (hS : SecS arrs labels S0 q m done S) (hd : done.length ≤ 100000) (hlb : labels.length ≤ 100000) :
    Wp NoX (lb_sec2 l S) fun x S' => ∃ l', x = .nx l' ∧ SecL arrs params blocks labels q m l' ∧ SecS arrs labels S0 q m (done ++ [r]) S' := by
  obtain ⟨o4, o5, o6, o7, rfl⟩ := hL
  simp only [List.getElem?_cons_succ, List.getElem?_cons_zero, Option.some.injEq] at h5
  subst h5
  obtain ⟨W, f, ps, hG, hq, hM, hps, hK, hq0, hqm⟩ := hS
  unfold lb_sec2
  simp_arith []
  refine Wp.call (partsL_ok r (.inl rfl)) ?_
  rintro _ S1 ⟨rfl, k1⟩
  have hq1 := k1.get hq (by simp)
  have hM1 := hM.keep k1 (by simp)
  have hK1 := hK.trans k1
  simp_arith [oIt]
  have hkw : kindOf r "write" = r.wr.toList := by simp [kindOf]
  have hkr : kindOf r "read" = r.rd := by simp [kindOf, ofString_inj]
  rw [hkw]
  cases hw : r.wr with
  | none =>
    refine wp_tup0 ⟨_, rfl, ⟨_, _, _, _, rfl⟩, W, f, ps, ⟨fun x => ?_, fun x y => ?_, ?_, fun x => ?_⟩, hq1, hM1, by simp; omega, hK1, hq0, hqm⟩
    · rw [hG.gw x]
      constructor
      · rintro (h | ⟨r', h1, h2⟩)
        · exact .inl h
        · exact .inr ⟨r', List.mem_append_left _ h1, h2⟩
      · rintro (h | ⟨r', h1, h2, h3⟩)
        · exact .inl h
        · rcases List.mem_append.mp h1 with h1 | h1
          · exact .inr ⟨r', h1, h2, h3⟩
          · simp at h1; subst h1; rw [hw] at h3; cases h3
    · rw [hG.gf x y]
      constructor
      · rintro ⟨r', h1, h2⟩; exact ⟨r', List.mem_append_left _ h1, h2⟩
      · rintro ⟨r', h1, h2, h3⟩
        rcases List.mem_append.mp h1 with h1 | h1
        · exact ⟨r', h1, h2, h3⟩
        · simp at h1; subst h1; rw [hw] at h2; cases h2
    · have := hG.gwl; simp; omega
    · have := hG.gfl x; simp; omega
  | some d =>
    refine wp_tup1 ?_
    obtain ⟨w, hw1, hw2⟩ := row_word r
    unfold lb_sec1
    simp_arith [-v_for, hw1, oEq_str]
    have rest : ∀ (W' : List Nat) (S2 : Hs), S2[q]? = some (.lst (nDs W')) → Mk S2 m ps f → Kp [] S0 S2 → (∀ x, x ∈ W' ↔ x ∈ W ∨ (secLoad arrs r = true ∧ x = d)) → W'.length ≤ W.length + 1 →
        Wp NoX (mFor (mIt (mFn m_partsL (lCons (mVar 5) (lCons (mC (.str "read")) lNil)))) (gN 7) lb_sec0 [some (progD arrs params blocks), some (.tup (labels.map D.str)), some (.ref q), some (.ref m), o4, some r.D, some (nD d), o7, none, none] S2)
          (tuK (fun l2 S2 => ∃ l', F.nx l2 = .nx l' ∧ SecL arrs params blocks labels q m l' ∧ SecS arrs labels S0 q m (done ++ [r]) S2) fun x S' => ∃ l', x = .nx l' ∧ SecL arrs params blocks labels q m l' ∧ SecS arrs labels S0 q m (done ++ [r]) S') := by
      intro W' S2 hq2 hM2 hK2 hW' hWl
      simp_arith []
      refine Wp.call (partsL_ok r (.inr rfl)) ?_
      rintro _ S3 ⟨rfl, k3⟩
      simp_arith [oIt, hkr]
      refine (sec0_loop (hM2.keep k3 (by simp)) (by simp) (by rfl) (by rfl) (fun x => by have := hG.gfl x; omega) (by omega) (rd_len r)).mono (fun _ _ _ _ h => h) ?_
      rintro x S4 ⟨l', ps', f', rfl, ⟨o, hl'⟩, hM4, hp4, hK4, hf1, hf2⟩
      have hq4 := hK4.get (k3.get hq2 (by simp)) hqm
      have hmS : S0.length ≤ m := by omega
      refine ⟨l', rfl, ?_, W', f', ps', ⟨fun x => ?_, fun x y => ?_, ?_, fun x => ?_⟩, hq4, hM4, by simp; omega, Kb.kp (hK2.trans k3) hK4 hmS, hq0, hqm⟩
      · rcases hl' with rfl | rfl
        · exact ⟨_, _, _, _, rfl⟩
        · exact ⟨_, _, _, _, rfl⟩
      · rw [hW' x, hG.gw x]
        constructor
        · rintro ((h | ⟨r', h1, h2⟩) | ⟨h1, h2⟩)
          · exact .inl h
          · exact .inr ⟨r', List.mem_append_left _ h1, h2⟩
          · exact .inr ⟨r, by simp, h1, by rw [hw, h2]⟩
        · rintro (h | ⟨r', h1, h2, h3⟩)
          · exact .inl (.inl h)
          · rcases List.mem_append.mp h1 with h1 | h1
            · exact .inl (.inr ⟨r', h1, h2, h3⟩)
            · simp at h1; subst h1; rw [hw] at h3; cases h3; exact .inr ⟨h2, rfl⟩
      · rw [hf1 x y, hG.gf x y]
        constructor
        · rintro (⟨r', h1, h2⟩ | ⟨h1, h2⟩)
          · exact ⟨r', List.mem_append_left _ h1, h2⟩
          · exact ⟨r, by simp, by rw [hw, h1], h2⟩
        · rintro ⟨r', h1, h2, h3⟩
          rcases List.mem_append.mp h1 with h1 | h1
          · exact .inl ⟨r', h1, h2, h3⟩
          · simp at h1; subst h1; rw [hw] at h2; cases h2; exact .inr ⟨rfl, h3⟩
      · have := hG.gwl; simp; omega
      · have := hf2 x; have := hG.gfl x; have := rd_len r; simp; omega
    by_cases hload : w = "load"
    · obtain ⟨d', i, a, rfl⟩ := hw2.mp hload
      have hi : i < arrs.length := hr.2.1
      have h2 : ∀ S, oIx (Row.load d' i a).D (.int 2) S = .ok (nD i) S := fun S => oIx_tup (n := 2) rfl
      have hsl : secLoad arrs (Row.load d' i a) = decide (arrs[i].label = "secret") := by simp [secLoad, secArr, List.getElem?_eq_getElem hi]
      simp_arith [-v_for, hload, prog_arrs, h2, arr_at hi, arr_label, oEq_str]
      by_cases hsec : arrs[i].label = "secret"
      · have hb : (nDs W).length < sizeLine := by simp only [List.length_map]; refine line_big ?_; have := hG.gwl; omega
        simp_arith [-v_for, hsec, hasTy_lst hq1, oAppend_lst hq1 hb]
        refine rest (W ++ [d]) _ (by rw [get_put hq1]; simp) (hM1.keep (Kp.set (A := [q]) (by simp)) (by simpa using hqm)) (hK1.setNew hq0) (fun x => by rw [hsl]; simp [hsec]) (by simp)
      · simp_arith [-v_for, hsec]
        exact rest W _ hq1 hM1 hK1 (fun x => by rw [hsl]; simp [hsec]) (by omega)
    · simp_arith [-v_for, hload]
      refine rest W _ hq1 hM1 hK1 (fun x => ?_) (by omega)
      have : secLoad arrs r = false := by
        cases r <;> first | rfl | exact absurd (hw2.mpr ⟨_, _, _, rfl⟩) hload
      simp [this]
end
section
variable {arrs : List Arr} {labels : List Str} {nr nb : Nat}
theorem Mk.keep2 {S S' : Hs} {m : Nat} {ps : List (Nat × Nat)} {f : Nat → List Nat} (h : Mk S m ps f) {A : List Nat} (k : Kp A S S') (hA : m ∉ A) (hB : ∀ p ∈ ps, p.2 ∉ A) : Mk S' m ps f :=
  ⟨k.get h.d hA, h.n1, h.n2, h.lo, fun p hp => k.get (h.li p hp) (hB p hp), h.no⟩
theorem Mk.get {S : Hs} {m : Nat} {ps : List (Nat × Nat)} {f : Nat → List Nat} (h : Mk S m ps f) (n : Nat) : (∃ r, (n, r) ∈ ps ∧ dGet (.ref m) (nD n) S = some (some (.ref r)) ∧ S[r]? = some (.lst (nDs (f n)))) ∨ (dGet (.ref m) (nD n) S = some none ∧ f n = []) := by
  by_cases hn : n ∈ ps.map (·.1)
  · rw [List.mem_map] at hn
    obtain ⟨⟨n', r⟩, hm', rfl⟩ := hn
    exact .inl ⟨r, hm', by rw [dGet_dic h.d key_int, mkDic_get h.n1 hm'], h.li _ hm'⟩
  · exact .inr ⟨by rw [dGet_dic h.d key_int, mkDic_none hn], h.no n hn⟩
structure Wrk (arrs : List Arr) (labels : List Str) (rows : List Row) (f : Nat → List Nat) (nr : Nat) (L W : List Nat) : Prop where
  nd : L.Nodup
  lt : ∀ x ∈ L, x < nr
  so : ∀ x, x ∈ L ∨ x ∈ W → Sec arrs labels rows x
  ba : ∀ x : Nat, labels[x]? = some ("secret" : Str) ∨ (∃ r ∈ rows, secLoad arrs r = true ∧ r.wr = some x) → x ∈ L ∨ x ∈ W
  cl : ∀ x ∈ L, ∀ y ∈ f x, y ∈ L ∨ y ∈ W
  wl : W.length ≤ labels.length + rows.length + L.length * (3 * rows.length)
theorem Wrk.done {rows : List Row} {f : Nat → List Nat} {L W0 : List Nat} (h : Wrk arrs labels rows f nr L []) (hG : Gath arrs labels rows W0 f) (x : Nat) : x ∈ L ↔ Sec arrs labels rows x := by
  refine ⟨fun hx => h.so x (.inl hx), fun hx => ?_⟩
  have e : ∀ y, y ∈ L ∨ y ∈ ([] : List Nat) → y ∈ L := fun y hy => hy.elim id (by simp)
  induction hx with
  | param h1 => exact e _ (h.ba _ (.inl h1))
  | load h1 h2 h3 => exact e _ (h.ba _ (.inr ⟨_, h1, h2, h3⟩))
  | dep h1 h2 h3 h4 ih => exact e _ (h.cl _ ih _ ((hG.gf _ _).mpr ⟨_, h1, h2, h3⟩))
structure WhS (arrs : List Arr) (labels : List Str) (rows : List Row) (nr : Nat) (S0 : Hs) (q m s : Nat) (f : Nat → List Nat) (ps : List (Nat × Nat)) (L W : List Nat) (S : Hs) : Prop where
  wk : Wrk arrs labels rows f nr L W
  hq : S[q]? = some (.lst (nDs W))
  hs : S[s]? = some (.dic (natDic L (.bl true)))
  hm : Mk S m ps f
  ps : ∀ p ∈ ps, p.2 < s
  k : Kp [] S0 S
  q0 : S0.length ≤ q
  qm : q < m
  ms : m < s
def WhL (arrs : List Arr) (params : Nat) (blocks : List (List Row)) (labels : List Str) (q m s : Nat) (l : Ls) : Prop :=
  ∃ o4 o5 o6 o7 : Option D, l = [some (progD arrs params blocks), some (.tup (labels.map D.str)), some (.ref q), some (.ref m), o4, o5, o6, o7, some (.ref s), none]
theorem tru_lst {S : Hs} {q : Nat} {ds : List D} (h : S[q]? = some (.lst ds)) : oTru (.ref q) S = .ok (!ds.isEmpty) S := by simp [oTru, tru, h]
theorem sec5_ok {rows : List Row} {params : Nat} {blocks : List (List Row)} {S0 S : Hs} {q m s : Nat} {f : Nat → List Nat} {ps : List (Nat × Nat)} {L W0 W : List Nat} {x : Nat} {l : Ls} (hG : Gath arrs labels rows W0 f) (hx : ∀ y, Sec arrs labels rows y → y < nr)
    (hsz : labels.length + rows.length + (nr + 1) * (3 * rows.length + 1) ≤ 1000000) (hL : WhL arrs params blocks labels q m s l) (h : WhS arrs labels rows nr S0 q m s f ps L (W ++ [x]) S) :
    Wp NoX (lb_sec5 l S) fun r S' => ∃ l' L' W', r = .nx l' ∧ WhL arrs params blocks labels q m s l' ∧ WhS arrs labels rows nr S0 q m s f ps L' W' S' ∧ ((L' = L ∧ W' = W) ∨ (L'.length = L.length + 1 ∧ W'.length ≤ W.length + 3 * rows.length)) := by
  obtain ⟨o4, o5, o6, o7, rfl⟩ := hL
  have hxn := hx x (h.wk.so x (.inr (by simp)))
  have hLl := nodup_len h.wk.nd h.wk.lt
  have hpop : oPop (.ref q) [] S = .ok (nD x) (S.set q (.lst (nDs W))) := by
    simp [oPop, h.hq]
  unfold lb_sec5
  simp_arith [hasTy_lst h.hq, hpop]
  have ne1 : s ≠ q := by have := h.qm; have := h.ms; omega
  have hs1 : (S.set q (.lst (nDs W)))[s]? = some (.dic (natDic L (.bl true))) := by rw [List.getElem?_set_ne (Ne.symm ne1)]; exact h.hs
  have hq1 : (S.set q (.lst (nDs W)))[q]? = some (.lst (nDs W)) := get_put h.hq
  have hM1 : Mk (S.set q (.lst (nDs W))) m ps f := h.hm.keep (Kp.set (A := [q]) (by simp)) (by simpa using h.qm)
  have hK1 : Kp [] S0 (S.set q (.lst (nDs W))) := h.k.setNew h.q0
  simp_arith [oNotIn_dic hs1]
  by_cases hin : x ∈ L
  · simp_arith [hin]
    refine ⟨_, L, W, rfl, ⟨_, _, _, _, rfl⟩, ⟨⟨h.wk.nd, h.wk.lt, fun y hy => h.wk.so y (hy.imp id fun h => by simp [h]), fun y hy => ?_, fun y hy z hz => ?_, ?_⟩, hq1, hs1, hM1, h.ps, hK1, h.q0, h.qm, h.ms⟩, .inl ⟨rfl, rfl⟩⟩
    · rcases h.wk.ba y hy with h1 | h1
      · exact .inl h1
      · simp only [List.mem_append, List.mem_singleton] at h1
        rcases h1 with h1 | rfl
        · exact .inr h1
        · exact .inl hin
    · rcases h.wk.cl y hy z hz with h1 | h1
      · exact .inl h1
      · simp only [List.mem_append, List.mem_singleton] at h1
        rcases h1 with h1 | rfl
        · exact .inr h1
        · exact .inl hin
    · have := h.wk.wl; simp at this; omega
  · have hlen : (natDic L (.bl true)).length < sizeLine := by simp only [natDic, List.length_map]; refine line_big ?_; have : (nr + 1) * 1 ≤ (nr + 1) * (3 * rows.length + 1) := Nat.mul_le_mul_left _ (by omega); omega
    have hset : oSet (.ref s) (nD x) (.bl true) (S.set q (.lst (nDs W))) = .ok () ((S.set q (.lst (nDs W))).set s (.dic (natDic (addN L x) (.bl true)))) := by
      rw [oSet_dic hs1 key_int hlen, natDic_set]
    simp_arith [hin, hset]
    generalize hS2 : (S.set q (.lst (nDs W))).set s (.dic (natDic (addN L x) (.bl true))) = S2
    have hs2 : S2[s]? = some (.dic (natDic (addN L x) (.bl true))) := by rw [← hS2]; exact get_put hs1
    have hq2 : S2[q]? = some (.lst (nDs W)) := by rw [← hS2, List.getElem?_set_ne ne1]; exact hq1
    have hM2 : Mk S2 m ps f := by
      rw [← hS2]
      exact hM1.keep2 (Kp.set (A := [s]) (by simp)) (by simp; have := h.ms; omega) (fun p hp => by simp; have := h.ps p hp; omega)
    have hK2 : Kp [] S0 S2 := by rw [← hS2]; exact hK1.setNew (by have := h.q0; have := h.qm; have := h.ms; omega)
    have htd : hasTy "dict" (.ref m) S2 = true := by simp [hasTy, hM2.d]
    simp_arith [hasTy_lst hq2, htd]
    have hadd : addN L x = L ++ [x] := by simp [addN, hin]
    have hwl := h.wk.wl
    have hfl := hG.gfl x
    have hmul : L.length * (3 * rows.length) ≤ nr * (3 * rows.length) := Nat.mul_le_mul_right _ hLl
    have hmul2 : (nr + 1) * (3 * rows.length + 1) = nr * (3 * rows.length) + 3 * rows.length + nr + 1 := by rw [Nat.add_mul, Nat.mul_add, Nat.mul_one, Nat.one_mul]; omega
    simp only [List.length_append, List.length_singleton] at hwl
    have fin : ∀ (S3 : Hs), Kp [q] S2 S3 → S3[q]? = some (.lst (nDs (W ++ f x))) → ∃ l' L' W', F.nx [some (progD arrs params blocks), some (D.tup (labels.map D.str)), some (D.ref q), some (D.ref m), o4, o5, some (nD x), o7, some (D.ref s), none] = .nx l' ∧ WhL arrs params blocks labels q m s l' ∧ WhS arrs labels rows nr S0 q m s f ps L' W' S3 ∧ ((L' = L ∧ W' = W) ∨ (L'.length = L.length + 1 ∧ W'.length ≤ W.length + 3 * rows.length)) := by
      intro S3 k3 hq3
      refine ⟨_, L ++ [x], W ++ f x, rfl, ⟨_, _, _, _, rfl⟩, ⟨⟨by rw [← hadd]; exact nodup_addN h.wk.nd, ?_, ?_, ?_, ?_, ?_⟩, hq3, ?_, ?_, h.ps, ?_, h.q0, h.qm, h.ms⟩, .inr ⟨by simp, by simp; omega⟩⟩
      · intro y hy
        simp only [List.mem_append, List.mem_singleton] at hy
        rcases hy with hy | rfl
        · exact h.wk.lt y hy
        · exact hxn
      · intro y hy
        simp only [List.mem_append, List.mem_singleton] at hy
        rcases hy with (hy | rfl) | (hy | hy)
        · exact h.wk.so y (.inl hy)
        · exact h.wk.so y (.inr (by simp))
        · exact h.wk.so y (.inr (by simp [hy]))
        · obtain ⟨r, h1, h2, h3⟩ := (hG.gf x y).mp hy
          exact .dep h1 h2 h3 (h.wk.so x (.inr (by simp)))
      · intro y hy
        have := h.wk.ba y hy
        simp only [List.mem_append, List.mem_singleton] at this ⊢
        rcases this with h1 | h1 | h1
        · exact .inl (.inl h1)
        · exact .inr (.inl h1)
        · exact .inl (.inr h1)
      · intro y hy z hz
        simp only [List.mem_append, List.mem_singleton] at hy ⊢
        rcases hy with hy | rfl
        · have := h.wk.cl y hy z hz
          simp only [List.mem_append, List.mem_singleton] at this
          rcases this with h1 | h1 | h1
          · exact .inl (.inl h1)
          · exact .inr (.inl h1)
          · exact .inl (.inr h1)
        · exact .inr (.inr hz)
      · simp only [List.length_append, List.length_singleton, Nat.add_mul, Nat.one_mul]; omega
      · rw [← hadd]; exact k3.get hs2 (by simpa using ne1)
      · exact hM2.keep k3 (by simpa using h.qm)
      · exact hK2.after k3 (by intro i hi hi2; simp at hi; subst hi; have := h.q0; omega)
    have hlt2 : (S2 ++ [O.lst []]).length = S2.length + 1 := by simp
    have hqA : (S2 ++ [O.lst []])[q]? = some (.lst (nDs W)) := by rw [List.getElem?_append_left (Real.lt hq2)]; exact hq2
    have hMA : Mk (S2 ++ [O.lst []]) m ps f := hM2.keep (A := []) Kp.new (by simp)
    rcases hMA.get x with ⟨r, hr, e1, e2⟩ | ⟨e1, e2⟩
    · have hbig : (nDs W).length + (nDs (f x)).length ≤ sizeLine := by simp only [List.length_map]; exact line_le (by omega)
      have hex : oExtend (.ref q) [.ref r] (S2 ++ [O.lst []]) = .ok .non ((S2 ++ [O.lst []]).set q (.lst (nDs W ++ nDs (f x)))) := by simp only [oExtend, hqA, e2, if_pos hbig]
      simp_arith [e1, hex]
      exact fin _ (Kp.new.trans (Kp.set (by simp))) (by rw [get_put hqA]; simp)
    · have e3 : (S2 ++ [O.lst []])[S2.length]? = some (.lst []) := get_end
      have hbig : (nDs W).length + ([] : List D).length ≤ sizeLine := by simp only [List.length_map, List.length_nil]; exact line_le (by omega)
      have hex : oExtend (.ref q) [.ref S2.length] (S2 ++ [O.lst []]) = .ok .non ((S2 ++ [O.lst []]).set q (.lst (nDs W ++ []))) := by simp only [oExtend, hqA, e3, if_pos hbig]
      simp_arith [e1, hex]
      exact fin _ (Kp.new.trans (Kp.set (by simp))) (by rw [get_put hqA, e2]; simp)
theorem secR_ok {S : Hs} {params : Nat} {blocks : List (List Row)} (hr : ∀ b ∈ blocks, ∀ r ∈ b, r.ok nr arrs.length nb) (hl : labels.length ≤ nr)
    (hsz : labels.length + blocks.flatten.length + (nr + 1) * (3 * blocks.flatten.length + 1) ≤ 100000) :
    Wp NoX (m_secR [progD arrs params blocks, .tup (labels.map D.str)] S) fun v S' => ∃ s L, v = .ref s ∧ S'[s]? = some (.dic (natDic L (.bl true))) ∧ L.Nodup ∧ (∀ x, x ∈ L ↔ Sec arrs labels blocks.flatten x) ∧ Kp [] S S' ∧ S.length ≤ s := by
  refine wp_def0 rfl ?_
  unfold b_secR
  have hen : ∀ S, oEnum [.tup (labels.map D.str)] S = .ok (.enum (.t (labels.map D.str))) S := fun S => rfl
  simp_arith [hen, wipeL]
  refine lc_pure (α := Nat) (fun k => .tup [nD k, .str (labels.getD k "")]) (xs := List.range labels.length) (fun k => if labels.getD k "" = "secret" then some (nD k) else none) ?_ (by simp; omega) ?_ ?_
  · intro S' _ k hk
    simp only [List.length_range] at hk
    simp only [itGo, Sq.at, Option.bind_some, List.length_map]
    rw [if_pos hk]
    rcases Nat.lt_or_ge k labels.length with h | h
    · simp [List.getElem?_eq_getElem h, List.getElem?_range h, List.getD]
    · rw [List.getElem?_eq_none (by simpa using h), List.getElem?_eq_none (by simpa using h)]; rfl
  · intro k hk S' k1
    refine ⟨_, rfl, ?_⟩
    simp only [List.zip_cons_cons, List.zip_nil_right, List.foldl_cons, List.foldl_nil]
    simp_arith [oEq_str]
    refine ⟨Kp.refl, ?_⟩
    by_cases hc : labels.getD k "" = "secret"
    · rw [if_pos (by simpa using hc), if_pos hc]; exact ⟨Kp.refl, rfl⟩
    · rw [if_neg (by simpa using hc), if_neg hc]
  · intro S1 hq1 k1
    simp_arith [prog_blocks, oIt]
    have hW : (List.range labels.length).filterMap (fun k => if labels.getD k "" = "secret" then some (nD k) else none) = nDs ((List.range labels.length).filter fun k => decide (labels.getD k "" = "secret")) := by
      generalize List.range labels.length = xs
      induction xs with
      | nil => rfl
      | cons a xs ih =>
        simp only [List.filterMap_cons, List.filter_cons, decide_eq_true_eq]
        split <;> rename_i e <;> split at e <;> simp_all
    rw [hW] at hq1
    generalize hWW : (List.range labels.length).filter (fun k => decide (labels.getD k "" = "secret")) = W0 at hq1
    have hqlt := Real.lt hq1
    have hG0 : Gath arrs labels [] W0 (fun _ => []) := by
      refine ⟨fun x => ?_, fun x y => by simp, ?_, fun x => by simp⟩
      · rw [← hWW]
        simp only [List.mem_filter, List.mem_range, decide_eq_true_eq, List.not_mem_nil, false_and, exists_false, or_false]
        constructor
        · rintro ⟨h1, h2⟩
          rw [← h2]; simp [List.getD, List.getElem?_eq_getElem h1]
        · intro h
          obtain ⟨h1, h2⟩ := List.getElem?_eq_some_iff.mp h
          exact ⟨h1, by simpa [List.getD, List.getElem?_eq_getElem h1] using h2⟩
      · rw [← hWW]; have := List.length_filter_le (fun k => decide (labels.getD k "" = "secret")) (List.range labels.length); simp at this; simp; omega
    have hflat : ∀ pre b post, blocks = pre ++ b :: post → pre.flatten.length + b.length ≤ blocks.flatten.length := by
      rintro pre b post rfl; simp <;> omega
    refine wp_tupM blockD (fun pre l' S' => SecL arrs params blocks labels S.length S1.length l' ∧ SecS arrs labels S S.length S1.length pre.flatten S') ?_ ?_ ?_
    · refine ⟨⟨_, _, _, _, rfl⟩, W0, fun _ => [], [], hG0, ?_, ⟨by simp [mkDic], by simp, by simp, by simp, by simp, by simp⟩, by simp, k1.app, Nat.le_refl _, hqlt⟩
      rw [List.getElem?_append_left hqlt]; exact hq1
    · rintro pre b post l' S' hsp ⟨⟨o4, o5, o6, o7, rfl⟩, hS⟩
      have hlen := hflat pre b post hsp
      have hb : b ∈ blocks := by rw [hsp]; simp
      simp_arith []
      unfold lb_sec3
      simp_arith [oIt]
      refine wp_tupM Row.D (fun pre2 l' S' => SecL arrs params blocks labels S.length S1.length l' ∧ SecS arrs labels S S.length S1.length (pre.flatten ++ pre2) S') ⟨⟨_, _, _, _, rfl⟩, by simpa using hS⟩ ?_ ?_
      · rintro pre2 r post2 l2 S2 hsp2 ⟨⟨o4, o5, o6, o7, rfl⟩, hS2⟩
        have hrb : r ∈ b := by rw [hsp2]; simp
        have hl2 : pre2.length ≤ b.length := by rw [hsp2]; simp
        simp_arith []
        refine (sec2_ok (hr b hb r hrb) ⟨_, _, _, _, rfl⟩ (by rfl) hS2 (by rw [List.length_append]; omega) (by omega)).mono (fun _ _ _ _ h => h) ?_
        rintro x S3 ⟨l3, rfl, h3, h4⟩
        exact ⟨h3, by rw [← List.append_assoc]; exact h4⟩
      · rintro l2 S2 ⟨hL2, hS2⟩
        exact ⟨hL2, by simpa using hS2⟩
    · rintro l' S' ⟨⟨o4, o5, o6, o7, rfl⟩, W, f, ps, hG, hq, hM, hps, hK, hq0, hqm⟩
      simp_arith []
      have hxl : ∀ y, Sec arrs labels blocks.flatten y → y < nr := fun y hy => hy.lt hl (nb := nb) (na := arrs.length) (fun r hr' => by
        rw [List.mem_flatten] at hr'
        obtain ⟨b, h1, h2⟩ := hr'
        exact hr b h1 r h2)
      have hqlt' := Real.lt hq
      refine wp_while (fun mm l2 S2 => ∃ L W, WhL arrs params blocks labels S.length S1.length S'.length l2 ∧ WhS arrs labels blocks.flatten nr S S.length S1.length S'.length f ps L W S2 ∧ mm = (nr - L.length) * (3 * blocks.flatten.length + 1) + W.length) ?_ _ _ _
        ⟨[], W, ⟨_, _, _, _, rfl⟩, ⟨⟨by simp, by simp, ?_, ?_, by simp, ?_⟩, ?_, by simp [natDic], hM.keep (A := []) Kp.new (by simp), fun p hp => Real.lt (hM.li p hp), hK.app, hq0, hqm, Real.lt hM.d⟩, rfl⟩
      · rintro mm l2 S2 ⟨L, W2, ⟨p4, p5, p6, p7, rfl⟩, hw, rfl⟩
        unfold c_sec4
        simp_arith [tru_lst hw.hq]
        rcases List.eq_nil_or_concat W2 with rfl | ⟨W3, x, rfl⟩
        · simp_arith [List.isEmpty_nil]
          exact ⟨_, L, rfl, hw.hs, hw.wk.nd, hw.wk.done hG, hw.k, by have := hw.q0; have := hw.qm; have := hw.ms; omega⟩
        · rw [List.concat_eq_append] at *
          have hne : (nDs (W3 ++ [x])).isEmpty = false := by simp
          simp only [hne, Bool.not_false, if_true]
          refine (sec5_ok hG hxl (by omega) ⟨_, _, _, _, rfl⟩ hw).mono (fun _ _ _ _ h => h) ?_
          rintro r S3 ⟨l3, L3, W4, rfl, hL3, hw3, hc⟩
          have hLl := nodup_len hw3.wk.nd hw3.wk.lt
          refine ⟨_, ?_, L3, W4, hL3, hw3, rfl⟩
          rcases hc with ⟨rfl, rfl⟩ | ⟨e1, e2⟩
          · simp
          · rw [e1]
            have : nr - L.length = (nr - (L.length + 1)) + 1 := by omega
            rw [this, Nat.add_mul, Nat.one_mul]
            simp only [List.length_append, List.length_singleton]; omega
      · rintro x (h | h)
        · simp at h
        · rcases (hG.gw x).mp h with h | ⟨r, h1, h2, h3⟩
          · exact .param h
          · exact .load h1 h2 h3
      · intro x hx; exact .inr ((hG.gw x).mpr hx)
      · have := hG.gwl; simp only [List.length_nil, Nat.zero_mul, Nat.add_zero]; exact this
      · rw [List.getElem?_append_left hqlt']; exact hq
end
end Ly
set_option Elab.async false
set_option linter.all false
set_option maxRecDepth 100000
namespace Ly
open PySem PySem.Spec L2
open PyProof.Rows hiding St
local macro_rules | `(tactic| simp_arith [$ls,*]) => `(tactic| simp only [Ly.line_le, Ly.atX_no, Ly.v_ok, Ly.v_bad, Ly.v_bind, Ly.k_bd, Ly.v_at, Ly.v_bin, Ly.k_bi, Ly.k_bi2, Ly.v_var, Ly.v_c, Ly.v_un, Ly.k_un, Ly.v_if, Ly.k_ife, Ly.v_and, Ly.k_and, Ly.k_and2, Ly.v_or, Ly.k_or, Ly.k_or2, Ly.v_tup, Ly.k_tup, Ly.v_lst, Ly.k_lst, Ly.v_call, Ly.k_ca, Ly.v_fn, Ly.k_fn, Ly.v_bm, Ly.k_bm, Ly.k_bm2, Ly.v_sl, Ly.k_sl, Ly.k_sl2, Ly.k_sl3, Ly.v_ixK, Ly.k_ixk, Ly.v_inK, Ly.k_ink, Ly.v_notinK, Ly.k_nink, Ly.v_getK2, Ly.k_gk2, Ly.k_gk, Ly.v_get2, Ly.k_g2, Ly.k_g22, Ly.k_g23, Ly.v_nil, Ly.v_cons, Ly.k_co, Ly.k_co2, Ly.v_no, Ly.v_some, Ly.k_so, Ly.k_cm, Ly.v_cmp, Ly.v_tru, Ly.k_tr, Ly.v_notB, Ly.k_no, Ly.v_andB, Ly.k_an, Ly.v_orB, Ly.k_orb, Ly.v_yes, Ly.v_inKB, Ly.k_inkB, Ly.v_notinKB, Ly.k_ninkB, Ly.v_set, Ly.k_st, Ly.v_expr, Ly.k_ex, Ly.v_ret, Ly.k_re, Ly.v_retN, Ly.v_pass, Ly.v_brk, Ly.v_cnt, Ly.v_seq, Ly.k_sq_nx, Ly.k_sq_rt, Ly.k_sq_bk, Ly.k_sq_ct, Ly.v_ifS, Ly.k_ifs, Ly.v_asg, Ly.k_as, Ly.k_as2, Ly.v_aug, Ly.k_au, Ly.v_for, Ly.k_fo, Ly.v_it, Ly.k_it, Ly.k_ij, Ly.v_rng1, Ly.v_rng2, Ly.v_enum, Ly.v_zip, Ly.v_ez, Ly.v_gN, Ly.v_gsN, Ly.v_gsC, Ly.k_gc, Ly.v_gT, Ly.v_gTw, Ly.v_gSb, Ly.k_gsb, Ly.k_gsb2, Ly.k_gsb3, Ly.k_en_rt, Ly.k_en_nx, Ly.k_tu_nx, Ly.k_tu_ct, Ly.k_tu_bk, Ly.k_tu_rt, Ly.v_lc, Ly.k_lc, Ly.v_augI, Ly.k_ag, Ly.k_ag2, Ly.k_ag3, Ly.k_ag4, Ly.k_ag5, Ly.v_del, Ly.k_dl, Ly.k_dl2, Ly.v_setd, Ly.v_pop2, Ly.k_d3, Ly.k_d32, Ly.k_d33, Ly.v_get1, Ly.k_g1, Ly.k_g12, Ly.v_rg1, Ly.k_rg, Ly.v_rg2, Ly.k_rg2, Ly.k_rg22, Ly.v_dicK, Ly.v_dicT, Ly.v_dc, Ly.k_dc, List.getElem?_cons_zero, List.getElem?_cons_succ, List.set_cons_zero, List.set_cons_succ, List.length_cons, List.length_nil, List.map_cons, List.map_nil, List.cons_append, List.nil_append, List.replicate, if_true, if_false, Bool.false_eq_true, Bool.not_true, Bool.not_false, Bool.true_and, Bool.false_and, decide_true, decide_false, decide_eq_true_eq, Nat.zero_add, Nat.reduceAdd, Nat.reduceLeDiff, true_and, and_true, $ls,*])
def Row.regs (r : Row) : List Nat := r.wr.toList ++ r.rd
section
variable {arrs : List Arr} {labels : List Str} {nr nb : Nat}
structure NmS (S0 : Hs) (nr s : Nat) (P : Nat → Prop) (S : Hs) : Prop where
  ex : ∃ L : List Nat, S[s]? = some (.dic (natDic L (.bl true))) ∧ L.Nodup ∧ (∀ x ∈ L, x < nr) ∧ ∀ x, x ∈ L ↔ P x
  k : Kp [] S0 S
  lo : S0.length ≤ s
theorem NmS.mono {S0 S S' : Hs} {s : Nat} {P P' : Nat → Prop} (h : NmS S0 nr s P S) (k : Kp [] S S') (e : ∀ x, P x ↔ P' x) : NmS S0 nr s P' S' := by
  obtain ⟨L, h1, h2, h3, h4⟩ := h.ex
  exact ⟨⟨L, k.get h1 (by simp), h2, h3, fun x => (h4 x).trans (e x)⟩, h.k.trans k, h.lo⟩
theorem seqAt_lst {S : Hs} {i : Nat} {ds : List D} (h : S[i]? = some (.lst ds)) : seqAt S i = some ds := by simp [seqAt, seqD, h]
theorem oIt_lst {S : Hs} {i : Nat} {ds : List D} (h : S[i]? = some (.lst ds)) : oIt (.ref i) S = .ok (.lst i) S := by simp [oIt, seqAt_lst h]
def pubArr (arrs : List Arr) (i : Nat) : Bool := match arrs[i]? with
  | some a => decide (a.label = "public")
  | none => false
def watched (arrs : List Arr) : Row → List Nat
  | .branch a _ _ => [a]
  | .out a => [a]
  | .load _ _ a => [a]
  | .store i a v => if pubArr arrs i = true then [a, v] else [a]
  | .op s _ a b => if s = "div" ∨ s = "mod" then [a, b] else []
  | _ => []
noncomputable def b_watched : MS := (mSeq (mSet 2 (mBin oIx (mVar 0) (mC (.int 0))))
    (mSeq (mIfS (mCmp oIn (mVar 2) (mTup (lCons (mC (.str "branch")) (lCons (mC (.str "out")) lNil)))) (mRet (mTup (lCons (mBin oIx (mVar 0) (mC (.int 1))) lNil))) mPass)
    (mSeq (mIfS (mCmp oEq (mVar 2) (mC (.str "load"))) (mRet (mTup (lCons (mBin oIx (mVar 0) (mC (.int 3))) lNil))) mPass)
    (mSeq (mIfS (mCmp oEq (mVar 2) (mC (.str "store"))) (mRet (mIf (mCmp oEq (mBin oIx (mBin oIx (mVar 1) (mBin oIx (mVar 0) (mC (.int 1)))) (mC (.int 2))) (mC (.str "public"))) (mTup (lCons (mBin oIx (mVar 0) (mC (.int 2))) (lCons (mBin oIx (mVar 0) (mC (.int 3))) lNil))) (mTup (lCons (mBin oIx (mVar 0) (mC (.int 2))) lNil)))) mPass)
    (mSeq (mIfS (mAndB (mCmp oEq (mVar 2) (mC (.str "op"))) (mCmp oIn (mBin oIx (mVar 0) (mC (.int 1))) (mTup (lCons (mC (.str "div")) (lCons (mC (.str "mod")) lNil))))) (mRet (mTup (lCons (mBin oIx (mVar 0) (mC (.int 3))) (lCons (mBin oIx (mVar 0) (mC (.int 4))) lNil)))) mPass)
    (mRet (mTup lNil)))))))
noncomputable def m_watched : MD := mDef 2 1 b_watched
theorem oIn_lit2 {S : Hs} {x a b : Str} : oIn (.str x) (.tup [.str a, .str b]) S = .ok (.bl (decide (x = a ∨ x = b))) S := by
  have := oIn_strs (S := S) (x := x) (xs := [a, b]) (.inl rfl)
  simpa using this
theorem ix0 {S : Hs} {d : D} {ds : List D} : oIx (.tup (d :: ds)) (.int 0) S = .ok d S := oIx_tup (n := 0) rfl
theorem ix1 {S : Hs} {d e : D} {ds : List D} : oIx (.tup (d :: e :: ds)) (.int 1) S = .ok e S := oIx_tup (n := 1) rfl
theorem ix2 {S : Hs} {d e f : D} {ds : List D} : oIx (.tup (d :: e :: f :: ds)) (.int 2) S = .ok f S := oIx_tup (n := 2) rfl
theorem ix3 {S : Hs} {d e f g : D} {ds : List D} : oIx (.tup (d :: e :: f :: g :: ds)) (.int 3) S = .ok g S := oIx_tup (n := 3) rfl
theorem ix4 {S : Hs} {d e f g h : D} {ds : List D} : oIx (.tup (d :: e :: f :: g :: h :: ds)) (.int 4) S = .ok h S := oIx_tup (n := 4) rfl
theorem watched_ok {S : Hs} {r : Row} (hr : r.ok nr arrs.length nb) : Wp NoX (m_watched [r.D, .tup (arrs.map Arr.D)] S) fun v S' => v = .tup (nDs (watched arrs r)) ∧ S' = S := by
  refine wp_def0 rfl ?_
  unfold b_watched
  cases r with
  | store i a v =>
    have hi : i < arrs.length := hr.1
    simp_arith [Row.D, ix0, ix1, ix2, ix3, oIn_lit2, oEq_str, ofString_inj, String.reduceEq, or_false, or_true, false_or, arr_at hi, arr_label]
    by_cases hp : arrs[i].label = "public"
    · simp [hp, watched, pubArr, List.getElem?_eq_getElem hi]
    · simp [hp, watched, pubArr, List.getElem?_eq_getElem hi]
  | op s d a b =>
    by_cases hs : s = "div" ∨ s = "mod"
    · simp_arith [Row.D, ix0, ix1, ix2, ix3, ix4, oIn_lit2, oEq_str, ofString_inj, String.reduceEq, or_false, or_true, false_or, hs]
      simp [watched, hs]
    · simp_arith [Row.D, ix0, ix1, ix2, ix3, ix4, oIn_lit2, oEq_str, ofString_inj, String.reduceEq, or_false, or_true, false_or, hs]
      simp [watched, hs]
  | _ =>
    simp_arith [Row.D, ix0, ix1, ix2, ix3, ix4, oIn_lit2, oEq_str, ofString_inj, String.reduceEq, or_false, or_true, false_or]
    simp [watched]
end
noncomputable def lb_keep0 : MS := (mIfS (mCmp oIn (mVar 5) (mVar 2)) (mRet (mC (.bl false))) mPass)
noncomputable def lb_keep1 : MS := (mFor (mIt (mFn m_watched (lCons (mVar 4) (lCons (mBin oIx (mVar 0) (mC (.int 0))) lNil)))) (gN 5) lb_keep0)
noncomputable def lb_keep2 : MS := (mFor (mIt (mVar 3)) (gN 4) lb_keep1)
noncomputable def b_keep : MS := (mSeq (mSet 2 (mFn m_secR (lCons (mVar 0) (lCons (mVar 1) lNil))))
    (mSeq (mFor (mIt (mBin oIx (mVar 0) (mC (.int 2)))) (gN 3) lb_keep2)
    (mRet (mC (.bl true)))))
noncomputable def m_keep : MD := mDef 2 4 b_keep
section
variable {arrs : List Arr} {labels : List Str} {nr nb : Nat}
def Keeps (arrs : List Arr) (P : Nat → Prop) (rows : List Row) : Prop := ∀ r ∈ rows, ∀ x ∈ watched arrs r, ¬ P x
theorem keep_ok {S : Hs} {params : Nat} {blocks : List (List Row)} (hr : ∀ b ∈ blocks, ∀ r ∈ b, r.ok nr arrs.length nb) (hl : labels.length ≤ nr)
    (hsz : labels.length + blocks.flatten.length + (nr + 1) * (3 * blocks.flatten.length + 1) ≤ 100000) :
    Wp NoX (m_keep [progD arrs params blocks, .tup (labels.map D.str)] S) fun v S' => (∃ b : Bool, v = .bl b ∧ (b = true ↔ Keeps arrs (Sec arrs labels blocks.flatten) blocks.flatten)) ∧ Kp [] S S' := by
  refine wp_def0 rfl ?_
  unfold b_keep
  simp_arith []
  refine Wp.call (secR_ok hr hl hsz) ?_
  rintro _ S1 ⟨s, L, rfl, hs, hLn, hLs, k1, hs0⟩
  simp_arith [prog_blocks, oIt]
  have bad : ∀ (r : Row) (x : Nat), r ∈ blocks.flatten → x ∈ watched arrs r → x ∈ L → (∃ b : Bool, D.bl false = .bl b ∧ (b = true ↔ Keeps arrs (Sec arrs labels blocks.flatten) blocks.flatten)) ∧ Kp [] S S1 := fun r x h1 h2 h3 =>
    ⟨⟨false, rfl, by simp; exact fun h => h r h1 x h2 ((hLs x).mp h3)⟩, k1⟩
  refine wp_tupM blockD (fun pre l' S' => (∃ o3 o4 o5 : Option D, l' = [some (progD arrs params blocks), some (.tup (labels.map D.str)), some (.ref s), o3, o4, o5]) ∧ S' = S1 ∧ Keeps arrs (· ∈ L) pre.flatten) ⟨⟨_, _, _, rfl⟩, rfl, by simp [Keeps]⟩ ?_ ?_
  · rintro pre b post l' S' hsp ⟨⟨o3, o4, o5, rfl⟩, rfl, hk⟩
    have hb : b ∈ blocks := by rw [hsp]; simp
    simp_arith []
    unfold lb_keep2
    simp_arith [oIt]
    refine wp_tupM Row.D (fun pre2 l' S2 => (∃ o3 o4 o5 : Option D, l' = [some (progD arrs params blocks), some (.tup (labels.map D.str)), some (.ref s), o3, o4, o5]) ∧ S2 = S' ∧ Keeps arrs (· ∈ L) (pre.flatten ++ pre2)) ⟨⟨_, _, _, rfl⟩, rfl, by simpa using hk⟩ ?_ ?_
    · rintro pre2 r post2 l2 S2 hsp2 ⟨⟨o3, o4, o5, rfl⟩, rfl, hk2⟩
      have hrb : r ∈ b := by rw [hsp2]; simp
      have hrf : r ∈ blocks.flatten := List.mem_flatten.mpr ⟨b, hb, hrb⟩
      simp_arith []
      unfold lb_keep1
      simp_arith [prog_arrs]
      refine Wp.call (watched_ok (hr b hb r hrb)) ?_
      rintro _ S3 ⟨rfl, rfl⟩
      simp_arith [oIt]
      refine wp_tupM nD (fun pre3 l' S4 => (∃ o3 o4 o5 : Option D, l' = [some (progD arrs params blocks), some (.tup (labels.map D.str)), some (.ref s), o3, o4, o5]) ∧ S4 = S3 ∧ ∀ x ∈ pre3, x ∉ L) ⟨⟨_, _, _, rfl⟩, rfl, by simp⟩ ?_ ?_
      · rintro pre3 x post3 l3 S4 hsp3 ⟨⟨o3, o4, o5, rfl⟩, rfl, hk3⟩
        have hxw : x ∈ watched arrs r := by rw [hsp3]; simp
        unfold lb_keep0
        simp_arith [oIn_dic hs]
        by_cases hx : x ∈ L
        · simp_arith [hx]
          exact bad r x hrf hxw hx
        · simp_arith [hx]
          refine ⟨⟨_, _, _, rfl⟩, fun y hy => ?_⟩
          rcases List.mem_append.mp hy with hy | hy
          · exact hk3 y hy
          · simp only [List.mem_singleton] at hy; subst hy; exact hx
      · rintro l3 S4 ⟨⟨o3, o4, o5, rfl⟩, rfl, hk3⟩
        refine ⟨⟨_, _, _, rfl⟩, rfl, ?_⟩
        rw [← List.append_assoc]
        intro r' hr' y hy
        rcases List.mem_append.mp hr' with h | h
        · exact hk2 r' h y hy
        · simp only [List.mem_singleton] at h; subst h; exact hk3 y hy
    · rintro l2 S2 ⟨hL2, rfl, hk2⟩
      exact ⟨hL2, rfl, by simpa using hk2⟩
  · rintro l' S' ⟨⟨o3, o4, o5, rfl⟩, rfl, hk⟩
    simp_arith []
    exact ⟨⟨true, rfl, by simp; exact fun r h1 x h2 h3 => hk r h1 x h2 ((hLs x).mpr h3)⟩, k1⟩
end
end Ly
set_option Elab.async false
set_option linter.all false
set_option maxRecDepth 100000
namespace Ly
open PySem PySem.Spec L2
open PyProof.Rows hiding St
theorem eq_nil {S : Hs} {i j : Nat} {xs : List D} (hi : S[i]? = some (.lst xs)) (hj : S[j]? = some (.lst [])) (hp : D.plains xs = true) (hd : PyData.depthAll (D.toPs xs) ≤ 30) : cEqD (.ref i) (.ref j) S = some xs.isEmpty := by
  unfold cEqD
  rw [(pd_lst hi hp hd).1, (pd_lst hj rfl (by simp [D.toPs, PyData.depthAll])).1]
  simp only [cEqS]
  rw [if_pos ⟨(pd_lst hi hp hd).2, (pd_lst hj rfl (by simp [D.toPs, PyData.depthAll])).2⟩]
  cases xs with
  | nil => rfl
  | cons a xs => rfl
theorem plains_nats {L : List Nat} : D.plains (nDs L) = true := by rw [plains_mem]; intro x hx; rw [List.mem_map] at hx; obtain ⟨n, _, rfl⟩ := hx; rfl
theorem depth_nats {L : List Nat} : PyData.depthAll (D.toPs (nDs L)) ≤ 30 := by
  refine depthAll_mem _ fun y hy => ?_
  rw [List.mem_map] at hy; obtain ⟨n, _, rfl⟩ := hy
  simp [D.toP, PyData.depth]
theorem cut2 {a b : D} {ds : List D} : cutD (a :: b :: ds) (some 2) none = ds := by simp [cutD, HT.sIx]
theorem oNeg_int {a : Int} {S : Hs} : oNeg (.int a) S = .ok (.int (-a)) S := nr rfl
end Ly
set_option Elab.async false
set_option linter.all false
set_option maxRecDepth 100000
namespace Ly
open PySem PySem.Spec L2
open PyProof.Rows hiding St
local macro_rules | `(tactic| simp_arith [$ls,*]) => `(tactic| simp only [Ly.line_le, Ly.atX_no, Ly.v_ok, Ly.v_bad, Ly.v_bind, Ly.k_bd, Ly.v_at, Ly.v_bin, Ly.k_bi, Ly.k_bi2, Ly.v_var, Ly.v_c, Ly.v_un, Ly.k_un, Ly.v_if, Ly.k_ife, Ly.v_and, Ly.k_and, Ly.k_and2, Ly.v_or, Ly.k_or, Ly.k_or2, Ly.v_tup, Ly.k_tup, Ly.v_lst, Ly.k_lst, Ly.v_call, Ly.k_ca, Ly.v_fn, Ly.k_fn, Ly.v_bm, Ly.k_bm, Ly.k_bm2, Ly.v_sl, Ly.k_sl, Ly.k_sl2, Ly.k_sl3, Ly.v_ixK, Ly.k_ixk, Ly.v_inK, Ly.k_ink, Ly.v_notinK, Ly.k_nink, Ly.v_getK2, Ly.k_gk2, Ly.k_gk, Ly.v_get2, Ly.k_g2, Ly.k_g22, Ly.k_g23, Ly.v_nil, Ly.v_cons, Ly.k_co, Ly.k_co2, Ly.v_no, Ly.v_some, Ly.k_so, Ly.k_cm, Ly.v_cmp, Ly.v_tru, Ly.k_tr, Ly.v_notB, Ly.k_no, Ly.v_andB, Ly.k_an, Ly.v_orB, Ly.k_orb, Ly.v_yes, Ly.v_inKB, Ly.k_inkB, Ly.v_notinKB, Ly.k_ninkB, Ly.v_set, Ly.k_st, Ly.v_expr, Ly.k_ex, Ly.v_ret, Ly.k_re, Ly.v_retN, Ly.v_pass, Ly.v_brk, Ly.v_cnt, Ly.v_seq, Ly.k_sq_nx, Ly.k_sq_rt, Ly.k_sq_bk, Ly.k_sq_ct, Ly.v_ifS, Ly.k_ifs, Ly.v_asg, Ly.k_as, Ly.k_as2, Ly.v_aug, Ly.k_au, Ly.v_for, Ly.k_fo, Ly.v_it, Ly.k_it, Ly.k_ij, Ly.v_rng1, Ly.v_rng2, Ly.v_enum, Ly.v_zip, Ly.v_ez, Ly.v_gN, Ly.v_gsN, Ly.v_gsC, Ly.k_gc, Ly.v_gT, Ly.v_gTw, Ly.v_gSb, Ly.k_gsb, Ly.k_gsb2, Ly.k_gsb3, Ly.k_en_rt, Ly.k_en_nx, Ly.k_tu_nx, Ly.k_tu_ct, Ly.k_tu_bk, Ly.k_tu_rt, Ly.v_lc, Ly.k_lc, Ly.v_augI, Ly.k_ag, Ly.k_ag2, Ly.k_ag3, Ly.k_ag4, Ly.k_ag5, Ly.v_del, Ly.k_dl, Ly.k_dl2, Ly.v_setd, Ly.v_pop2, Ly.k_d3, Ly.k_d32, Ly.k_d33, Ly.v_get1, Ly.k_g1, Ly.k_g12, Ly.v_rg1, Ly.k_rg, Ly.v_rg2, Ly.k_rg2, Ly.k_rg22, Ly.v_dicK, Ly.v_dicT, Ly.v_dc, Ly.k_dc, List.getElem?_cons_zero, List.getElem?_cons_succ, List.set_cons_zero, List.set_cons_succ, List.length_cons, List.length_nil, List.map_cons, List.map_nil, List.cons_append, List.nil_append, List.replicate, if_true, if_false, Bool.false_eq_true, Bool.not_true, Bool.not_false, Bool.true_and, Bool.false_and, decide_true, decide_false, decide_eq_true_eq, Nat.zero_add, Nat.reduceAdd, Nat.reduceLeDiff, true_and, and_true, $ls,*])
inductive MRow where
  | const (d n : Nat) | op (s : Str) (d a b : Nat) | select (d c a b : Nat) | load (d a base mask : Nat) | store (a base mask v : Nat) | out (a : Nat) | jump (t : Nat) | branch (a t : Nat) | stop (a : Nat)
def MRow.D : MRow → D
  | .const d n => .tup [.str "const", nD d, nD n]
  | .op s d a b => .tup [.str "op", .str s, nD d, nD a, nD b]
  | .select d c a b => .tup [.str "select", nD d, nD c, nD a, nD b]
  | .load d a base mask => .tup [.str "load", nD d, nD a, nD base, nD mask]
  | .store a base mask v => .tup [.str "store", nD a, nD base, nD mask, nD v]
  | .out a => .tup [.str "out", nD a]
  | .jump t => .tup [.str "jump", nD t]
  | .branch a t => .tup [.str "branch", nD a, nD t]
  | .stop a => .tup [.str "stop", nD a]
def MRow.ok (many : Nat) : MRow → Prop
  | .const d n => d < 16 ∧ n < 4294967296
  | .op s d a b => s ∈ signsL ∧ d < 16 ∧ a < 16 ∧ b < 16
  | .select d c a b => d < 16 ∧ c < 16 ∧ a < 16 ∧ b < 16
  | .load d a base mask => d < 16 ∧ a < 16 ∧ base ≤ 1000000 ∧ mask < 4294967296
  | .store a base mask v => a < 16 ∧ base ≤ 1000000 ∧ mask < 4294967296 ∧ v < 16
  | .out a => a < 16
  | .jump t => t < many
  | .branch a t => a < 16 ∧ t < many
  | .stop a => a < 16
def MRow.last : MRow → Bool
  | .jump _ => true
  | .stop _ => true
  | _ => false
structure Rg where
  base : Nat
  size : Nat
  label : Str
def Rg.D (r : Rg) : D := .tup [nD r.base, nD r.size, .str r.label]
def Contig : Nat → List Rg → Prop
  | _, [] => True
  | b, r :: rs => r.base = b ∧ 0 < r.size ∧ Contig (b + r.size) rs
def sizes (rs : List Rg) : Nat := (rs.map (·.size)).sum
structure CodeOk (regs : List Rg) (rows : List MRow) : Prop where
  cg : Contig 0 regs
  small : sizes regs ≤ 5000000
  ok : ∀ r ∈ rows, r.ok rows.length
  ne : 0 < rows.length
  len : rows.length ≤ 100000
  fin : ∀ r, rows[rows.length - 1]? = some r → r.last = true
structure ContOk (regs : List Rg) (cs : List (List Nat)) : Prop where
  len : cs.map (·.length) = regs.map (·.size)
  lt : ∀ c ∈ cs, ∀ w ∈ c, w < 4294967296
abbrev Mem := Nat → Option Nat
def Mem.get (f : Mem) (a : Nat) : Nat := (f a).getD 0
def Mem.put (f : Mem) (a v : Nat) : Mem := fun x => if x = a then some v else f x
def mem0 (cs : List (List Nat)) : Mem := fun a => cs.flatten[a]?
structure PS where
  held : List Nat
  mem : Mem
  outs : List Nat
  pc : Nat
def PS.h (s : PS) (a : Nat) : Nat := s.held.getD a 0
def MRow.addr (r : MRow) (h : Nat → Nat) : Nat := match r with
  | .load _ a base mask => base + (h a &&& mask)
  | .store a base mask _ => base + (h a &&& mask)
  | _ => 0
def MRow.word (r : MRow) (h : Nat → Nat) : Nat := match r with
  | .const _ n => n
  | .op s _ a b => opN s (h a) (h b)
  | .select _ c a b => if h c ≠ 0 then h a else h b
  | _ => 0
def PS.exec (s : PS) (r : MRow) : PS := match r with
  | .const d _ => { s with held := s.held.set d (r.word s.h), pc := s.pc + 1 }
  | .op _ d _ _ => { s with held := s.held.set d (r.word s.h), pc := s.pc + 1 }
  | .select d _ _ _ => { s with held := s.held.set d (r.word s.h), pc := s.pc + 1 }
  | .load d _ _ _ => { s with held := s.held.set d (s.mem.get (r.addr s.h)), pc := s.pc + 1 }
  | .store _ _ _ v => { s with mem := s.mem.put (r.addr s.h) (s.h v), pc := s.pc + 1 }
  | .out a => { s with outs := s.outs ++ [s.h a], pc := s.pc + 1 }
  | .jump t => { s with pc := t }
  | .branch a t => { s with pc := if s.h a ≠ 0 then t else s.pc + 1 }
  | .stop _ => s
structure PSOk (many : Nat) (s : PS) : Prop where
  len : s.held.length = 16
  lt : ∀ w ∈ s.held, w < 4294967296
  mlt : ∀ a v, s.mem a = some v → v < 4294967296
  pc : s.pc < many
section
variable {s : PS} {r : MRow} {many : Nat} {rows : List MRow} {regs : List Rg}
theorem PSOk.h_lt (h : PSOk many s) (a : Nat) : s.h a < 4294967296 := by
  unfold PS.h
  by_cases hl : a < s.held.length
  · have : s.held.getD a 0 = s.held[a] := by simp [List.getD, List.getElem?_eq_getElem hl]
    rw [this]; exact h.lt _ (List.getElem_mem hl)
  · have : s.held.getD a 0 = 0 := by simp [List.getD, List.getElem?_eq_none (Nat.le_of_not_lt hl)]
    rw [this]; omega
theorem PSOk.word_lt (h : PSOk many s) (hr : r.ok many) : r.word s.h < 4294967296 := by
  cases r with
  | const d n => exact hr.2
  | op z d a b => exact opN_lt (h.h_lt a) (h.h_lt b)
  | select d c a b =>
    show (if s.h c ≠ 0 then s.h a else s.h b) < _
    split
    · exact h.h_lt a
    · exact h.h_lt b
  | _ => show (0 : Nat) < _; omega
theorem PSOk.get_lt (h : PSOk many s) (a : Nat) : s.mem.get a < 4294967296 := by
  unfold Mem.get
  cases e : s.mem a with
  | none => simp
  | some v => simp; exact h.mlt a v e
theorem PSOk.set (h : PSOk many s) {d w pc : Nat} (hw : w < 4294967296) (hp : pc < many) : PSOk many { s with held := s.held.set d w, pc := pc } :=
  ⟨by simp [h.len], fun x hx => by rcases List.mem_or_eq_of_mem_set hx with h1 | h1; exact h.lt x h1; omega, h.mlt, hp⟩
theorem PSOk.exec (h : PSOk many s) (hr : r.ok many) (hl : r.last = false → s.pc + 1 < many) : PSOk many (s.exec r) := by
  cases r with
  | const d n => exact h.set (h.word_lt hr) (hl rfl)
  | op z d a b => exact h.set (h.word_lt hr) (hl rfl)
  | select d c a b => exact h.set (h.word_lt hr) (hl rfl)
  | load d a base mask => exact h.set (h.get_lt _) (hl rfl)
  | store a base mask v =>
    refine ⟨h.len, h.lt, fun x y e => ?_, hl rfl⟩
    simp only [PS.exec, Mem.put] at e
    split at e
    · cases e; exact h.h_lt v
    · exact h.mlt x y e
  | out a => exact ⟨h.len, h.lt, h.mlt, hl rfl⟩
  | jump t => exact ⟨h.len, h.lt, h.mlt, hr⟩
  | branch a t =>
    refine ⟨h.len, h.lt, h.mlt, ?_⟩
    show (if s.h a ≠ 0 then t else s.pc + 1) < many
    split
    · exact hr.2
    · exact hl rfl
  | stop a => exact h
theorem CodeOk.row (c : CodeOk regs rows) {pc : Nat} (h : pc < rows.length) : rows[pc]? = some (rows.getD pc (.stop 0)) ∧ (rows.getD pc (.stop 0)).ok rows.length ∧ ((rows.getD pc (.stop 0)).last = false → pc + 1 < rows.length) := by
  have e : rows[pc]? = some (rows.getD pc (.stop 0)) := by simp [List.getD, List.getElem?_eq_getElem h]
  refine ⟨e, c.ok _ (List.mem_of_getElem? e), fun hl => ?_⟩
  apply Classical.byContradiction
  intro hc
  have : pc = rows.length - 1 := by omega
  subst this
  rw [c.fin _ e] at hl; cases hl
end
theorem getK_setK {kvs : List (Key × D)} {k k' : Key} {v : D} : getK (setK kvs k v) k' = if k' = k then some v else getK kvs k' := by
  unfold setK
  split
  · rename_i h
    induction kvs with
    | nil => simp at h
    | cons x kvs ih =>
      unfold getK at ih ⊢
      simp only [List.map_cons, List.find?_cons]
      by_cases hx : x.1 = k
      · rw [if_pos hx]
        by_cases hk : k' = k
        · have : decide (x.1 = k') = true := by simp [hx, hk]
          simp only [this, if_pos hk]; rfl
        · have h1 : decide (x.1 = k') = false := by simp [hx]; exact fun e => hk e.symm
          simp only [h1, if_neg hk]
          by_cases ha : (kvs.any fun kv => decide (kv.1 = k)) = true
          · have := ih ha
            rw [if_neg hk] at this; exact this
          · have e : kvs.map (fun kv => if kv.1 = k then (kv.1, v) else kv) = kvs := by
              have : ∀ kv ∈ kvs, ¬ kv.1 = k := fun kv hm e => ha (List.any_eq_true.mpr ⟨kv, hm, by simp [e]⟩)
              conv => rhs; rw [← List.map_id kvs]
              exact List.map_congr_left fun kv hm => by rw [if_neg (this kv hm)]; rfl
            rw [e]
      · rw [if_neg hx]
        have ha : (kvs.any fun kv => decide (kv.1 = k)) = true := by
          simp only [List.any_cons, Bool.or_eq_true, decide_eq_true_eq] at h
          exact h.resolve_left hx
        by_cases hk' : x.1 = k'
        · have : decide (x.1 = k') = true := by simp [hk']
          have hkk : ¬ k' = k := fun e => hx (hk'.trans e)
          simp only [this, if_neg hkk]
        · have : decide (x.1 = k') = false := by simp [hk']
          simp only [this]
          exact ih ha
  · rename_i h
    unfold getK
    rw [List.find?_append]
    by_cases hk : k' = k
    · rw [if_pos hk]
      have : kvs.find? (fun kv => decide (kv.1 = k')) = none := by
        rw [List.find?_eq_none]
        intro x hx e
        refine h (List.any_eq_true.mpr ⟨x, hx, ?_⟩)
        rw [← hk]; exact e
      rw [this]; simp [hk]
    · rw [if_neg hk]
      have : decide (k = k') = false := by simp; exact fun e => hk e.symm
      simp [this]
theorem setK_len {kvs : List (Key × D)} {k : Key} {v : D} : (setK kvs k v).length ≤ kvs.length + 1 := by
  unfold setK; split <;> simp
structure MemAt (S : Hs) (q : Nat) (f : Mem) (N : Nat) : Prop where
  ex : ∃ kvs : List (Key × D), S[q]? = some (.dic kvs) ∧ kvs.length ≤ N ∧ ∀ a : Nat, getK kvs (.inl (a : Int)) = (f a).map nD
section
variable {S S' : Hs} {q N : Nat} {f : Mem} {B : List Nat}
theorem MemAt.kp (h : MemAt S q f N) (k : Kp B S S') (hq : q ∉ B) : MemAt S' q f N := by
  obtain ⟨kvs, h1, h2⟩ := h.ex; exact ⟨kvs, k.get h1 hq, h2⟩
theorem MemAt.lt (h : MemAt S q f N) : q < S.length := by obtain ⟨kvs, h1, _⟩ := h.ex; exact Real.lt h1
theorem MemAt.put (h : MemAt S q f N) (hN : N ≤ 10000000) (a v : Nat) : ∃ o, oSet (.ref q) (nD a) (nD v) S = .ok () (S.set q o) ∧ MemAt (S.set q o) q (f.put a v) (N + 1) := by
  obtain ⟨kvs, h1, h2, h3⟩ := h.ex
  refine ⟨.dic (setK kvs (.inl (a : Int)) (nD v)), oSet_dic h1 key_int (Nat.lt_of_le_of_lt (Nat.le_trans h2 hN) (by decide)), ⟨_, get_put h1, Nat.le_trans setK_len (by omega), fun x => ?_⟩⟩
  rw [getK_setK, h3]
  unfold Mem.put
  by_cases hx : x = a
  · subst hx; simp
  · have : ¬ ((.inl (x : Int) : Key) = .inl (a : Int)) := by intro e; have := Sum.inl.inj e; omega
    rw [if_neg this, if_neg hx]
theorem MemAt.ty (h : MemAt S q f N) : hasTy "dict" (.ref q) S = true := by
  obtain ⟨kvs, h1, h2, h3⟩ := h.ex
  simp [hasTy, h1]
end
section
variable {S : Hs} {q N : Nat} {f : Mem} {regs : List Rg}
end
section
variable {S : Hs} {q many : Nat} {s : PS} {r : MRow} {fA : Nat → Addr}
def MRow.wr : MRow → Nat
  | .const d _ => d
  | .op _ d _ _ => d
  | .select d _ _ _ => d
  | .load d _ _ _ => d
  | _ => 0
end
theorem ContOk.flat {cs : List (List Nat)} {regs : List Rg} (hc : ContOk regs cs) : cs.flatten.length = sizes regs := by
  rw [List.length_flatten, hc.len]; rfl
theorem ContOk.dom {cs : List (List Nat)} {regs : List Rg} (hc : ContOk regs cs) : ∀ a, a < sizes regs → (mem0 cs a).isSome = true := fun a ha => by
  unfold mem0; rw [List.getElem?_eq_getElem (by rw [hc.flat]; exact ha)]; rfl
structure Run (many : Nat) (regs : List Rg) (qm qh qo N k : Nat) (s : PS) (S : Hs) : Prop where
  ok : PSOk many s
  mem : MemAt S qm s.mem (N + k)
  held : S[qh]? = some (.lst (s.held.map nD))
  outs : S[qo]? = some (.lst (s.outs.map nD))
  short : s.outs.length ≤ k
  dom : ∀ a, a < sizes regs → (s.mem a).isSome = true
section
variable {S S' : Hs} {many qm qh qo N k : Nat} {s : PS} {r : MRow} {fA : Nat → Addr} {regs : List Rg} {rows : List MRow} {cs : List (List Nat)}
theorem Run.kp {B : List Nat} (h : Run many regs qm qh qo N k s S) (hk : Kp B S S') (b1 : qm ∉ B) (b2 : qh ∉ B) (b3 : qo ∉ B) : Run many regs qm qh qo N k s S' :=
  ⟨h.ok, h.mem.kp hk b1, hk.get h.held b2, hk.get h.outs b3, h.short, h.dom⟩
theorem MemAt.more {f : Mem} {M : Nat} (h : MemAt S qm f N) (hn : N ≤ M) : MemAt S qm f M := by
  obtain ⟨kvs, h1, h2, h3⟩ := h.ex; exact ⟨kvs, h1, by omega, h3⟩
theorem MemAt.set {f : Mem} {o : O} (h : MemAt S qm f N) (hn : qm ≠ qh) : MemAt (S.set qh o) qm f N :=
  h.kp (B := [qh]) (Kp.set (by simp)) (by simpa using hn)
theorem get_set_ne {o o' : O} {i j : Nat} (h : S[i]? = some o) (hn : i ≠ j) : (S.set j o')[i]? = some o := by
  rw [List.getElem?_set_ne (fun e => hn e.symm)]; exact h
theorem Run.pc (h : Run many regs qm qh qo N k s S) {pc : Nat} (hp : pc < many) : Run many regs qm qh qo N (k + 1) { s with pc := pc } S :=
  ⟨⟨h.ok.len, h.ok.lt, h.ok.mlt, hp⟩, h.mem.more (by omega), h.held, h.outs, by have := h.short; show s.outs.length ≤ k + 1; omega, h.dom⟩
theorem Run.out (h : Run many regs qm qh qo N k s S) (hd1 : qm ≠ qo) (hd2 : qh ≠ qo) {w pc : Nat} (hp : pc < many) :
    Run many regs qm qh qo N (k + 1) { s with outs := s.outs ++ [w], pc := pc } (S.set qo (.lst (s.outs.map nD ++ [nD w]))) :=
  ⟨⟨h.ok.len, h.ok.lt, h.ok.mlt, hp⟩, (h.mem.more (by omega)).set hd1, get_set_ne h.held hd2, by rw [get_put h.outs]; simp, by have := h.short; simp; omega, h.dom⟩
theorem Run.put (h : Run many regs qm qh qo N k s S) (hN : N + k ≤ 10000000) (hd1 : qh ≠ qm) (hd2 : qo ≠ qm) {a w pc : Nat} (hw : w < 4294967296) (hp : pc < many) :
    ∃ o, oSet (.ref qm) (nD a) (nD w) S = .ok () (S.set qm o) ∧ Run many regs qm qh qo N (k + 1) { s with mem := s.mem.put a w, pc := pc } (S.set qm o) := by
  obtain ⟨o, h1, h2⟩ := h.mem.put hN a w
  refine ⟨o, h1, ⟨⟨h.ok.len, h.ok.lt, fun x y e => ?_, hp⟩, h2.more (by omega), get_set_ne h.held hd1, get_set_ne h.outs hd2, by have := h.short; show s.outs.length ≤ k + 1; omega, fun x hx => ?_⟩⟩
  · simp only [Mem.put] at e
    split at e
    · cases e; exact hw
    · exact h.ok.mlt x y e
  · show (s.mem.put a w x).isSome = true
    unfold Mem.put
    split
    · rfl
    · exact h.dom x hx
end
end Ly
set_option Elab.async false
set_option linter.all false
set_option maxRecDepth 100000
namespace Ly
open PySem PySem.Spec L2
open PyProof.Rows hiding St
local macro_rules | `(tactic| simp_arith [$ls,*]) => `(tactic| simp only [Ly.line_le, Ly.atX_no, Ly.v_ok, Ly.v_bad, Ly.v_bind, Ly.k_bd, Ly.v_at, Ly.v_bin, Ly.k_bi, Ly.k_bi2, Ly.v_var, Ly.v_c, Ly.v_un, Ly.k_un, Ly.v_if, Ly.k_ife, Ly.v_and, Ly.k_and, Ly.k_and2, Ly.v_or, Ly.k_or, Ly.k_or2, Ly.v_tup, Ly.k_tup, Ly.v_lst, Ly.k_lst, Ly.v_call, Ly.k_ca, Ly.v_fn, Ly.k_fn, Ly.v_bm, Ly.k_bm, Ly.k_bm2, Ly.v_sl, Ly.k_sl, Ly.k_sl2, Ly.k_sl3, Ly.v_ixK, Ly.k_ixk, Ly.v_inK, Ly.k_ink, Ly.v_notinK, Ly.k_nink, Ly.v_getK2, Ly.k_gk2, Ly.k_gk, Ly.v_get2, Ly.k_g2, Ly.k_g22, Ly.k_g23, Ly.v_nil, Ly.v_cons, Ly.k_co, Ly.k_co2, Ly.v_no, Ly.v_some, Ly.k_so, Ly.k_cm, Ly.v_cmp, Ly.v_tru, Ly.k_tr, Ly.v_notB, Ly.k_no, Ly.v_andB, Ly.k_an, Ly.v_orB, Ly.k_orb, Ly.v_yes, Ly.v_inKB, Ly.k_inkB, Ly.v_notinKB, Ly.k_ninkB, Ly.v_set, Ly.k_st, Ly.v_expr, Ly.k_ex, Ly.v_ret, Ly.k_re, Ly.v_retN, Ly.v_pass, Ly.v_brk, Ly.v_cnt, Ly.v_seq, Ly.k_sq_nx, Ly.k_sq_rt, Ly.k_sq_bk, Ly.k_sq_ct, Ly.v_ifS, Ly.k_ifs, Ly.v_asg, Ly.k_as, Ly.k_as2, Ly.v_aug, Ly.k_au, Ly.v_for, Ly.k_fo, Ly.v_it, Ly.k_it, Ly.k_ij, Ly.v_rng1, Ly.v_rng2, Ly.v_enum, Ly.v_zip, Ly.v_ez, Ly.v_gN, Ly.v_gsN, Ly.v_gsC, Ly.k_gc, Ly.v_gT, Ly.v_gTw, Ly.v_gSb, Ly.k_gsb, Ly.k_gsb2, Ly.k_gsb3, Ly.k_en_rt, Ly.k_en_nx, Ly.k_tu_nx, Ly.k_tu_ct, Ly.k_tu_bk, Ly.k_tu_rt, Ly.v_lc, Ly.k_lc, Ly.v_augI, Ly.k_ag, Ly.k_ag2, Ly.k_ag3, Ly.k_ag4, Ly.k_ag5, Ly.v_del, Ly.k_dl, Ly.k_dl2, Ly.v_setd, Ly.v_pop2, Ly.k_d3, Ly.k_d32, Ly.k_d33, Ly.v_get1, Ly.k_g1, Ly.k_g12, Ly.v_rg1, Ly.k_rg, Ly.v_rg2, Ly.k_rg2, Ly.k_rg22, Ly.v_dicK, Ly.v_dicT, Ly.v_dc, Ly.k_dc, List.getElem?_cons_zero, List.getElem?_cons_succ, List.set_cons_zero, List.set_cons_succ, List.length_cons, List.length_nil, List.map_cons, List.map_nil, List.cons_append, List.nil_append, List.replicate, if_true, if_false, Bool.false_eq_true, Bool.not_true, Bool.not_false, Bool.true_and, Bool.false_and, decide_true, decide_false, decide_eq_true_eq, Nat.zero_add, Nat.reduceAdd, Nat.reduceLeDiff, true_and, and_true, $ls,*])
section
variable {X : XP} {S : Hs} {i j : Nat}
theorem nx {many : Int} {Q : D → Hs → Prop} (d : DrwN S i j) (hm : 0 < many) (h : ∀ (x : Nat) S', (x : Int) < many → DrwN S' i j → Kp [i] S S' → S'.length = S.length → Q (nD x) S') : Wp X (m_nextD [.ref i, .int many] S) Q := by
  refine Wp.call (nextD_ok d hm) ?_
  rintro _ S' ⟨x, rfl, h1, h2, h3, h4⟩
  exact h x S' h1 h2 h3 h4
structure CodeN (regs : List Rg) (rows : List MRow) : Prop where
  ok : CodeOk regs rows
  sz : sizes regs ≤ 150
  pos : 0 < regs.length
  few : regs.length ≤ 4
  short : rows.length ≤ 60
end
section
variable {S : Hs} {a b : Nat}
end
end Ly
set_option Elab.async false
set_option linter.all false
set_option maxRecDepth 100000
namespace Ly
open PySem PySem.Spec L2
open PyProof.Rows hiding St
local macro_rules | `(tactic| simp_arith [$ls,*]) => `(tactic| simp only [Ly.line_le, Ly.atX_no, Ly.v_ok, Ly.v_bad, Ly.v_bind, Ly.k_bd, Ly.v_at, Ly.v_bin, Ly.k_bi, Ly.k_bi2, Ly.v_var, Ly.v_c, Ly.v_un, Ly.k_un, Ly.v_if, Ly.k_ife, Ly.v_and, Ly.k_and, Ly.k_and2, Ly.v_or, Ly.k_or, Ly.k_or2, Ly.v_tup, Ly.k_tup, Ly.v_lst, Ly.k_lst, Ly.v_call, Ly.k_ca, Ly.v_fn, Ly.k_fn, Ly.v_bm, Ly.k_bm, Ly.k_bm2, Ly.v_sl, Ly.k_sl, Ly.k_sl2, Ly.k_sl3, Ly.v_ixK, Ly.k_ixk, Ly.v_inK, Ly.k_ink, Ly.v_notinK, Ly.k_nink, Ly.v_getK2, Ly.k_gk2, Ly.k_gk, Ly.v_get2, Ly.k_g2, Ly.k_g22, Ly.k_g23, Ly.v_nil, Ly.v_cons, Ly.k_co, Ly.k_co2, Ly.v_no, Ly.v_some, Ly.k_so, Ly.k_cm, Ly.v_cmp, Ly.v_tru, Ly.k_tr, Ly.v_notB, Ly.k_no, Ly.v_andB, Ly.k_an, Ly.v_orB, Ly.k_orb, Ly.v_yes, Ly.v_inKB, Ly.k_inkB, Ly.v_notinKB, Ly.k_ninkB, Ly.v_set, Ly.k_st, Ly.v_expr, Ly.k_ex, Ly.v_ret, Ly.k_re, Ly.v_retN, Ly.v_pass, Ly.v_brk, Ly.v_cnt, Ly.v_seq, Ly.k_sq_nx, Ly.k_sq_rt, Ly.k_sq_bk, Ly.k_sq_ct, Ly.v_ifS, Ly.k_ifs, Ly.v_asg, Ly.k_as, Ly.k_as2, Ly.v_aug, Ly.k_au, Ly.v_for, Ly.k_fo, Ly.v_it, Ly.k_it, Ly.k_ij, Ly.v_rng1, Ly.v_rng2, Ly.v_enum, Ly.v_zip, Ly.v_ez, Ly.v_gN, Ly.v_gsN, Ly.v_gsC, Ly.k_gc, Ly.v_gT, Ly.v_gTw, Ly.v_gSb, Ly.k_gsb, Ly.k_gsb2, Ly.k_gsb3, Ly.k_en_rt, Ly.k_en_nx, Ly.k_tu_nx, Ly.k_tu_ct, Ly.k_tu_bk, Ly.k_tu_rt, Ly.v_lc, Ly.k_lc, Ly.v_augI, Ly.k_ag, Ly.k_ag2, Ly.k_ag3, Ly.k_ag4, Ly.k_ag5, Ly.v_del, Ly.k_dl, Ly.k_dl2, Ly.v_setd, Ly.v_pop2, Ly.k_d3, Ly.k_d32, Ly.k_d33, Ly.v_get1, Ly.k_g1, Ly.k_g12, Ly.v_rg1, Ly.k_rg, Ly.v_rg2, Ly.k_rg2, Ly.k_rg22, Ly.v_dicK, Ly.v_dicT, Ly.v_dc, Ly.k_dc, List.getElem?_cons_zero, List.getElem?_cons_succ, List.set_cons_zero, List.set_cons_succ, List.length_cons, List.length_nil, List.map_cons, List.map_nil, List.cons_append, List.nil_append, List.replicate, if_true, if_false, Bool.false_eq_true, Bool.not_true, Bool.not_false, Bool.true_and, Bool.false_and, decide_true, decide_false, decide_eq_true_eq, Nat.zero_add, Nat.reduceAdd, Nat.reduceLeDiff, true_and, and_true, $ls,*])
theorem contig_base : ∀ {regs : List Rg} {b k : Nat} {r : Rg}, Contig b regs → regs[k]? = some r → r.base = b + sizes (regs.take k)
  | [], _, _, _, _, h => by simp at h
  | x :: xs, b, 0, r, ⟨h1, _, _⟩, h => by simp at h; subst h; simp [sizes, h1]
  | x :: xs, b, k + 1, r, ⟨h1, h2, h3⟩, h => by
    rw [contig_base h3 (by simpa using h)]; simp [sizes]; omega
theorem flat_at {cs : List (List Nat)} {c : List Nat} {k j : Nat} (h : cs[k]? = some c) (hj : j < c.length) : cs.flatten[(cs.take k).flatten.length + j]? = c[j]? := by
  have e := split_at h
  conv => lhs; rw [e]
  rw [List.flatten_append, List.flatten_cons]
  have e2 : (List.take k cs ++ c :: List.drop (k + 1) cs).take k = List.take k cs := by rw [← e]
  rw [List.getElem?_append_right (by simp [← e])]
  rw [← e, Nat.add_sub_cancel_left, List.getElem?_append_left hj]
section
variable {S S' : Hs} {regs : List Rg} {rows : List MRow} {cs : List (List Nat)}
theorem ContOk.at (hc : ContOk regs cs) (cg : Contig 0 regs) {k j : Nat} {r : Rg} (hr : regs[k]? = some r) (hj : j < r.size) : ∃ c w, cs[k]? = some c ∧ c.length = r.size ∧ c[j]? = some w ∧ mem0 cs (r.base + j) = some w := by
  have hl := congrArg (fun l => l[k]?) hc.len
  simp only [List.getElem?_map, hr, Option.map_some] at hl
  obtain ⟨c, hck, hcl⟩ := Option.map_eq_some_iff.mp hl
  have hjc : j < c.length := by omega
  have hb := contig_base cg hr
  have hf : (cs.take k).flatten.length = sizes (regs.take k) := by
    rw [List.length_flatten]
    unfold sizes
    rw [List.map_take, List.map_take, hc.len]
  refine ⟨c, c[j], hck, hcl, List.getElem?_eq_getElem hjc, ?_⟩
  unfold mem0
  have := flat_at hck hjc
  rw [hf] at this
  rw [hb, Nat.zero_add, this, List.getElem?_eq_getElem hjc]
end
section
variable {qh qm qo : Nat} {a b : Int}
end
section
variable {S S' : Hs} {many im qm qh qo N k : Nat} {s : PS} {r : MRow} {regs : List Rg} {rows : List MRow} {cs : List (List Nat)}
def PS.keep (s : PS) (r : MRow) : PS := { s.exec r with pc := s.pc }
end
end Ly
set_option Elab.async false
set_option linter.all false
set_option maxRecDepth 100000
namespace Ly
open PySem PySem.Spec L2
open PyProof.Rows hiding St
local macro_rules | `(tactic| simp_arith [$ls,*]) => `(tactic| simp only [Ly.line_le, Ly.atX_no, Ly.v_ok, Ly.v_bad, Ly.v_bind, Ly.k_bd, Ly.v_at, Ly.v_bin, Ly.k_bi, Ly.k_bi2, Ly.v_var, Ly.v_c, Ly.v_un, Ly.k_un, Ly.v_if, Ly.k_ife, Ly.v_and, Ly.k_and, Ly.k_and2, Ly.v_or, Ly.k_or, Ly.k_or2, Ly.v_tup, Ly.k_tup, Ly.v_lst, Ly.k_lst, Ly.v_call, Ly.k_ca, Ly.v_fn, Ly.k_fn, Ly.v_bm, Ly.k_bm, Ly.k_bm2, Ly.v_sl, Ly.k_sl, Ly.k_sl2, Ly.k_sl3, Ly.v_ixK, Ly.k_ixk, Ly.v_inK, Ly.k_ink, Ly.v_notinK, Ly.k_nink, Ly.v_getK2, Ly.k_gk2, Ly.k_gk, Ly.v_get2, Ly.k_g2, Ly.k_g22, Ly.k_g23, Ly.v_nil, Ly.v_cons, Ly.k_co, Ly.k_co2, Ly.v_no, Ly.v_some, Ly.k_so, Ly.k_cm, Ly.v_cmp, Ly.v_tru, Ly.k_tr, Ly.v_notB, Ly.k_no, Ly.v_andB, Ly.k_an, Ly.v_orB, Ly.k_orb, Ly.v_yes, Ly.v_inKB, Ly.k_inkB, Ly.v_notinKB, Ly.k_ninkB, Ly.v_set, Ly.k_st, Ly.v_expr, Ly.k_ex, Ly.v_ret, Ly.k_re, Ly.v_retN, Ly.v_pass, Ly.v_brk, Ly.v_cnt, Ly.v_seq, Ly.k_sq_nx, Ly.k_sq_rt, Ly.k_sq_bk, Ly.k_sq_ct, Ly.v_ifS, Ly.k_ifs, Ly.v_asg, Ly.k_as, Ly.k_as2, Ly.v_aug, Ly.k_au, Ly.v_for, Ly.k_fo, Ly.v_it, Ly.k_it, Ly.k_ij, Ly.v_rng1, Ly.v_rng2, Ly.v_enum, Ly.v_zip, Ly.v_ez, Ly.v_gN, Ly.v_gsN, Ly.v_gsC, Ly.k_gc, Ly.v_gT, Ly.v_gTw, Ly.v_gSb, Ly.k_gsb, Ly.k_gsb2, Ly.k_gsb3, Ly.k_en_rt, Ly.k_en_nx, Ly.k_tu_nx, Ly.k_tu_ct, Ly.k_tu_bk, Ly.k_tu_rt, Ly.v_lc, Ly.k_lc, Ly.v_augI, Ly.k_ag, Ly.k_ag2, Ly.k_ag3, Ly.k_ag4, Ly.k_ag5, Ly.v_del, Ly.k_dl, Ly.k_dl2, Ly.v_setd, Ly.v_pop2, Ly.k_d3, Ly.k_d32, Ly.k_d33, Ly.v_get1, Ly.k_g1, Ly.k_g12, Ly.v_rg1, Ly.k_rg, Ly.v_rg2, Ly.k_rg2, Ly.k_rg22, Ly.v_dicK, Ly.v_dicT, Ly.v_dc, Ly.k_dc, List.getElem?_cons_zero, List.getElem?_cons_succ, List.set_cons_zero, List.set_cons_succ, List.length_cons, List.length_nil, List.map_cons, List.map_nil, List.cons_append, List.nil_append, List.replicate, if_true, if_false, Bool.false_eq_true, Bool.not_true, Bool.not_false, Bool.true_and, Bool.false_and, decide_true, decide_false, decide_eq_true_eq, Nat.zero_add, Nat.reduceAdd, Nat.reduceLeDiff, true_and, and_true, $ls,*])
def polsL : List Str := ["lru", "fifo", "plru"]
structure CS where
  e : Nat
  w : Nat
  l : Nat
  p : Str
def CS.D (c : CS) : D := .tup [nD (2 ^ c.e), nD (2 ^ c.w), nD (2 ^ c.l), .str c.p]
structure CS.ok (c : CS) : Prop where
  e : c.e ≤ 6
  w : c.w ≤ 3
  l : c.l ≤ 4
  p : c.p ∈ polsL
inductive PD where
  | taken | two (k : Nat) | hist (n : Nat)
def PD.D : PD → D
  | .taken => .tup [.str "taken"]
  | .two k => .tup [.str "two", nD (2 ^ k)]
  | .hist n => .tup [.str "history", nD n]
def PD.ok : PD → Prop
  | .taken => True
  | .two k => k ≤ 6
  | .hist n => 1 ≤ n ∧ n ≤ 6
inductive Prep where
  | data (a : Nat) | fetch (a : Nat) | branch (a : Nat) (t : Bool)
def Prep.D : Prep → D
  | .data a => .tup [.str "data", nD a]
  | .fetch a => .tup [.str "fetch", nD a]
  | .branch a t => .tup [.str "branch", nD a, .bl t]
def Prep.ok : Prep → Prop
  | .data a => a ≤ 10000
  | .fetch a => a ≤ 10000
  | .branch a _ => a ≤ 10000
structure Vis where
  n : Nat
  touch : Bool
  a : Nat
def Vis.D (v : Vis) : D := .tup [nD v.n, .str (if v.touch = true then "touch" else "drop"), nD v.a]
def Sorted : Nat → List Vis → Prop
  | _, [] => True
  | m, v :: vs => m ≤ v.n ∧ Sorted v.n vs
structure SS where
  data : CS
  fetch : CS
  pr : PD
  depth : Nat
  miss : Nat
  wrong : Nat
  before : List Prep
  visits : List Vis
def SS.D (s : SS) : D := .tup [s.data.D, s.fetch.D, s.pr.D, nD s.depth, .tup [nD s.miss, nD s.wrong], .tup (s.before.map Prep.D), .tup (s.visits.map Vis.D)]
structure SS.ok (s : SS) : Prop where
  data : s.data.ok
  fetch : s.fetch.ok
  pr : s.pr.ok
  depth : s.depth ≤ 64
  miss : s.miss ≤ 100
  wrong1 : 1 ≤ s.wrong
  wrong : s.wrong ≤ 100
  before : ∀ b ∈ s.before, b.ok
  beforeN : s.before.length ≤ 12
  visits : ∀ v ∈ s.visits, v.n ≤ 100 ∧ v.a ≤ 10000
  sorted : Sorted 0 s.visits
  visitsN : s.visits.length ≤ 10
section
variable {X : XP} {S : Hs} {i j : Nat}
end
end Ly
set_option Elab.async false
set_option linter.all false
set_option maxRecDepth 100000
namespace Ly
open PySem PySem.Spec L2
open PyProof.Rows hiding St
inductive Dt (m : Nat) : Nat → D → Prop
  | non {n : Nat} : Dt m n .non
  | bl {n : Nat} (b : Bool) : Dt m n (.bl b)
  | int {n : Nat} (i : Int) : Dt m n (.int i)
  | str {n : Nat} {x : Str} (h : PyData.strOk x = true) : Dt m n (.str x)
  | tup {n : Nat} {xs : List D} : xs.length ≤ m → (∀ x ∈ xs, Dt m n x) → Dt m (n + 1) (.tup xs)
theorem Dt.up {m m' : Nat} (hm : m ≤ m') : ∀ {n n' : Nat} {d : D}, Dt m n d → n ≤ n' → Dt m' n' d := by
  intro n
  induction n with
  | zero => intro n' d h _; cases h <;> constructor <;> assumption
  | succ n ih =>
    intro n' d h hn
    cases h with
    | non => exact .non
    | bl b => exact .bl b
    | int i => exact .int i
    | str x => exact .str x
    | tup hl hx =>
      obtain ⟨k, rfl⟩ : ∃ k, n' = k + 1 := ⟨n' - 1, by omega⟩
      exact .tup (Nat.le_trans hl hm) fun x hx' => ih (hx x hx') (by omega)
theorem Dt.part {m n : Nat} {xs : List D} (h : Dt m n (.tup xs)) : ∀ x ∈ xs, Dt m n x := by
  cases h with | tup hl hx => exact fun x h => (hx x h).up (Nat.le_refl _) (Nat.le_succ _)
theorem Dt.plain {m : Nat} : ∀ {n : Nat} {d : D}, Dt m n d → d.plain = true ∧ d.toP.depth ≤ n + 1 := by
  intro n
  induction n with
  | zero => intro d h; cases h <;> refine ⟨by first | rfl | (simp only [D.plain]; assumption), ?_⟩ <;> simp [D.toP, PyData.depth]
  | succ n ih =>
    intro d h
    cases h with
    | non => refine ⟨rfl, ?_⟩; simp [D.toP, PyData.depth]
    | bl b => refine ⟨rfl, ?_⟩; simp [D.toP, PyData.depth]
    | int i => refine ⟨rfl, ?_⟩; simp [D.toP, PyData.depth]
    | str x => refine ⟨x, ?_⟩; simp [D.toP, PyData.depth]
    | tup hl hx =>
      refine ⟨?_, ?_⟩
      · simp only [D.plain]; rw [plains_mem]; exact fun x h => (ih (hx x h)).1
      · simp only [D.toP, PyData.depth]
        have := depthAll_mem _ fun x h => (ih (hx x h)).2
        omega
theorem eq_tnil {m n : Nat} {xs : List D} {S : Hs} (h : Dt m n (.tup xs)) (hn : n ≤ 20) : oEq (.tup xs) (.tup []) S = .ok (.bl xs.isEmpty) S := by
  have hp : D.plains xs = true := by rw [plains_mem]; exact fun x hx => (h.part x hx).plain.1
  have hd : PyData.depthAll (D.toPs xs) ≤ 30 := depthAll_mem _ fun x hx => by have := (h.part x hx).plain.2; omega
  have e1 := pd_tup (S := S) hp hd
  have e2 := pd_tup (S := S) (xs := []) rfl (by simp [D.toPs, PyData.depthAll])
  have e3 : cEqD (.tup xs) (.tup []) S = some xs.isEmpty := by
    unfold cEqD
    rw [show cEqS (.tup xs) (.tup []) = none from rfl, e1.1, e2.1]
    simp only [e1.2, e2.2, and_self, if_true, Option.some.injEq]
    cases xs with
    | nil => rfl
    | cons x xs => rfl
  simp only [oEq, e3]
def isS : D → Bool | .str _ => true | _ => false
def isT : D → Bool | .tup _ => true | _ => false
section
variable {m n : Nat} {d : D} {S : Hs}
theorem is_ (h : Dt m n d) : oIsi "str" d S = .ok (.bl (isS d)) S := by cases h <;> rfl
theorem it (h : Dt m n d) : oIsi "tuple" d S = .ok (.bl (isT d)) S := by cases h <;> rfl
end
def nmB (lo hi : Int) : D → Bool | .int i => decide (lo ≤ i ∧ i ≤ hi) | _ => false
section
variable {X : XP} {op op' : D → D → Hs → R D} {f g h : M} {l : Ls} {S : Hs} {Q : D → Hs → Prop} {x y : D}
def chK (X : XP) (op op' : D → D → Hs → R D) (g h : M) (l : Ls) (Q : D → Hs → Prop) : D → Hs → Prop := fun x S => Wp X (g l S) fun y S2 => Wp X (op x y S2) fun d S3 => match d with
  | .bl true => Wp X (h l S3) fun z S4 => Wp X (op' y z S4) Q
  | .bl false => Q (.bl false) S3
  | _ => False
def chK2 (X : XP) (op op' : D → D → Hs → R D) (h : M) (l : Ls) (x : D) (Q : D → Hs → Prop) : D → Hs → Prop := fun y S2 => Wp X (op x y S2) fun d S3 => match d with
  | .bl true => Wp X (h l S3) fun z S4 => Wp X (op' y z S4) Q
  | .bl false => Q (.bl false) S3
  | _ => False
def chK3 (X : XP) (op' : D → D → Hs → R D) (h : M) (l : Ls) (y : D) (Q : D → Hs → Prop) : D → Hs → Prop := fun d S3 => match d with
  | .bl true => Wp X (h l S3) fun z S4 => Wp X (op' y z S4) Q
  | .bl false => Q (.bl false) S3
  | _ => False
theorem v_chn : Wp X (mChn op op' f g h l S) Q = Wp X (f l S) (chK X op op' g h l Q) := by
  unfold mChn; rw [v_bind]; congr 1; funext x S1; unfold bdK chK; rw [v_bind]; congr 1; funext y S2; unfold bdK; rw [v_bind]; congr 1; funext d S3; unfold bdK
  cases d with
  | bl b =>
    cases b with
    | true => simp only [v_bind]; rfl
    | false => exact v_ok
  | _ => exact v_bad
theorem k_ch : chK X op op' g h l Q x S = Wp X (g l S) (chK2 X op op' h l x Q) := nr rfl
theorem k_ch2 : chK2 X op op' h l x Q y S = Wp X (op x y S) (chK3 X op' h l y Q) := nr rfl
theorem k_ch3 {b : Bool} : chK3 X op' h l y Q (.bl b) S = if b = true then Wp X (h l S) (biK2 X op' y Q) else Q (.bl false) S := by cases b <;> rfl
end
theorem tb {x : Bool} {S : Hs} : oTru (.bl x) S = .ok x S := nr rfl
theorem nt {x : Bool} {S : Hs} : oNot (.bl x) S = .ok (.bl (!x)) S := nr rfl
theorem wp_allT {X : XP} {ds : List D} {gg : MG} {b : MS} {l : Ls} {S : Hs} {Q : F → Hs → Prop} (p : D → Bool) (Fr : Ls → Prop) (h0 : Fr l)
    (hs : ∀ d l, d ∈ ds → Fr l → Wp X (gg d l S) fun l1 S1 => Wp X (b l1 S1) fun r S2 => S2 = S ∧ ((p d = true ∧ ∃ l2, r = .nx l2 ∧ Fr l2) ∨ (p d = false ∧ r = .rt (.bl false))))
    (hd : ∀ l, Fr l → ds.all p = true → Q (.nx l) S) (hf : ds.all p = false → Q (.rt (.bl false)) S) : Wp X (fLoop (.tup ds) gg b 0 l S) Q := by
  refine wp_tup (fun pre l S' => S' = S ∧ Fr l ∧ pre.all p = true) ⟨rfl, h0, rfl⟩ ?_ ?_
  · rintro pre d post l S' e ⟨rfl, hl, hp⟩
    refine (hs d l (by rw [e]; simp) hl).mono (fun _ _ _ _ h => h) fun l1 S1 h1 => h1.mono (fun _ _ _ _ h => h) ?_
    rintro r S2 ⟨rfl, ⟨hp2, l2, rfl, hl2⟩ | ⟨hp2, rfl⟩⟩
    · exact ⟨rfl, hl2, by simp [hp, hp2]⟩
    · exact hf (by rw [List.all_eq_false]; exact ⟨d, by rw [e]; simp, by simp [hp2]⟩)
  · rintro l S' ⟨rfl, hl, hp⟩
    exact hd l hl hp
def dtB (m : Nat) : Nat → D → Bool
  | _, .non => true
  | _, .bl _ => true
  | _, .int _ => true
  | _, .str x => PyData.strOk x
  | n + 1, .tup xs => decide (xs.length ≤ m) && xs.all (dtB m n)
  | _, _ => false
theorem of_dtB {m : Nat} : ∀ {n : Nat} {d : D}, dtB m n d = true → Dt m n d := by
  intro n
  induction n with
  | zero =>
    intro d h
    cases d with
    | non => exact .non
    | bl b => exact .bl b
    | int i => exact .int i
    | str x => exact .str (by simpa [dtB] using h)
    | _ => simp [dtB] at h
  | succ n ih =>
    intro d h
    cases d with
    | non => exact .non
    | bl b => exact .bl b
    | int i => exact .int i
    | str x => exact .str (by simpa [dtB] using h)
    | tup xs =>
      simp only [dtB, Bool.and_eq_true, decide_eq_true_eq, List.all_eq_true] at h
      exact .tup h.1 fun x hx => ih (h.2 x hx)
    | _ => simp [dtB] at h
theorem cut_to {ds : List D} {k : Nat} (h : k ≤ ds.length) : Ly.cutD ds none (some (k : Int)) = ds.take k := by
  have h1 : ¬ ((k : Int) < 0) := by omega
  simp [Ly.cutD, HT.sIx, h1, Nat.min_eq_left h]
theorem cut_from {ds : List D} {k : Nat} (h : k ≤ ds.length) : Ly.cutD ds (some (k : Int)) none = ds.drop k := by
  have h1 : ¬ ((k : Int) < 0) := by omega
  simp only [Ly.cutD, HT.sIx, if_neg h1, Int.toNat_natCast, Nat.min_eq_left h]
  rw [List.take_of_length_le (by simp)]
theorem oAdd_tup {xs ys : List D} {S : Hs} (h : xs.length + ys.length ≤ 1000000) : oAdd (.tup xs) (.tup ys) S = .ok (.tup (xs ++ ys)) S := by
  have : xs.length + ys.length ≤ sizeLine := line_le h
  simp [oAdd, this]
end Ly
set_option Elab.async false
set_option linter.all false
set_option maxRecDepth 100000
namespace Ly
open PySem PySem.Spec L2
open PyProof.Rows hiding St
section
variable {S S' g : Hs} {i j : Nat} {row : List Int} {sd many : Int}
theorem Upd.kp (u : Upd i j sd S S') : Kp [i] S S' := by
  obtain ⟨a, g, _, rfl⟩ := u
  exact (Kp.set (by simp)).app
theorem DrwA.new (h : DrwA S i j row sd) : DrwA (S ++ g) i j row sd := (Upd.new (g := g) h).drw h
theorem DrwA.kp (h : DrwA S i j row sd) (k : Kp [] S S') : DrwA S' i j row sd := by
  obtain ⟨a, h⟩ := h
  exact ⟨a, k.get h.d (by simp), k.get h.r (by simp), h.ne, h.nn⟩
theorem DrwA.lt (h : DrwA S i j row sd) : i < S.length := by obtain ⟨a, h⟩ := h; exact Real.lt h.d
theorem pick_wp (h : DrwA S i j row sd) (hm : 0 < many) : Wp NoX (S_pick [.ref i, .int many] S) fun v S' => ∃ x : Int, v = .int x ∧ 0 ≤ x ∧ x < many ∧ DrwA S' i j row sd ∧ Kp [i] S S' := by
  obtain ⟨x, S', e, u, h0, h1⟩ := pick_ok h hm
  exact Wp.of e ⟨x, rfl, h0, h1, u.drw h, u.kp⟩
end
section
variable {X : XP} {f : M} {fs : List M} {l : Ls} {S : Hs} {acc y : Str} {Q : D → Hs → Prop}
def jsK (X : XP) (fs : List M) (acc : Str) (l : Ls) (Q : D → Hs → Prop) : D → Hs → Prop := fun x S => match x with
  | .str y => (acc ++ y).length ≤ sizeLine ∧ Wp X (mJs fs (acc ++ y) l S) Q
  | _ => False
theorem v_js0 : Wp X (mJs [] acc l S) Q = Q (.str acc) S := by unfold mJs; exact v_ok
theorem v_js : Wp X (mJs (f :: fs) acc l S) Q = Wp X (f l S) (jsK X fs acc l Q) := by
  rw [mJs, v_bind]; congr 1; funext x S1; unfold bdK jsK
  cases x with
  | str y =>
    simp only []
    by_cases h : (acc ++ y).length ≤ sizeLine
    · rw [if_pos h]; simp [h]
    · rw [if_neg h]; simp [h, v_bad]
  | _ => exact v_bad
theorem k_js : jsK X fs acc l Q (.str y) S = ((acc ++ y).length ≤ sizeLine ∧ Wp X (mJs fs (acc ++ y) l S) Q) := nr rfl
def fmK (Q : D → Hs → Prop) : D → Hs → Prop := fun x S => match x with
  | .str y => y.length ≤ sizeLine ∧ Q (.str y) S
  | .int i => i.natAbs.log2 < 1920 ∧ Q (.str (Str.ofString (toString i))) S
  | _ => False
theorem v_fmt : Wp X (mFmt f l S) Q = Wp X (f l S) (fmK Q) := by
  rw [mFmt, v_bind]; congr 1; funext x S1; unfold bdK fmK
  cases x with
  | str y =>
    simp only []
    by_cases h : y.length ≤ sizeLine
    · rw [if_pos h]; simp [h, v_ok]
    · rw [if_neg h]; simp [h, v_bad]
  | int i =>
    simp only []
    by_cases h : i.natAbs.log2 < 1920
    · rw [if_pos h]; simp [h, v_ok]
    · rw [if_neg h]; simp [h, v_bad]
  | _ => exact v_bad
theorem k_fm : fmK Q (.str y) S = (y.length ≤ sizeLine ∧ Q (.str y) S) := nr rfl
theorem k_fmI {z : Int} : fmK Q (.int z) S = (z.natAbs.log2 < 1920 ∧ Q (.str (Str.ofString (toString z))) S) := nr rfl
end
end Ly
set_option Elab.async false
set_option linter.all false
set_option maxRecDepth 100000
namespace Ly
open PySem PySem.Spec L2
open PyProof.Rows hiding St
local macro_rules | `(tactic| simp_arith [$ls,*]) => `(tactic| simp only [Ly.line_le, Ly.atX_no, Ly.v_ok, Ly.v_bad, Ly.v_bind, Ly.k_bd, Ly.v_at, Ly.v_bin, Ly.k_bi, Ly.k_bi2, Ly.v_var, Ly.v_c, Ly.v_un, Ly.k_un, Ly.v_if, Ly.k_ife, Ly.v_and, Ly.k_and, Ly.k_and2, Ly.v_or, Ly.k_or, Ly.k_or2, Ly.v_tup, Ly.k_tup, Ly.v_lst, Ly.k_lst, Ly.v_call, Ly.k_ca, Ly.v_fn, Ly.k_fn, Ly.v_bm, Ly.k_bm, Ly.k_bm2, Ly.v_sl, Ly.k_sl, Ly.k_sl2, Ly.k_sl3, Ly.v_ixK, Ly.k_ixk, Ly.v_inK, Ly.k_ink, Ly.v_notinK, Ly.k_nink, Ly.v_getK2, Ly.k_gk2, Ly.k_gk, Ly.v_get2, Ly.k_g2, Ly.k_g22, Ly.k_g23, Ly.v_nil, Ly.v_cons, Ly.k_co, Ly.k_co2, Ly.v_no, Ly.v_some, Ly.k_so, Ly.k_cm, Ly.v_cmp, Ly.v_tru, Ly.k_tr, Ly.v_notB, Ly.k_no, Ly.v_andB, Ly.k_an, Ly.v_orB, Ly.k_orb, Ly.v_yes, Ly.v_inKB, Ly.k_inkB, Ly.v_notinKB, Ly.k_ninkB, Ly.v_set, Ly.k_st, Ly.v_expr, Ly.k_ex, Ly.v_ret, Ly.k_re, Ly.v_retN, Ly.v_pass, Ly.v_brk, Ly.v_cnt, Ly.v_seq, Ly.k_sq_nx, Ly.k_sq_rt, Ly.k_sq_bk, Ly.k_sq_ct, Ly.v_ifS, Ly.k_ifs, Ly.v_asg, Ly.k_as, Ly.k_as2, Ly.v_aug, Ly.k_au, Ly.v_for, Ly.k_fo, Ly.v_it, Ly.k_it, Ly.k_ij, Ly.v_rng1, Ly.v_rng2, Ly.v_enum, Ly.v_zip, Ly.v_ez, Ly.v_gN, Ly.v_gsN, Ly.v_gsC, Ly.k_gc, Ly.v_gT, Ly.v_gTw, Ly.v_gSb, Ly.k_gsb, Ly.k_gsb2, Ly.k_gsb3, Ly.k_en_rt, Ly.k_en_nx, Ly.k_tu_nx, Ly.k_tu_ct, Ly.k_tu_bk, Ly.k_tu_rt, Ly.v_lc, Ly.k_lc, Ly.v_augI, Ly.k_ag, Ly.k_ag2, Ly.k_ag3, Ly.k_ag4, Ly.k_ag5, Ly.v_del, Ly.k_dl, Ly.k_dl2, Ly.v_setd, Ly.v_pop2, Ly.k_d3, Ly.k_d32, Ly.k_d33, Ly.v_get1, Ly.k_g1, Ly.k_g12, Ly.v_rg1, Ly.k_rg, Ly.v_rg2, Ly.k_rg2, Ly.k_rg22, Ly.v_dicK, Ly.v_dicT, Ly.v_dc, Ly.k_dc, List.getElem?_cons_zero, List.getElem?_cons_succ, List.set_cons_zero, List.set_cons_succ, List.length_cons, List.length_nil, List.map_cons, List.map_nil, List.cons_append, List.nil_append, List.replicate, if_true, if_false, Bool.false_eq_true, Bool.not_true, Bool.not_false, Bool.true_and, Bool.false_and, decide_true, decide_false, decide_eq_true_eq, Nat.zero_add, Nat.reduceAdd, Nat.reduceLeDiff, true_and, and_true, $ls,*])
def DrwS (S : Hs) (i j : Nat) : Prop := ∃ row sd, DrwA S i j row sd
section
variable {S S' g : Hs} {i j : Nat} {many : Int} {X : XP}
theorem DrwS.new (d : DrwS S i j) : DrwS (S ++ g) i j := by obtain ⟨r, s, d⟩ := d; exact ⟨r, s, d.new⟩
theorem DrwS.kp0 (d : DrwS S i j) (k : Kp [] S S') : DrwS S' i j := by obtain ⟨r, s, d⟩ := d; exact ⟨r, s, d.kp k⟩
theorem DrwS.lt (d : DrwS S i j) : i < S.length := by obtain ⟨r, s, d⟩ := d; exact d.lt
theorem DrwS.ltj (d : DrwS S i j) : j < S.length := by obtain ⟨r, s, a, d⟩ := d; exact Real.lt d.r
theorem DrwS.kp {A : List Nat} (d : DrwS S i j) (k : Kp A S S') (hi : i ∉ A) (hj : j ∉ A) : DrwS S' i j := by
  obtain ⟨r, s, a, d⟩ := d
  exact ⟨r, s, a, k.get d.d hi, k.get d.r hj, d.ne, d.nn⟩
theorem nxS {Q : D → Hs → Prop} (d : DrwS S i j) (hm : 0 < many) (h : ∀ (x : Nat) S', (x : Int) < many → DrwS S' i j → Kp [i] S S' → Q (nD x) S') : Wp X (S_pick [.ref i, .int many] S) Q := by
  obtain ⟨r, s, d⟩ := d
  refine Wp.call (pick_wp d hm) ?_
  rintro _ S' ⟨x, rfl, h0, h1, d', k⟩
  rw [nat_of h0]
  exact h x.toNat S' (by omega) ⟨r, s, d'⟩ k
def DwS (i j : Nat) (S : Hs) (P : D → Prop) : D → Hs → Prop := fun v S' => P v ∧ DrwS S' i j ∧ Kp [i] S S'
end
theorem lc_drawS {α : Type} {X : XP} {Q : D → Hs → Prop} {te : M} {l : Ls} {s : Nat} {lo : Int} {m : Nat} {S : Hs} {i j : Nat} (f : α → D) (P : Nat → α → Prop) (h : DrwS S i j) (hm : m ≤ 1000000)
    (ht : ∀ k S', k < m → DrwS S' i j → Kp [i] S S' → Wp NoX (te (l.set s (some (.int (lo + k)))) S') fun v S2 => ∃ x, v = f x ∧ P k x ∧ DrwS S2 i j ∧ Kp [i] S' S2)
    (hd : ∀ (xs : List α) (S' : Hs), xs.length = m → (∀ k x, xs[k]? = some x → P k x) → S'[S.length]? = some (.lst (xs.map f)) → DrwS S' i j → Kp [i] S S' → Q (.ref S.length) S') :
    Wp X (cLoop (.rng lo m) (cN s) mYes te l S.length 0 (S ++ [.lst []])) Q := by
  have hi := h.lt
  have hj := h.ltj
  refine wp_lcRng (fun k acc S' => ∃ xs : List α, acc = xs.map f ∧ xs.length = k ∧ (∀ k x, xs[k]? = some x → P k x) ∧ S'[S.length]? = some (.lst acc) ∧ DrwS S' i j ∧ Kp [i] S S') ⟨[], rfl, rfl, by simp, by simp, h.new, Kp.new⟩ ?_ ?_
  · rintro k acc S' hk ⟨xs, rfl, hl, hp, hq, hn, hK⟩
    refine ⟨_, rfl, ?_⟩
    simp_arith []
    refine (ht k S' hk hn hK).mono (fun _ _ _ _ h => h) ?_
    rintro v S2 ⟨x, rfl, px, hn2, hK2⟩
    have hq2 := hK2.get hq (by simp; omega)
    refine ⟨hq2, by simp only [List.length_map]; exact line_big (by omega), xs ++ [x], by simp, by simp [hl], ?_, get_put hq2, hn2.kp (A := [S.length]) (Kp.set (by simp)) (by simp; omega) (by simp; omega), (hK.trans hK2).setNew (Nat.le_refl _)⟩
    intro k' x' e
    by_cases hk' : k' < xs.length
    · rw [List.getElem?_append_left hk'] at e; exact hp _ _ e
    · rw [List.getElem?_append_right (by omega)] at e
      have : k' - xs.length = 0 := by
        rcases Nat.eq_zero_or_pos (k' - xs.length) with z | z
        · exact z
        · rw [List.getElem?_eq_none (by simp; omega)] at e; cases e
      rw [this] at e
      simp at e
      subst e
      have : k' = k := by omega
      rw [this]; exact px
  · rintro acc S' ⟨xs, rfl, hl, hp, hq, hD, hK⟩
    exact hd xs S' hl hp hq hD hK
section
variable {m n : Nat} {d : D} {S : Hs}
def amD (ws : List Str) : D → Bool | .str x => decide (x ∈ ws) | _ => false
theorem in_intsA {i : Int} {zs : List Int} {y : D} (hy : y = .wt (zs.map D.int) ∨ ∃ q, y = .ref q ∧ S[q]? = some (.lst (zs.map D.int))) : oIn (.int i) y S = .ok (.bl (decide (i ∈ zs))) S := by
  have ha : (zs.map D.int).any (fun z => eqF z (.int i)) = decide (i ∈ zs) := by
    clear hy
    induction zs with
    | nil => simp
    | cons a L ih =>
      rw [List.map_cons, List.any_cons, ih, show eqF (.int a) (.int i) = (a == i) from rfl]
      by_cases h : a = i
      · subst h; simp
      · simp [h, Ne.symm h]
  have hf : (flatD (.int i) && (zs.map D.int).all flatD) = true := by simp [flatD]
  have e : cIn (.int i) y S = some (decide (i ∈ zs)) := by
    rcases hy with rfl | ⟨q, rfl, h⟩
    · simp only [cIn, hf, if_true, ha]
    · simp only [cIn, h, hf, if_true, ha]
  simp only [oIn, e]
theorem wp_zipA {X : XP} {xs ys : List D} {gg : MG} {b : MS} {l : Ls} {S : Hs} {Q : F → Hs → Prop} (Inv : Nat → Ls → Hs → Prop) (hl : xs.length = ys.length) (h0 : Inv 0 l S)
    (hs : ∀ k l S x y, xs[k]? = some x → ys[k]? = some y → Inv k l S → Wp X (gg (.tup [x, y]) l S) fun l1 S1 => Wp X (b l1 S1) (tuK (Inv (k + 1)) Q)) (hd : ∀ l S, Inv xs.length l S → Q (.nx l) S) : Wp X (fLoop (.zip (.t xs) (.t ys)) gg b 0 l S) Q := by
  refine wp_fLoop xs.length Inv (fun l S h => ?_) (fun k l S hk h => ?_) hd xs.length 0 l S (by omega) h0
  · simp [itGo, Sq.at, hl]
  · have e1 : xs[k]? = some xs[k] := List.getElem?_eq_getElem hk
    have e2 : ys[k]? = some ys[k] := List.getElem?_eq_getElem (by omega)
    exact ⟨.tup [xs[k], ys[k]], by simp [itGo, Sq.at, e1, e2]; omega, hs k l S _ _ e1 e2 h⟩
theorem tixA {d : D} {ds : List D} {S : Hs} : oIx (.tup (d :: ds)) (.int 0) S = .ok d S := oIx_tup (n := 0) rfl
noncomputable def b_isNum : MS := (mRet (mAnd (mUn (oIsi "int") (mVar 0)) (mAnd (mUn oNot (mUn (oIsi "bool") (mVar 0))) (mChn oLe oLe (mVar 1) (mVar 0) (mVar 2)))))
noncomputable def m_isNum : MD := mDef 3 0 b_isNum
theorem isNum_ok {lo hi : Int} (h : Dt m n d) : Wp NoX (m_isNum [d, .int lo, .int hi] S) fun v S' => v = .bl (nmB lo hi d) ∧ S' = S := by
  refine wp_def0 rfl ?_
  unfold b_isNum
  cases h with
  | int i =>
    simp_arith [show oIsi "int" (.int i) S = .ok (.bl true) S from rfl, show oIsi "bool" (.int i) S = .ok (.bl false) S from rfl, tb, nt, v_chn, k_ch, k_ch2, k_ch3, oLe_int, nmB]
    by_cases h1 : lo ≤ i
    · simp_arith [h1, oLe_int]
    · simp_arith [h1, false_and]
  | bl b => simp_arith [show oIsi "int" (.bl b) S = .ok (.bl true) S from rfl, show oIsi "bool" (.bl b) S = .ok (.bl true) S from rfl, tb, nt, nmB]
  | non => simp_arith [show oIsi "int" .non S = .ok (.bl false) S from rfl, tb, nt, nmB]
  | str x => simp_arith [show ∀ x, oIsi "int" (.str x) S = .ok (.bl false) S from fun _ => rfl, tb, nt, nmB]
  | tup hl hx => simp_arith [show ∀ xs, oIsi "int" (.tup xs) S = .ok (.bl false) S from fun _ => rfl, tb, nt, nmB]
noncomputable def b_isInt : MS := (mRet (mAnd (mUn (oIsi "int") (mVar 0)) (mAnd (mUn oNot (mUn (oIsi "bool") (mVar 0))) (mAnd (mBin oLe (mVar 1) (mVar 0)) (mBin oLe (mVar 0) (mVar 2))))))
noncomputable def m_isInt : MD := mDef 3 0 b_isInt
theorem isInt_ok {lo hi : Int} (h : Dt m n d) : Wp NoX (m_isInt [d, .int lo, .int hi] S) fun v S' => v = .bl (nmB lo hi d) ∧ S' = S := by
  refine wp_def0 rfl ?_
  unfold b_isInt
  cases h with
  | int i =>
    simp_arith [show oIsi "int" (.int i) S = .ok (.bl true) S from rfl, show oIsi "bool" (.int i) S = .ok (.bl false) S from rfl, tb, nt, oLe_int, nmB]
    by_cases h1 : lo ≤ i
    · simp_arith [h1, oLe_int]
    · simp_arith [h1, false_and]
  | bl b => simp_arith [show oIsi "int" (.bl b) S = .ok (.bl true) S from rfl, show oIsi "bool" (.bl b) S = .ok (.bl true) S from rfl, tb, nt, nmB]
  | non => simp_arith [show oIsi "int" .non S = .ok (.bl false) S from rfl, tb, nt, nmB]
  | str x => simp_arith [show ∀ x, oIsi "int" (.str x) S = .ok (.bl false) S from fun _ => rfl, tb, nt, nmB]
  | tup hl hx => simp_arith [show ∀ xs, oIsi "int" (.tup xs) S = .ok (.bl false) S from fun _ => rfl, tb, nt, nmB]
theorem in_lit2 {x : Str} {S : Hs} {a b : Str} : oIn (.str x) (.tup [.str a, .str b]) S = .ok (.bl (decide (x ∈ [a, b]))) S := oIn_strs (xs := [a, b]) (.inl rfl)
theorem notin_lit2 {x : Str} {S : Hs} {a b : Str} : oNotIn (.str x) (.tup [.str a, .str b]) S = .ok (.bl (!decide (x ∈ [a, b]))) S := by
  have := in_lit2 (x := x) (S := S) (a := a) (b := b)
  unfold oIn at this; unfold oNotIn
  cases hc : cIn (D.str x) (.tup [.str a, .str b]) S with
  | none => rw [hc] at this; cases this
  | some b => rw [hc] at this; injection this with h1 h2; injection h1 with h1; subst h1; rfl
noncomputable def b_isLab : MS := (mRet (mAnd (mUn (oIsi "str") (mVar 0)) (mBin oIn (mVar 0) (mTup (lCons (mC (.str "public")) (lCons (mC (.str "secret")) lNil))))))
noncomputable def m_isLab : MD := mDef 1 0 b_isLab
def labB : D → Bool := amD ["public", "secret"]
theorem isLab_ok (h : Dt m n d) : Wp NoX (m_isLab [d] S) fun v S' => v = .bl (labB d) ∧ S' = S := by
  refine wp_def0 rfl ?_
  unfold b_isLab
  cases h with
  | str x => simp_arith [show ∀ x, oIsi "str" (.str x) S = .ok (.bl true) S from fun _ => rfl, tb, in_lit2, labB, amD]
  | int i => simp_arith [show oIsi "str" (.int i) S = .ok (.bl false) S from rfl, tb, nt, labB, amD]
  | bl b => simp_arith [show oIsi "str" (.bl b) S = .ok (.bl false) S from rfl, tb, nt, labB, amD]
  | non => simp_arith [show oIsi "str" .non S = .ok (.bl false) S from rfl, tb, nt, labB, amD]
  | tup hl hx => simp_arith [show ∀ xs, oIsi "str" (.tup xs) S = .ok (.bl false) S from fun _ => rfl, tb, nt, labB, amD]
end
def tabSD (t : List (Str × Str)) : List (Key × D) := t.map fun p => (Sum.inr p.1, D.str p.2)
theorem tabSD_get {w : Str} : ∀ t : List (Str × Str), getK (tabSD t) (.inr w) = (t.lookup w).map D.str
  | [] => rfl
  | (a, b) :: t => by
    have ih := tabSD_get (w := w) t
    unfold getK tabSD at ih ⊢
    rw [List.map_cons, List.find?_cons, List.lookup_cons]
    by_cases h : a = w
    · subst h; simp
    · have h2 : (w == a) = false := by simp; exact fun e => h e.symm
      have h3 : ¬ ((Sum.inr a : Key) = Sum.inr w) := fun e => h (by injection e)
      simp only [h2, decide_eq_false h3]
      exact ih
theorem strIxA {z : Str} {k : Nat} {c : Nat} {S : Hs} (hl : z.length ≤ sizeLine) (h : z.cps.toList[k]? = some c) : oIx (.str z) (.int (k : Int)) S = .ok (.str ⟨#[c]⟩) S := by
  simp only [oIx, if_pos hl, atI_lit h]
theorem ixLastA {ds : List D} {r : D} {S : Hs} : oIx (.tup (ds ++ [r])) (.int (-1)) S = .ok r S := by
  have : L2.atI (ds ++ [r]) (-1) = some r := by
    have h2 : (-1 + ((ds.length : Int) + 1)).toNat = ds.length := by omega
    have h3 : (0 : Int) ≤ -1 + ((ds.length : Int) + 1) := by omega
    have h4 : (1 : Int) ≤ (ds.length : Int) + 1 := by omega
    simp [L2.atI, ixN, h2, h3, h4]
  simp [oIx, this]
theorem dispEndA {ps : List (D × D)} {kvs : List (Key × D)} {Q : D → Hs → Prop} {S : Hs} (h1 : keysP ps = some kvs) (h2 : kvs.length ≤ 15) (h3 : mergeD [] kvs = kvs) (hQ : Q (.ref S.length) (S ++ [.dic kvs])) : dsK S.length Q ps (S ++ [.dic []]) := by
  refine ⟨kvs, h1, get_end, h2, ?_⟩
  have : (S ++ [O.dic []]).set S.length (.dic (mergeD [] kvs)) = S ++ [.dic kvs] := by
    rw [h3, List.set_append_right _ _ (Nat.le_refl _), Nat.sub_self]; rfl
  rw [this]; exact hQ
end Ly
set_option Elab.async false
set_option linter.all false
set_option maxRecDepth 100000
namespace GK10
open PySem PySem.Spec L2 Ly
open PyProof.Rows hiding St
def d_MOST_REGIONS : D := (.int 1000)
def d_GREATEST_BASE : D := (.int 500000)
def d_GREATEST_SIZE : D := (.int 4096)
def d_SIGNS : D := (.wt [(.str "+"), (.str "-"), (.str "*"), (.str "&"), (.str "|"), (.str "^"), (.str "<<"), (.str ">>"), (.str "=="), (.str "<"), (.str "<="), (.str "div"), (.str "mod")])
def d_GREATEST_WORD : D := (.int 4294967295)
def d_REGISTERS : D := (.int 16)
def d_CODE_FORMS : List (Str × D) := [("const", (.wt [(.str "write"), (.str "word")])), ("op", (.wt [(.str "sign"), (.str "write"), (.str "read"), (.str "read")])), ("select", (.wt [(.str "write"), (.str "read"), (.str "read"), (.str "read")])), ("load", (.wt [(.str "write"), (.str "read"), (.str "base"), (.str "mask")])), ("store", (.wt [(.str "read"), (.str "base"), (.str "mask"), (.str "read")])), ("out", (.wt [(.str "read")])), ("jump", (.wt [(.str "target")])), ("branch", (.wt [(.str "read"), (.str "target")])), ("stop", (.wt [(.str "read")]))]
def d_MOST_ROWS : D := (.int 100000)
noncomputable def b__law_mix : MS := (mSeq (mSet 2 (mBin oMod (mCall bInt (lCons (mBin oAdd (mBin oAdd (mBin oMul (mVar 0) (mC (.int 48271))) (mBin oMul (mVar 1) (mC (.int 69621)))) (mC (.int 11))) lNil)) (mC (.int 2147483647))))
    (mRet (mBin oMod (mBin oMod (mCall bInt (lCons (mBin oAdd (mBin oAdd (mBin oAdd (mBin oMul (mVar 2) (mVar 2)) (mBin oMul (mVar 0) (mC (.int 40692)))) (mBin oMul (mVar 1) (mC (.int 7)))) (mC (.int 3))) lNil)) (mC (.int 1000003))) (mC (.int 1000)))))
noncomputable def m__law_mix : MD := mDef 2 1 b__law_mix
theorem len__law_mix (ds : List D) (S : Hs) (h : ds.length ≠ 2) : S_mix ds S = .bad := len_mix ds S h
noncomputable def lb__law_stream_0 : MS := (mIfS (mAndB (mCmp oGt (mVar 4) (mC (.int 0))) (mCmp oLt (mCall bLen (lCons (mVar 2) lNil)) (mVar 1))) (mSeq (mExpr (mBM "list" oAppend (mVar 2) (lCons (mBin oMod (mCall bInt (lCons (mVar 4) lNil)) (mC (.int 1000))) lNil)))
    (mSet 4 (mBin oFdiv (mVar 4) (mC (.int 1000))))) mPass)
noncomputable def lb__law_stream_1 : MS := (mIfS (mCmp oLt (mCall bLen (lCons (mVar 2) lNil)) (mVar 1)) (mExpr (mBM "list" oAppend (mVar 2) (lCons (mFn S_mix (lCons (mVar 4) (lCons (mBin oAdd (mBin oMul (mC (.int 64)) (mVar 5)) (mVar 3)) lNil))) lNil))) mPass)
noncomputable def lb__law_stream_2 : MS := (mSeq (mSet 4 (mBin oIx (mVar 0) (mVar 3)))
    (mIfS (mCmp oGe (mVar 4) (mBin oPow (mC (.int 10)) (mC (.int 18)))) (mFor (mRng1 (lCons (mC (.int 60)) lNil)) (gN 5) lb__law_stream_0) (mFor (mRng1 (lCons (mC (.int 3)) lNil)) (gN 5) lb__law_stream_1)))
noncomputable def b__law_stream : MS := (mSeq (mSet 2 (mLst lNil))
    (mSeq (mFor (mRng1 (lCons (mCall bMin (lCons (mCall bLen (lCons (mVar 0) lNil)) (lCons (mC (.int 63)) lNil))) lNil)) (gN 3) lb__law_stream_2)
    (mRet (mDisp (dpCons (mC (.str "row")) (mVar 2) (dpCons (mC (.str "at")) (mC (.int 0)) (dpCons (mC (.str "seed")) (mCall bLen (lCons (mVar 2) lNil)) dpNil)))))))
noncomputable def m__law_stream : MD := mDef 2 4 b__law_stream
theorem len__law_stream (ds : List D) (S : Hs) (h : ds.length ≠ 2) : m__law_stream ds S = .bad := mDef_len ds S h
noncomputable def b__law_pick : MS := (mSeq (mSet 2 (mBin oIx (mVar 0) (mC (.str "at"))))
    (mSeq (mAsg (mBin oAdd (mVar 2) (mC (.int 1))) (gSb (mVar 0) (mC (.str "at"))))
    (mSeq (mSet 3 (mFn S_mix (lCons (mBin oIx (mVar 0) (mC (.str "seed"))) (lCons (mVar 2) lNil))))
    (mSeq (mIfS (mCmp oLt (mVar 2) (mCall bLen (lCons (mBin oIx (mVar 0) (mC (.str "row"))) lNil))) (mSet 3 (mBin oIx (mBin oIx (mVar 0) (mC (.str "row"))) (mVar 2))) mPass)
    (mRet (mBin oMod (mCall bInt (lCons (mVar 3) lNil)) (mVar 1)))))))
noncomputable def m__law_pick : MD := mDef 2 2 b__law_pick
theorem len__law_pick (ds : List D) (S : Hs) (h : ds.length ≠ 2) : S_pick ds S = .bad := len_pick ds S h
noncomputable def b__law_place : MS := (mRet (mTup (lCons (mBin oIx (mLst (lCons (mC (.int 0)) (lCons (mC (.int 1)) (lCons (mC (.int 64)) (lCons (mC (.int 4096)) (lCons (mC (.int 500000)) lNil)))))) (mFn S_pick (lCons (mVar 0) (lCons (mC (.int 5)) lNil)))) (lCons (mBin oIx (mLst (lCons (mC (.int 0)) (lCons (mC (.int 1)) (lCons (mC (.int 3)) (lCons (mC (.int 15)) (lCons (mC (.int 255)) (lCons (mC (.int 4095)) lNil))))))) (mFn S_pick (lCons (mVar 0) (lCons (mC (.int 6)) lNil)))) lNil))))
noncomputable def m__law_place : MD := mDef 1 0 b__law_place
theorem len__law_place (ds : List D) (S : Hs) (h : ds.length ≠ 1) : m__law_place ds S = .bad := mDef_len ds S h
noncomputable def b__law_reg : MS := (mRet (mFn S_pick (lCons (mVar 0) (lCons (mC (.int 16)) lNil))))
noncomputable def m__law_reg : MD := mDef 1 0 b__law_reg
theorem len__law_reg (ds : List D) (S : Hs) (h : ds.length ≠ 1) : m__law_reg ds S = .bad := mDef_len ds S h
noncomputable def b__law_row : MS := (mSeq (mSet 2 (mFn S_pick (lCons (mVar 0) (lCons (mC (.int 9)) lNil))))
    (mSeq (mAsg (mFn m__law_place (lCons (mVar 0) lNil)) (gT 2 (gsC (gN 3) (gsC (gN 4) gsN))))
    (mSeq (mSet 5 (mFn m__law_reg (lCons (mVar 0) lNil)))
    (mSeq (mSet 6 (mFn m__law_reg (lCons (mVar 0) lNil)))
    (mSeq (mIfS (mCmp oEq (mVar 2) (mC (.int 0))) (mRet (mTup (lCons (mC (.str "const")) (lCons (mVar 5) (lCons (mBin oIx (mLst (lCons (mC (.int 0)) (lCons (mC (.int 5)) (lCons (mBin oSub (mBin oPow (mC (.int 2)) (mC (.int 32))) (mC (.int 1))) lNil)))) (mFn S_pick (lCons (mVar 0) (lCons (mC (.int 3)) lNil)))) lNil))))) mPass)
    (mSeq (mIfS (mCmp oEq (mVar 2) (mC (.int 1))) (mSeq (mSet 7 (mLst (lCons (mC (.str "+")) (lCons (mC (.str "-")) (lCons (mC (.str "*")) (lCons (mC (.str "&")) (lCons (mC (.str "|")) (lCons (mC (.str "^")) (lCons (mC (.str "<<")) (lCons (mC (.str ">>")) (lCons (mC (.str "==")) (lCons (mC (.str "<")) (lCons (mC (.str "<=")) (lCons (mC (.str "div")) (lCons (mC (.str "mod")) lNil)))))))))))))))
    (mRet (mTup (lCons (mC (.str "op")) (lCons (mBin oIx (mVar 7) (mFn S_pick (lCons (mVar 0) (lCons (mC (.int 13)) lNil)))) (lCons (mVar 5) (lCons (mVar 6) (lCons (mFn m__law_reg (lCons (mVar 0) lNil)) lNil)))))))) mPass)
    (mSeq (mIfS (mCmp oEq (mVar 2) (mC (.int 2))) (mRet (mTup (lCons (mC (.str "select")) (lCons (mVar 5) (lCons (mVar 6) (lCons (mFn m__law_reg (lCons (mVar 0) lNil)) (lCons (mFn m__law_reg (lCons (mVar 0) lNil)) lNil))))))) mPass)
    (mSeq (mIfS (mCmp oEq (mVar 2) (mC (.int 3))) (mRet (mTup (lCons (mC (.str "load")) (lCons (mVar 5) (lCons (mVar 6) (lCons (mVar 3) (lCons (mVar 4) lNil))))))) mPass)
    (mSeq (mIfS (mCmp oEq (mVar 2) (mC (.int 4))) (mRet (mTup (lCons (mC (.str "store")) (lCons (mVar 5) (lCons (mVar 3) (lCons (mVar 4) (lCons (mVar 6) lNil))))))) mPass)
    (mRet (mBin oIx (mLst (lCons (mTup (lCons (mC (.str "out")) (lCons (mVar 5) lNil))) (lCons (mTup (lCons (mC (.str "jump")) (lCons (mFn S_pick (lCons (mVar 0) (lCons (mVar 1) lNil))) lNil))) (lCons (mTup (lCons (mC (.str "branch")) (lCons (mVar 5) (lCons (mFn S_pick (lCons (mVar 0) (lCons (mVar 1) lNil))) lNil)))) (lCons (mTup (lCons (mC (.str "stop")) (lCons (mVar 5) lNil))) lNil))))) (mBin oSub (mVar 2) (mC (.int 5))))))))))))))
noncomputable def m__law_row : MD := mDef 2 6 b__law_row
theorem len__law_row (ds : List D) (S : Hs) (h : ds.length ≠ 2) : m__law_row ds S = .bad := mDef_len ds S h
noncomputable def lb__law_code_0 : MS := (mSeq (mSet 4 (mBin oIx (mLst (lCons (mC (.int 1)) (lCons (mC (.int 2)) (lCons (mC (.int 5)) (lCons (mC (.int 64)) (lCons (mC (.int 4096)) lNil)))))) (mFn S_pick (lCons (mVar 0) (lCons (mC (.int 5)) lNil)))))
    (mSeq (mExpr (mBM "list" oAppend (mVar 1) (lCons (mTup (lCons (mVar 2) (lCons (mVar 4) (lCons (mBin oIx (mLst (lCons (mC (.str "public")) (lCons (mC (.str "secret")) lNil))) (mFn S_pick (lCons (mVar 0) (lCons (mC (.int 2)) lNil)))) lNil)))) lNil)))
    (mSet 2 (mBin oAdd (mVar 2) (mVar 4)))))
noncomputable def b__law_code : MS := (mSeq (mSet 1 (mLst lNil))
    (mSeq (mSet 2 (mC (.int 0)))
    (mSeq (mFor (mRng1 (lCons (mFn S_pick (lCons (mVar 0) (lCons (mC (.int 7)) lNil))) lNil)) (gN 3) lb__law_code_0)
    (mSeq (mSet 5 (mBin oAdd (mC (.int 1)) (mFn S_pick (lCons (mVar 0) (lCons (mC (.int 20)) lNil)))))
    (mSeq (mSet 6 (mLc (mRng1 (lCons (mBin oSub (mVar 5) (mC (.int 1))) lNil)) (cN 3) mYes (mFn m__law_row (lCons (mVar 0) (lCons (mVar 5) lNil))) [3]))
    (mSeq (mExpr (mBM "list" oAppend (mVar 6) (lCons (mBin oIx (mLst (lCons (mTup (lCons (mC (.str "jump")) (lCons (mFn S_pick (lCons (mVar 0) (lCons (mVar 5) lNil))) lNil))) (lCons (mTup (lCons (mC (.str "stop")) (lCons (mFn m__law_reg (lCons (mVar 0) lNil)) lNil))) lNil))) (mFn S_pick (lCons (mVar 0) (lCons (mC (.int 2)) lNil)))) lNil)))
    (mRet (mTup (lCons (mCall bTuple (lCons (mVar 1) lNil)) (lCons (mCall bTuple (lCons (mVar 6) lNil)) lNil))))))))))
noncomputable def m__law_code : MD := mDef 1 6 b__law_code
theorem len__law_code (ds : List D) (S : Hs) (h : ds.length ≠ 1) : m__law_code ds S = .bad := mDef_len ds S h
noncomputable def b_is_number : MS := (mRet (mAnd (mUn (oIsi "int") (mVar 0)) (mAnd (mUn oNot (mUn (oIsi "bool") (mVar 0))) (mChn oLe oLe (mVar 1) (mVar 0) (mVar 2)))))
noncomputable def m_is_number : MD := mDef 3 0 b_is_number
theorem len_is_number (ds : List D) (S : Hs) (h : ds.length ≠ 3) : m_is_number ds S = .bad := mDef_len ds S h
noncomputable def b_is_label : MS := (mRet (mAnd (mUn (oIsi "str") (mVar 0)) (mBin oIn (mVar 0) (mTup (lCons (mC (.str "public")) (lCons (mC (.str "secret")) lNil))))))
noncomputable def m_is_label : MD := mDef 1 0 b_is_label
theorem len_is_label (ds : List D) (S : Hs) (h : ds.length ≠ 1) : m_is_label ds S = .bad := mDef_len ds S h
noncomputable def lb__are_regions_0 : MS := (mSeq (mIfS (mOrB (mNotB (mTru (mUn (oIsi "tuple") (mVar 2)))) (mCmp oNe (mCall bLen (lCons (mVar 2) lNil)) (mC (.int 3)))) (mRet (mC (.bl false))) mPass)
    (mSeq (mAsg (mVar 2) (gT 3 (gsC (gN 3) (gsC (gN 4) (gsC (gN 5) gsN)))))
    (mSeq (mIfS (mOrB (mNotB (mTru (mFn m_is_number (lCons (mVar 3) (lCons (mVar 1) (lCons (mVar 1) lNil)))))) (mCmp oGt (mVar 3) (mC d_GREATEST_BASE))) (mRet (mC (.bl false))) mPass)
    (mSeq (mIfS (mOrB (mNotB (mTru (mFn m_is_number (lCons (mVar 4) (lCons (mC (.int 1)) (lCons (mC d_GREATEST_SIZE) lNil)))))) (mNotB (mTru (mFn m_is_label (lCons (mVar 5) lNil))))) (mRet (mC (.bl false))) mPass)
    (mSet 1 (mBin oAdd (mVar 3) (mVar 4)))))))
noncomputable def b__are_regions : MS := (mSeq (mIfS (mOrB (mNotB (mTru (mUn (oIsi "tuple") (mVar 0)))) (mCmp oGt (mCall bLen (lCons (mVar 0) lNil)) (mC d_MOST_REGIONS))) (mRet (mC (.bl false))) mPass)
    (mSeq (mSet 1 (mC (.int 0)))
    (mSeq (mFor (mIt (mVar 0)) (gN 2) lb__are_regions_0)
    (mRet (mC (.bl true))))))
noncomputable def m__are_regions : MD := mDef 1 5 b__are_regions
theorem len__are_regions (ds : List D) (S : Hs) (h : ds.length ≠ 1) : m__are_regions ds S = .bad := mDef_len ds S h
noncomputable def b_is_mask : MS := (mRet (mAnd (mFn m_is_number (lCons (mVar 0) (lCons (mC (.int 0)) (lCons (mBin oSub (mC d_GREATEST_SIZE) (mC (.int 1))) lNil)))) (mBin oEq (mBin oAnd (mVar 0) (mBin oAdd (mVar 0) (mC (.int 1)))) (mC (.int 0)))))
noncomputable def m_is_mask : MD := mDef 1 0 b_is_mask
theorem len_is_mask (ds : List D) (S : Hs) (h : ds.length ≠ 1) : m_is_mask ds S = .bad := mDef_len ds S h
noncomputable def b__is_part : MS := (mSeq (mIfS (mCmp oEq (mVar 1) (mC (.str "sign"))) (mRet (mAnd (mUn (oIsi "str") (mVar 0)) (mBin oIn (mVar 0) (mC d_SIGNS)))) mPass)
    (mSeq (mIfS (mCmp oEq (mVar 1) (mC (.str "word"))) (mRet (mFn m_is_number (lCons (mVar 0) (lCons (mC (.int 0)) (lCons (mC d_GREATEST_WORD) lNil))))) mPass)
    (mSeq (mIfS (mCmp oEq (mVar 1) (mC (.str "base"))) (mRet (mFn m_is_number (lCons (mVar 0) (lCons (mC (.int 0)) (lCons (mC d_GREATEST_BASE) lNil))))) mPass)
    (mSeq (mIfS (mCmp oEq (mVar 1) (mC (.str "mask"))) (mRet (mFn m_is_mask (lCons (mVar 0) lNil))) mPass)
    (mSeq (mIfS (mCmp oEq (mVar 1) (mC (.str "target"))) (mRet (mFn m_is_number (lCons (mVar 0) (lCons (mC (.int 0)) (lCons (mBin oSub (mVar 2) (mC (.int 1))) lNil))))) mPass)
    (mRet (mFn m_is_number (lCons (mVar 0) (lCons (mC (.int 0)) (lCons (mBin oSub (mC d_REGISTERS) (mC (.int 1))) lNil))))))))))
noncomputable def m__is_part : MD := mDef 3 0 b__is_part
theorem len__is_part (ds : List D) (S : Hs) (h : ds.length ≠ 3) : m__is_part ds S = .bad := mDef_len ds S h
noncomputable def lb_is_row_0 : MS := (mIfS (mNotB (mTru (mFn m__is_part (lCons (mVar 3) (lCons (mVar 4) (lCons (mVar 1) lNil)))))) (mRet (mC (.bl false))) mPass)
noncomputable def b_is_row : MS := (mSeq (mIfS (mOrB (mNotB (mTru (mUn (oIsi "tuple") (mVar 0)))) (mCmp oEq (mCall bLen (lCons (mVar 0) lNil)) (mC (.int 0)))) (mRet (mC (.bl false))) mPass)
    (mSeq (mSet 2 (mBin oIx (mVar 0) (mC (.int 0))))
    (mSeq (mIfS (mOrB (mNotB (mTru (mUn (oIsi "str") (mVar 2)))) (mOrB (mNotInKB d_CODE_FORMS (mVar 2)) (mCmp oNe (mCall bLen (lCons (mVar 0) lNil)) (mBin oAdd (mCall bLen (lCons (mIxK d_CODE_FORMS (mVar 2)) lNil)) (mC (.int 1)))))) (mRet (mC (.bl false))) mPass)
    (mSeq (mFor (mZip (lCons (mSl (mVar 0) (oSome (mC (.int 1))) oNo) (lCons (mIxK d_CODE_FORMS (mVar 2)) lNil))) (gT 2 (gsC (gN 3) (gsC (gN 4) gsN))) lb_is_row_0)
    (mRet (mC (.bl true)))))))
noncomputable def m_is_row : MD := mDef 2 3 b_is_row
theorem len_is_row (ds : List D) (S : Hs) (h : ds.length ≠ 2) : m_is_row ds S = .bad := mDef_len ds S h
noncomputable def lb_is_code_0 : MS := (mIfS (mNotB (mTru (mFn m_is_row (lCons (mVar 3) (lCons (mCall bLen (lCons (mVar 2) lNil)) lNil))))) (mRet (mC (.bl false))) mPass)
noncomputable def b_is_code : MS := (mSeq (mIfS (mOrB (mNotB (mTru (mUn (oIsi "tuple") (mVar 0)))) (mCmp oNe (mCall bLen (lCons (mVar 0) lNil)) (mC (.int 2)))) (mRet (mC (.bl false))) mPass)
    (mSeq (mAsg (mVar 0) (gT 2 (gsC (gN 1) (gsC (gN 2) gsN))))
    (mSeq (mIfS (mOrB (mNotB (mTru (mFn m__are_regions (lCons (mVar 1) lNil)))) (mOrB (mNotB (mTru (mUn (oIsi "tuple") (mVar 2)))) (mNotB (mChnB oLe oLe (mC (.int 1)) (mCall bLen (lCons (mVar 2) lNil)) (mC d_MOST_ROWS))))) (mRet (mC (.bl false))) mPass)
    (mSeq (mFor (mIt (mVar 2)) (gN 3) lb_is_code_0)
    (mRet (mBin oIn (mBin oIx (mBin oIx (mVar 2) (mUn oNeg (mC (.int 1)))) (mC (.int 0))) (mTup (lCons (mC (.str "jump")) (lCons (mC (.str "stop")) lNil)))))))))
noncomputable def m_is_code : MD := mDef 1 3 b_is_code
theorem len_is_code (ds : List D) (S : Hs) (h : ds.length ≠ 1) : m_is_code ds S = .bad := mDef_len ds S h
noncomputable def b__law_is_int : MS := (mRet (mAnd (mUn (oIsi "int") (mVar 0)) (mAnd (mUn oNot (mUn (oIsi "bool") (mVar 0))) (mAnd (mBin oLe (mVar 1) (mVar 0)) (mBin oLe (mVar 0) (mVar 2))))))
noncomputable def m__law_is_int : MD := mDef 3 0 b__law_is_int
noncomputable def b__law_sorts : MS := (mSeq (mSet 0 (mDisp (dpCons (mC (.str "const")) (mC (.str "rn")) (dpCons (mC (.str "op")) (mC (.str "srrr")) (dpCons (mC (.str "select")) (mC (.str "rrrr")) (dpCons (mC (.str "load")) (mC (.str "rrbm")) (dpCons (mC (.str "store")) (mC (.str "rbmr")) (dpCons (mC (.str "out")) (mC (.str "r")) (dpCons (mC (.str "jump")) (mC (.str "t")) dpNil)))))))))
    (mSeq (mAsg (mC (.str "rt")) (gSb (mVar 0) (mC (.str "branch"))))
    (mSeq (mAsg (mC (.str "r")) (gSb (mVar 0) (mC (.str "stop"))))
    (mRet (mVar 0)))))
noncomputable def m__law_sorts : MD := mDef 0 1 b__law_sorts
noncomputable def b__law_is_part : MS := (mSeq (mIfS (mCmp oEq (mVar 0) (mC (.str "r"))) (mRet (mFn m__law_is_int (lCons (mVar 1) (lCons (mC (.int 0)) (lCons (mC (.int 15)) lNil))))) mPass)
    (mSeq (mIfS (mCmp oEq (mVar 0) (mC (.str "n"))) (mRet (mFn m__law_is_int (lCons (mVar 1) (lCons (mC (.int 0)) (lCons (mBin oSub (mBin oPow (mC (.int 2)) (mC (.int 32))) (mC (.int 1))) lNil))))) mPass)
    (mSeq (mIfS (mCmp oEq (mVar 0) (mC (.str "b"))) (mRet (mFn m__law_is_int (lCons (mVar 1) (lCons (mC (.int 0)) (lCons (mC (.int 500000)) lNil))))) mPass)
    (mSeq (mIfS (mCmp oEq (mVar 0) (mC (.str "t"))) (mRet (mFn m__law_is_int (lCons (mVar 1) (lCons (mC (.int 0)) (lCons (mBin oSub (mVar 2) (mC (.int 1))) lNil))))) mPass)
    (mSeq (mIfS (mCmp oEq (mVar 0) (mC (.str "m"))) (mRet (mAnd (mFn m__law_is_int (lCons (mVar 1) (lCons (mC (.int 0)) (lCons (mC (.int 4095)) lNil)))) (mBin oIn (mVar 1) (mLst (lCons (mC (.int 0)) (lCons (mC (.int 1)) (lCons (mC (.int 3)) (lCons (mC (.int 7)) (lCons (mC (.int 15)) (lCons (mC (.int 31)) (lCons (mC (.int 63)) (lCons (mC (.int 127)) (lCons (mC (.int 255)) (lCons (mC (.int 511)) (lCons (mC (.int 1023)) (lCons (mC (.int 2047)) (lCons (mC (.int 4095)) lNil))))))))))))))))) mPass)
    (mRet (mAnd (mUn (oIsi "str") (mVar 1)) (mBin oIn (mVar 1) (mLst (lCons (mC (.str "+")) (lCons (mC (.str "-")) (lCons (mC (.str "*")) (lCons (mC (.str "&")) (lCons (mC (.str "|")) (lCons (mC (.str "^")) (lCons (mC (.str "<<")) (lCons (mC (.str ">>")) (lCons (mC (.str "==")) (lCons (mC (.str "<")) (lCons (mC (.str "<=")) (lCons (mC (.str "div")) (lCons (mC (.str "mod")) lNil))))))))))))))))))))))
noncomputable def m__law_is_part : MD := mDef 3 0 b__law_is_part
noncomputable def b__law_is_row : MS := (mSeq (mIfS (mOrB (mNotB (mTru (mUn (oIsi "tuple") (mVar 0)))) (mOrB (mCmp oEq (mVar 0) (mTup lNil)) (mNotB (mTru (mUn (oIsi "str") (mBin oIx (mVar 0) (mC (.int 0)))))))) (mRet (mC (.bl false))) mPass)
    (mSeq (mSet 2 (mGet1 (mFn m__law_sorts lNil) (mBin oIx (mVar 0) (mC (.int 0)))))
    (mSeq (mIfS (mOrB (mCmp oIs (mVar 2) (mC .non)) (mCmp oNe (mCall bLen (lCons (mVar 0) lNil)) (mBin oAdd (mCall bLen (lCons (mVar 2) lNil)) (mC (.int 1))))) (mRet (mC (.bl false))) mPass)
    (mRet (mBin oEq (mLc (mRng1 (lCons (mCall bLen (lCons (mVar 2) lNil)) lNil)) (cN 3) (mNotB (mTru (mFn m__law_is_part (lCons (mBin oIx (mVar 2) (mVar 3)) (lCons (mBin oIx (mVar 0) (mBin oAdd (mVar 3) (mC (.int 1)))) (lCons (mVar 1) lNil)))))) (mVar 3) [3]) (mLst lNil))))))
noncomputable def m__law_is_row : MD := mDef 2 2 b__law_is_row
noncomputable def lb__law_is_code_0 : MS := (mSeq (mIfS (mOrB (mNotB (mTru (mUn (oIsi "tuple") (mVar 2)))) (mOrB (mCmp oNe (mCall bLen (lCons (mVar 2) lNil)) (mC (.int 3))) (mNotB (mTru (mFn m__law_is_int (lCons (mBin oIx (mVar 2) (mC (.int 0))) (lCons (mVar 1) (lCons (mCall bMin (lCons (mVar 1) (lCons (mC (.int 500000)) lNil))) lNil)))))))) (mRet (mC (.bl false))) mPass)
    (mSeq (mIfS (mOrB (mNotB (mTru (mFn m__law_is_int (lCons (mBin oIx (mVar 2) (mC (.int 1))) (lCons (mC (.int 1)) (lCons (mC (.int 4096)) lNil)))))) (mOrB (mNotB (mTru (mUn (oIsi "str") (mBin oIx (mVar 2) (mC (.int 2)))))) (mCmp oNotIn (mBin oIx (mVar 2) (mC (.int 2))) (mTup (lCons (mC (.str "public")) (lCons (mC (.str "secret")) lNil)))))) (mRet (mC (.bl false))) mPass)
    (mSet 1 (mBin oAdd (mVar 1) (mBin oIx (mVar 2) (mC (.int 1)))))))
noncomputable def b__law_is_code : MS := (mSeq (mIfS (mOrB (mNotB (mTru (mUn (oIsi "tuple") (mVar 0)))) (mOrB (mCmp oNe (mCall bLen (lCons (mVar 0) lNil)) (mC (.int 2))) (mOrB (mNotB (mTru (mUn (oIsi "tuple") (mBin oIx (mVar 0) (mC (.int 0)))))) (mNotB (mTru (mUn (oIsi "tuple") (mBin oIx (mVar 0) (mC (.int 1))))))))) (mRet (mC (.bl false))) mPass)
    (mSeq (mSet 1 (mC (.int 0)))
    (mSeq (mFor (mIt (mBin oIx (mVar 0) (mC (.int 0)))) (gN 2) lb__law_is_code_0)
    (mSeq (mIfS (mOrB (mCmp oGt (mCall bLen (lCons (mBin oIx (mVar 0) (mC (.int 0))) lNil)) (mC (.int 1000))) (mOrB (mCmp oEq (mBin oIx (mVar 0) (mC (.int 1))) (mTup lNil)) (mCmp oNe (mLc (mIt (mBin oIx (mVar 0) (mC (.int 1)))) (cN 3) (mNotB (mTru (mFn m__law_is_row (lCons (mVar 3) (lCons (mCall bLen (lCons (mBin oIx (mVar 0) (mC (.int 1))) lNil)) lNil))))) (mVar 3) [3]) (mLst lNil)))) (mRet (mC (.bl false))) mPass)
    (mRet (mBin oIn (mBin oIx (mBin oIx (mBin oIx (mVar 0) (mC (.int 1))) (mUn oNeg (mC (.int 1)))) (mC (.int 0))) (mTup (lCons (mC (.str "jump")) (lCons (mC (.str "stop")) lNil)))))))))
noncomputable def m__law_is_code : MD := mDef 1 3 b__law_is_code
noncomputable def b__law_says : MS := (mSeq (mSet 1 (mFn m_is_code (lCons (mVar 0) lNil)))
    (mRet (mAnd (mUn (oIsi "bool") (mVar 1)) (mBin oEq (mVar 1) (mFn m__law_is_code (lCons (mVar 0) lNil))))))
noncomputable def m__law_says : MD := mDef 1 1 b__law_says
noncomputable def b_reads : MS := (mSeq (mSet 1 (mDc (mZip (lCons (mSl (mVar 0) (oSome (mC (.int 1))) oNo) (lCons (mIxK d_CODE_FORMS (mBin oIx (mVar 0) (mC (.int 0)))) lNil))) (cT [2, 3]) (mCmp oEq (mVar 3) (mC (.str "read"))) (mVar 2) (mC (.bl true)) [2, 3]))
    (mRet (mCall bTuple (lCons (mCall bSorted (lCons (mVar 1) lNil)) lNil))))
noncomputable def m_reads : MD := mDef 1 3 b_reads
noncomputable def lb_writes_0 : MS := (mIfS (mCmp oEq (mVar 2) (mC (.str "write"))) (mRet (mVar 1)) mPass)
noncomputable def b_writes : MS := (mSeq (mFor (mZip (lCons (mSl (mVar 0) (oSome (mC (.int 1))) oNo) (lCons (mIxK d_CODE_FORMS (mBin oIx (mVar 0) (mC (.int 0)))) lNil))) (gT 2 (gsC (gN 1) (gsC (gN 2) gsN))) lb_writes_0)
    (mRet (mUn oNeg (mC (.int 1)))))
noncomputable def m_writes : MD := mDef 1 2 b_writes
noncomputable def lb__law_rows_right_0 : MS := (mSeq (mSet 2 (mBin oIx (mFn m__law_sorts lNil) (mBin oIx (mVar 1) (mC (.int 0)))))
    (mSeq (mSet 3 (mLc (mRng1 (lCons (mCall bLen (lCons (mVar 2) lNil)) lNil)) (cN 5) (mCmp oEq (mBin oIx (mVar 2) (mVar 5)) (mC (.str "r"))) (mBin oIx (mVar 1) (mBin oAdd (mVar 5) (mC (.int 1)))) [5]))
    (mSeq (mSet 4 (mUn oNeg (mC (.int 1))))
    (mSeq (mIfS (mCmp oIn (mBin oIx (mVar 1) (mC (.int 0))) (mTup (lCons (mC (.str "const")) (lCons (mC (.str "op")) (lCons (mC (.str "select")) (lCons (mC (.str "load")) lNil)))))) (mSeq (mSet 4 (mBin oIx (mVar 3) (mC (.int 0))))
    (mSet 3 (mSl (mVar 3) (oSome (mC (.int 1))) oNo))) mPass)
    (mIfS (mOrB (mCmp oNe (mFn m_reads (lCons (mVar 1) lNil)) (mCall bTuple (lCons (mUn oSrtSet (mVar 3)) lNil))) (mCmp oNe (mFn m_writes (lCons (mVar 1) lNil)) (mVar 4))) (mRet (mC (.bl false))) mPass)))))
noncomputable def b__law_rows_right : MS := (mSeq (mFor (mIt (mBin oIx (mVar 0) (mC (.int 1)))) (gN 1) lb__law_rows_right_0)
    (mRet (mC (.bl true))))
noncomputable def m__law_rows_right : MD := mDef 1 5 b__law_rows_right
noncomputable def b__law_spoilt (r__law_spoilt : MD) : MS := (mSeq (mIfS (mOrB (mNotB (mTru (mUn (oIsi "tuple") (mVar 1)))) (mOrB (mCmp oEq (mVar 1) (mTup lNil)) (mCmp oLe (mVar 2) (mC (.int 0))))) (mSeq (mSet 3 (mLst (lCons (mC .non) (lCons (mC (.bl true)) (lCons (mUn oNeg (mC (.int 1))) (lCons (mC (.int 0)) (lCons (mC (.int 1)) (lCons (mC (.int 15)) (lCons (mC (.int 16)) (lCons (mC (.int 20)) (lCons (mC (.int 4095)) (lCons (mC (.int 4096)) (lCons (mC (.int 4097)) (lCons (mBin oPow (mC (.int 2)) (mC (.int 32))) (lCons (mC (.int 500001)) (lCons (mC (.str "+")) (lCons (mC (.str "public")) (lCons (mC (.str "stop")) (lCons (mC (.str "mod")) (lCons (mC (.str "")) (lCons (mTup lNil) (lCons (mTup (lCons (mC (.str "stop")) (lCons (mC (.int 0)) lNil))) lNil))))))))))))))))))))))
    (mSeq (mSet 3 (mBin oAdd (mVar 3) (mLst (lCons (mC (.int 2)) (lCons (mC (.int 7)) (lCons (mC (.int 511)) (lCons (mC (.bl false)) (lCons (mC (.str "secret")) (lCons (mTup (lCons (mC (.str "out")) lNil)) (lCons (mTup (lCons (mC (.str "jump")) (lCons (mC (.int 0)) lNil))) (lCons (mTup (lCons (mC (.str "branch")) (lCons (mC (.int 0)) (lCons (mC (.int 0)) lNil)))) (lCons (mC (.str "copy")) (lCons (mC (.str "**")) (lCons (mTup (lCons (mC (.int 0)) (lCons (mC (.int 1)) (lCons (mC (.str "public")) lNil)))) (lCons (mC (.int 100000)) lNil)))))))))))))))
    (mRet (mBin oIx (mVar 3) (mFn S_pick (lCons (mVar 0) (lCons (mCall bLen (lCons (mVar 3) lNil)) lNil))))))) mPass)
    (mSeq (mSet 4 (mFn S_pick (lCons (mVar 0) (lCons (mBin oAdd (mCall bLen (lCons (mVar 1) lNil)) (mC (.int 1))) lNil))))
    (mSeq (mIfS (mCmp oEq (mVar 4) (mCall bLen (lCons (mVar 1) lNil))) (mRet (mBin oIx (mLst (lCons (mSl (mVar 1) oNo (oSome (mUn oNeg (mC (.int 1))))) (lCons (mBin oAdd (mVar 1) (mSl (mVar 1) (oSome (mUn oNeg (mC (.int 1)))) oNo)) (lCons (mSl (mVar 1) (oSome (mC (.int 1))) oNo) lNil)))) (mFn S_pick (lCons (mVar 0) (lCons (mC (.int 3)) lNil))))) mPass)
    (mRet (mBin oAdd (mBin oAdd (mSl (mVar 1) oNo (oSome (mVar 4))) (mTup (lCons (mFn r__law_spoilt (lCons (mVar 0) (lCons (mBin oIx (mVar 1) (mVar 4)) (lCons (mBin oSub (mVar 2) (mC (.int 1))) lNil)))) lNil))) (mSl (mVar 1) (oSome (mBin oAdd (mVar 4) (mC (.int 1)))) oNo))))))
noncomputable def rs__law_spoilt : Nat → Nat → MD
  | 0, _ => fun _ _ => .bad
  | n + 1, 0 => mDef 3 2 (b__law_spoilt (rs__law_spoilt n 0))
  | n + 1, _ => fun _ _ => .bad
noncomputable def m__law_spoilt (n : Nat) : MD := rs__law_spoilt n 0
theorem m__law_spoilt_succ (n : Nat) : m__law_spoilt (n + 1) = mDef 3 2 (b__law_spoilt (m__law_spoilt n)) := rfl
noncomputable def lb_law_0 : MS := (mSet 4 (mFn (m__law_spoilt 20) (lCons (mVar 1) (lCons (mVar 4) (lCons (mBin oAdd (mC (.int 1)) (mFn S_pick (lCons (mVar 1) (lCons (mC (.int 5)) lNil)))) lNil)))))
noncomputable def lb_law_1 : MS := (mSeq (mSet 4 (mVar 2))
    (mSeq (mFor (mRng1 (lCons (mBin oAdd (mC (.int 1)) (mFn S_pick (lCons (mVar 1) (lCons (mC (.int 3)) lNil)))) lNil)) (gN 5) lb_law_0)
    (mIfS (mNotB (mTru (mFn m__law_says (lCons (mVar 4) lNil)))) (mRet (mC (.bl false))) mPass)))
noncomputable def lb_law_2 : MS := (mIfS (mNotB (mTru (mFn m__law_says (lCons (mVar 7) lNil)))) (mRet (mC (.bl false))) mPass)
noncomputable def b_law : MS := (mSeq (mSet 1 (mFn m__law_stream (lCons (mVar 0) (lCons (mC (.int 400)) lNil))))
    (mSeq (mSet 2 (mFn m__law_code (lCons (mVar 1) lNil)))
    (mSeq (mIfS (mOrB (mCmp oNe (mC d_REGISTERS) (mC (.int 16))) (mOrB (mCmp oIsNot (mFn m_is_code (lCons (mVar 2) lNil)) (mC (.bl true))) (mOrB (mNotB (mTru (mFn m__law_says (lCons (mVar 2) lNil)))) (mNotB (mTru (mFn m__law_rows_right (lCons (mVar 2) lNil))))))) (mRet (mC (.bl false))) mPass)
    (mSeq (mFor (mRng1 (lCons (mC (.int 16)) lNil)) (gN 3) lb_law_1)
    (mSeq (mSet 6 (mCall bTuple (lCons (mLc (mRng1 (lCons (mBin oAdd (mC (.int 121)) (mFn S_pick (lCons (mVar 1) (lCons (mC (.int 4)) lNil)))) lNil)) (cN 3) mYes (mTup (lCons (mBin oMul (mC (.int 4096)) (mVar 3)) (lCons (mC (.int 4096)) (lCons (mC (.str "public")) lNil)))) [3]) lNil)))
    (mSeq (mFor (mIt (mLst (lCons (mC .non) (lCons (mTup lNil) (lCons (mTup (lCons (mTup lNil) lNil)) (lCons (mTup (lCons (mTup lNil) (lCons (mTup lNil) lNil))) (lCons (mTup (lCons (mTup lNil) (lCons (mTup (lCons (mTup (lCons (mC (.str "stop")) (lCons (mC (.int 3)) lNil))) lNil)) lNil))) (lCons (mTup (lCons (mTup lNil) (lCons (mTup (lCons (mTup (lCons (mC (.str "out")) (lCons (mC (.int 3)) lNil))) lNil)) lNil))) (lCons (mTup (lCons (mVar 6) (lCons (mTup (lCons (mTup (lCons (mC (.str "stop")) (lCons (mC (.int 3)) lNil))) lNil)) lNil))) lNil))))))))) (gN 7) lb_law_2)
    (mRet (mC (.bl true)))))))))
noncomputable def m_law : MD := mDef 1 7 b_law
end GK10
set_option Elab.async false
set_option linter.all false
set_option maxRecDepth 100000
namespace GK10
open PySem L2 Ly
open PySem.Spec hiding Row
open PyProof.Rows hiding St
local macro_rules | `(tactic| simp_arith [$ls,*]) => `(tactic| simp only [Ly.line_le, Ly.atX_no, Ly.v_ok, Ly.v_bad, Ly.v_bind, Ly.k_bd, Ly.v_at, Ly.v_bin, Ly.k_bi, Ly.k_bi2, Ly.v_var, Ly.v_c, Ly.v_un, Ly.k_un, Ly.v_if, Ly.k_ife, Ly.v_and, Ly.k_and, Ly.k_and2, Ly.v_or, Ly.k_or, Ly.k_or2, Ly.v_tup, Ly.k_tup, Ly.v_lst, Ly.k_lst, Ly.v_call, Ly.k_ca, Ly.v_fn, Ly.k_fn, Ly.v_bm, Ly.k_bm, Ly.k_bm2, Ly.v_sl, Ly.k_sl, Ly.k_sl2, Ly.k_sl3, Ly.v_ixK, Ly.k_ixk, Ly.v_inK, Ly.k_ink, Ly.v_notinK, Ly.k_nink, Ly.v_getK2, Ly.k_gk2, Ly.k_gk, Ly.v_get2, Ly.k_g2, Ly.k_g22, Ly.k_g23, Ly.v_nil, Ly.v_cons, Ly.k_co, Ly.k_co2, Ly.v_no, Ly.v_some, Ly.k_so, Ly.k_cm, Ly.v_cmp, Ly.v_tru, Ly.k_tr, Ly.v_notB, Ly.k_no, Ly.v_andB, Ly.k_an, Ly.v_orB, Ly.k_orb, Ly.v_yes, Ly.v_inKB, Ly.k_inkB, Ly.v_notinKB, Ly.k_ninkB, Ly.v_set, Ly.k_st, Ly.v_expr, Ly.k_ex, Ly.v_ret, Ly.k_re, Ly.v_retN, Ly.v_pass, Ly.v_brk, Ly.v_cnt, Ly.v_seq, Ly.k_sq_nx, Ly.k_sq_rt, Ly.k_sq_bk, Ly.k_sq_ct, Ly.v_ifS, Ly.k_ifs, Ly.v_asg, Ly.k_as, Ly.k_as2, Ly.v_aug, Ly.k_au, Ly.v_for, Ly.k_fo, Ly.v_it, Ly.k_it, Ly.k_ij, Ly.v_rng1, Ly.v_rng2, Ly.v_enum, Ly.v_zip, Ly.v_ez, Ly.v_gN, Ly.v_gsN, Ly.v_gsC, Ly.k_gc, Ly.v_gT, Ly.v_gTw, Ly.v_gSb, Ly.k_gsb, Ly.k_gsb2, Ly.k_gsb3, Ly.k_en_rt, Ly.k_en_nx, Ly.k_tu_nx, Ly.k_tu_ct, Ly.k_tu_bk, Ly.k_tu_rt, Ly.v_lc, Ly.k_lc, Ly.v_augI, Ly.k_ag, Ly.k_ag2, Ly.k_ag3, Ly.k_ag4, Ly.k_ag5, Ly.v_del, Ly.k_dl, Ly.k_dl2, Ly.v_setd, Ly.v_pop2, Ly.k_d3, Ly.k_d32, Ly.k_d33, Ly.v_get1, Ly.k_g1, Ly.k_g12, Ly.v_rg1, Ly.k_rg, Ly.v_rg2, Ly.k_rg2, Ly.k_rg22, Ly.v_dicK, Ly.v_dicT, Ly.v_dc, Ly.k_dc, List.getElem?_cons_zero, List.getElem?_cons_succ, List.set_cons_zero, List.set_cons_succ, List.length_cons, List.length_nil, List.map_cons, List.map_nil, List.cons_append, List.nil_append, List.replicate, if_true, if_false, Bool.false_eq_true, Bool.not_true, Bool.not_false, Bool.true_and, Bool.false_and, decide_true, decide_false, decide_eq_true_eq, Nat.zero_add, Nat.reduceAdd, Nat.reduceLeDiff, true_and, and_true, $ls,*])
theorem is_num : m_is_number = m_isNum := rfl
theorem is_lab : m_is_label = m_isLab := rfl
theorem is_int : m__law_is_int = m_isInt := rfl
def masksL : List Int := [0, 1, 3, 7, 15, 31, 63, 127, 255, 511, 1023, 2047, 4095]
def mskB : D → Bool | .int i => decide (0 ≤ i ∧ i ≤ 4095) && decide (i ∈ masksL) | _ => false
def formsN : List (Str × List Str) := [("const", ["write", "word"]), ("op", ["sign", "write", "read", "read"]), ("select", ["write", "read", "read", "read"]), ("load", ["write", "read", "base", "mask"]), ("store", ["read", "base", "mask", "read"]), ("out", ["read"]), ("jump", ["target"]), ("branch", ["read", "target"]), ("stop", ["read"])]
def sortsN : List (Str × Str) := [("const", "rn"), ("op", "srrr"), ("select", "rrrr"), ("load", "rrbm"), ("store", "rbmr"), ("out", "r"), ("jump", "t"), ("branch", "rt"), ("stop", "r")]
def partB (many : Nat) (k : Str) (d : D) : Bool :=
  if k = "sign" then amD signsL d else if k = "word" then nmB 0 4294967295 d else if k = "base" then nmB 0 500000 d else if k = "mask" then mskB d else if k = "target" then nmB 0 ((many : Int) - 1) d else nmB 0 15 d
def partsB (many : Nat) (ds : List D) (ks : List Str) : Bool := (ds.zip ks).all fun p => partB many p.2 p.1
def rowB (many : Nat) : D → Bool
  | .tup (.str w :: ds) => match formsN.lookup w with
    | some ks => decide (ds.length = ks.length) && partsB many ds ks
    | none => false
  | _ => false
def regB (base : Int) : D → Option Int
  | .tup [a, b, c] => if (nmB base base a && decide (base ≤ 500000)) && nmB 1 4096 b && labB c then (match b with | .int s => some (base + s) | _ => none) else none
  | _ => none
def regsB : Int → List D → Bool
  | _, [] => true
  | base, r :: rs => match regB base r with
    | some b => regsB b rs
    | none => false
def endB : D → Bool | .tup (d :: _) => amD ["jump", "stop"] d | _ => false
def codeB : D → Bool
  | .tup [.tup rs, .tup rows] => decide (rs.length ≤ 1000) && regsB 0 rs && decide (1 ≤ rows.length) && rows.all (rowB rows.length) && (match rows.getLast? with | some r => endB r | none => false)
  | _ => false
theorem maskAll : (List.range 4096).all (fun n => decide (Builtin.bitAnd (n : Int) ((n : Int) + 1) = 0) == decide ((n : Int) ∈ masksL)) = true := by decide +kernel
section
variable {m n : Nat} {d : D} {S : Hs}
theorem mask_ok (h : Dt m n d) : Wp NoX (m_is_mask [d] S) fun v S' => v = .bl (mskB d) ∧ S' = S := by
  refine wp_def0 rfl ?_
  unfold b_is_mask
  simp_arith [d_GREATEST_SIZE, oSub_int, is_num]
  refine Wp.call (isNum_ok h) ?_
  rintro _ S ⟨rfl, rfl⟩
  cases hb : nmB 0 (4096 - 1) d with
  | false =>
    have e : mskB d = false := by cases d <;> first | rfl | (simp only [nmB, mskB] at hb ⊢; rw [show ((4096:Int) - 1) = 4095 from rfl] at hb; rw [hb]; rfl)
    simp_arith [tb, e]
  | true =>
    obtain ⟨i, rfl⟩ : ∃ i, d = .int i := by cases d <;> simp [nmB] at hb; exact ⟨_, rfl⟩
    simp_arith [tb, oAdd_int, oAnd_int, oEq_int]
    simp only [nmB, decide_eq_true_eq] at hb
    obtain ⟨k, rfl⟩ : ∃ k : Nat, i = k := ⟨i.toNat, by omega⟩
    have := List.all_eq_true.mp maskAll k (List.mem_range.mpr (by omega))
    simp only [beq_iff_eq] at this
    simp only [mskB, show ((0:Int) ≤ k ∧ (k : Int) ≤ 4095) by omega, and_self, decide_true, Bool.true_and]
    rw [this]
theorem part_ok (h : Dt m n d) {k : Str} {many : Nat} : Wp NoX (m__is_part [d, .str k, nD many] S) fun v S' => v = .bl (partB many k d) ∧ S' = S := by
  refine wp_def0 rfl ?_
  unfold b__is_part partB
  by_cases h1 : k = "sign"
  · subst h1
    simp_arith [oEq_str, is_ h]
    cases d with
    | str x =>
      have e : oIn (.str x) d_SIGNS S = .ok (.bl (decide (x ∈ signsL))) S := oIn_strs (xs := signsL) (.inr (.inl rfl))
      simp_arith [isS, tb, e, amD]
    | _ => simp_arith [isS, tb, amD]
  by_cases h2 : k = "word"
  · subst h2
    simp_arith [oEq_str, h1, d_GREATEST_WORD, is_num]
    exact Wp.call (isNum_ok h) fun _ _ h => h
  by_cases h3 : k = "base"
  · subst h3
    simp_arith [oEq_str, h1, h2, d_GREATEST_BASE, is_num]
    exact Wp.call (isNum_ok h) fun _ _ h => h
  by_cases h4 : k = "mask"
  · subst h4
    simp_arith [oEq_str, h1, h2, h3]
    exact Wp.call (mask_ok h) fun _ _ h => h
  by_cases h5 : k = "target"
  · subst h5
    simp_arith [oEq_str, h1, h2, h3, h4, oSub_int, is_num]
    exact Wp.call (isNum_ok h) fun _ _ h => h
  simp_arith [oEq_str, h1, h2, h3, h4, h5, d_REGISTERS, oSub_int, is_num]
  exact Wp.call (isNum_ok h) fun _ _ h => h
theorem forms_look {w : Str} : d_CODE_FORMS.lookup w = (formsN.lookup w).map fun ks => .wt (ks.map D.str) := by
  have g : ∀ (l : List (Str × List Str)), (l.map fun p => (p.1, D.wt (p.2.map D.str))).lookup w = (l.lookup w).map fun ks => .wt (ks.map D.str) := by
    intro l
    induction l with
    | nil => rfl
    | cons p l ih =>
      obtain ⟨a, b⟩ := p
      rw [List.map_cons, List.lookup_cons, List.lookup_cons]
      cases w == a
      · exact ih
      · rfl
  exact (show d_CODE_FORMS.lookup w = (formsN.map fun p => (p.1, D.wt (p.2.map D.str))).lookup w from rfl).trans (g formsN)
theorem partsB_step {many k : Nat} {ds : List D} {ks : List Str} {x : D} {z : Str} (hl : ds.length = ks.length) (hx : ds[k]? = some x) (hz : ks[k]? = some z) : partsB many (ds.take (k + 1)) (ks.take (k + 1)) = (partsB many (ds.take k) (ks.take k) && partB many z x) := by
  rw [take_at hx, take_at hz]
  unfold partsB
  rw [List.zip_append (by simp [hl]), List.all_append]
  simp
theorem partsB_no {many k : Nat} {ds : List D} {ks : List Str} {x : D} {z : Str} (hx : ds[k]? = some x) (hz : ks[k]? = some z) (h : partB many z x = false) : partsB many ds ks = false := by
  unfold partsB
  rw [List.all_eq_false]
  have : (List.zip ds ks)[k]? = some (x, z) := by rw [List.getElem?_zip_eq_some]; exact ⟨hx, hz⟩
  exact ⟨(x, z), List.mem_of_getElem? this, by simp [h]⟩
theorem row_okB (h : Dt m n d) {many : Nat} : Wp NoX (m_is_row [d, nD many] S) fun v S' => v = .bl (rowB many d) ∧ S' = S := by
  refine wp_def0 rfl ?_
  unfold b_is_row
  cases ht : isT d with
  | false =>
    have e : rowB many d = false := by cases d <;> first | rfl | simp [isT] at ht
    simp_arith [it h, ht, tb, e]
  | true =>
    obtain ⟨ds, rfl⟩ : ∃ ds, d = .tup ds := by cases d <;> simp [isT] at ht; exact ⟨_, rfl⟩
    cases ds with
    | nil => simp_arith [it h, ht, tb, bLen_tup, oEq_int, Int.natCast_zero, rowB]
    | cons a ds =>
      have ha := h.part a (by simp)
      cases hs : isS a with
      | false =>
        have e : rowB many (.tup (a :: ds)) = false := by cases a <;> first | rfl | simp [isS] at hs
        simp_arith [it h, ht, tb, bLen_tup, oEq_int, show ¬ (((ds.length + 1 : Nat) : Int) = 0) by omega, tixA, is_ ha, hs, e]
      | true =>
        obtain ⟨w, rfl⟩ : ∃ w, a = .str w := by cases a <;> simp [isS] at hs; exact ⟨_, rfl⟩
        cases hf : formsN.lookup w with
        | none =>
          simp_arith [it h, ht, tb, bLen_tup, oEq_int, show ¬ (((ds.length + 1 : Nat) : Int) = 0) by omega, tixA, is_ ha, hs, forms_look, hf, Option.map_none, Option.isSome_none]
          simp [rowB, hf]
        | some ks =>
          have bl : ∀ S, bLen [.wt (ks.map D.str)] S = .ok (.int (ks.length : Int)) S := fun S => by simp [bLen, lenD]
          have e2 : ∀ S, oSl (.tup (.str w :: ds)) (some 1) none S = .ok (.tup ds) S := fun S => by simp only [oSl, cut1]
          have ez : ∀ S, oZip [.tup ds, .wt (ks.map D.str)] S = .ok (.zip (.t ds) (.t (ks.map D.str))) S := fun S => rfl
          simp_arith [it h, ht, tb, bLen_tup, oEq_int, show ¬ (((ds.length + 1 : Nat) : Int) = 0) by omega, tixA, is_ ha, hs, forms_look, hf, Option.map_some, Option.isSome_some, bl, oNe_int, oAdd_int]
          by_cases hl : ds.length = ks.length
          · simp_arith [show (((ds.length + 1 : Nat) : Int) = (ks.length : Int) + 1) by omega, ne_eq, not_true_eq_false, e2, forms_look, hf, Option.map_some, ez]
            have full : rowB many (.tup (.str w :: ds)) = partsB many ds ks := by simp [rowB, hf, hl]
            refine wp_zipA (fun k l S' => S' = S ∧ (∃ o3 o4, l = [some (.tup (.str w :: ds)), some (nD many), some (.str w), o3, o4]) ∧ partsB many (ds.take k) (ks.take k) = true) (show ds.length = (ks.map D.str).length by rw [List.length_map, hl]) ⟨rfl, ⟨_, _, rfl⟩, by simp [partsB]⟩ ?_ ?_
            · rintro k l S' x y hx hy ⟨rfl, ⟨o3, o4, rfl⟩, hp⟩
              obtain ⟨z, hz, rfl⟩ : ∃ z, ks[k]? = some z ∧ D.str z = y := by simpa using hy
              unfold lb_is_row_0
              simp_arith [v_gT]
              refine Wp.call (part_ok (h.part x (List.mem_cons_of_mem _ (List.mem_of_getElem? hx)))) ?_
              rintro _ S1 ⟨rfl, rfl⟩
              cases hpt : partB many z x with
              | true =>
                simp_arith [tb]
                exact ⟨⟨_, _, rfl⟩, by rw [partsB_step hl hx hz, hp, hpt]; rfl⟩
              | false =>
                simp_arith [tb]
                rw [full, partsB_no hx hz hpt]
            · rintro l S' ⟨rfl, ⟨o3, o4, rfl⟩, hp⟩
              simp_arith []
              rw [full]
              rw [List.take_of_length_le (Nat.le_refl _), List.take_of_length_le (by omega)] at hp
              rw [hp]
          · simp_arith [show ¬ (((ds.length + 1 : Nat) : Int) = (ks.length : Int) + 1) by omega, ne_eq, not_false_eq_true]
            simp [rowB, hf, hl]
theorem reg_no {base : Int} (ht : isT d = false) : regB base d = none := by cases d <;> first | rfl | simp [isT] at ht
theorem reg_ln {base : Int} {ds : List D} (hl : ds.length ≠ 3) : regB base (.tup ds) = none := by
  match ds, hl with
  | [], _ => rfl
  | [a], _ => rfl
  | [a, b], _ => rfl
  | a :: b :: c :: e :: r, _ => rfl
  | [a, b, c], hl => exact absurd rfl hl
theorem region_ok (h : Dt m n d) {base : Int} {x : D} {o3 o4 o5 : Option D} : Wp NoX (lb__are_regions_0 [some x, some (.int base), some d, o3, o4, o5] S) fun r S' => S' = S ∧
    ((∃ b o3 o4 o5, regB base d = some b ∧ r = .nx [some x, some (.int b), some d, o3, o4, o5]) ∨ (regB base d = none ∧ r = .rt (.bl false))) := by
  unfold lb__are_regions_0
  cases ht : isT d with
  | false =>
    simp_arith [it h, ht, tb]
    exact .inr (reg_no ht)
  | true =>
    obtain ⟨ds, rfl⟩ : ∃ ds, d = .tup ds := by cases d <;> simp [isT] at ht; exact ⟨_, rfl⟩
    by_cases hl : ds.length = 3
    · obtain ⟨a, b, c, rfl⟩ : ∃ a b c, ds = [a, b, c] := by
        match ds, hl with
        | [a, b, c], _ => exact ⟨a, b, c, rfl⟩
      simp_arith [it h, ht, tb, bLen_tup, oNe_int, show (((0:Nat) + 1 + 1 + 1 : Nat) : Int) = 3 from rfl, ne_eq, not_true_eq_false, v_gT, is_num]
      refine Wp.call (isNum_ok (h.part a (by simp))) ?_
      rintro _ S ⟨rfl, rfl⟩
      cases h1 : nmB base base a with
      | false =>
        simp_arith [tb]
        exact .inr (by simp [regB, h1])
      | true =>
        obtain ⟨i, rfl⟩ : ∃ i, a = .int i := by cases a <;> simp [nmB] at h1; exact ⟨_, rfl⟩
        have hi : i = base := by simp [nmB] at h1; omega
        subst hi
        by_cases hb : (500000 : Int) < i
        · simp_arith [tb, d_GREATEST_BASE, oGt_int, hb]
          exact .inr (by simp [regB, show ¬ i ≤ 500000 by omega])
        · simp_arith [tb, d_GREATEST_BASE, oGt_int, hb, is_num, d_GREATEST_SIZE]
          refine Wp.call (isNum_ok (h.part b (by simp))) ?_
          rintro _ S ⟨rfl, rfl⟩
          cases h2 : nmB 1 4096 b with
          | false =>
            simp_arith [tb]
            exact .inr (by simp [regB, h1, h2])
          | true =>
            obtain ⟨s, rfl⟩ : ∃ s, b = .int s := by cases b <;> simp [nmB] at h2; exact ⟨_, rfl⟩
            simp_arith [tb, is_lab]
            refine Wp.call (isLab_ok (h.part c (by simp))) ?_
            rintro _ S ⟨rfl, rfl⟩
            cases h3 : labB c with
            | false =>
              simp_arith [tb]
              exact .inr (by simp [regB, h1, h2, h3])
            | true =>
              simp_arith [tb, oAdd_int]
              exact .inl ⟨i + s, _, _, _, by simp [regB, h1, h2, h3, show i ≤ 500000 by omega], rfl⟩
    · simp_arith [it h, ht, tb, bLen_tup, oNe_int, show ¬ ((ds.length : Int) = 3) by omega, ne_eq, not_false_eq_true]
      exact .inr (reg_ln hl)
def rgsB : D → Bool | .tup ds => decide (ds.length ≤ 1000) && regsB 0 ds | _ => false
theorem regions_ok (h : Dt m n d) : Wp NoX (m__are_regions [d] S) fun v S' => v = .bl (rgsB d) ∧ S' = S := by
  refine wp_def0 rfl ?_
  unfold b__are_regions
  cases ht : isT d with
  | false =>
    have e : rgsB d = false := by cases d <;> first | rfl | simp [isT] at ht
    simp_arith [it h, ht, tb, e]
  | true =>
    obtain ⟨ds, rfl⟩ : ∃ ds, d = .tup ds := by cases d <;> simp [isT] at ht; exact ⟨_, rfl⟩
    simp_arith [it h, ht, tb, bLen_tup, oGt_int, d_MOST_REGIONS]
    by_cases hl : (1000 : Int) < (ds.length : Int)
    · simp_arith [hl]
      simp [rgsB, show ¬ ds.length ≤ 1000 by omega]
    · have full : rgsB (.tup ds) = regsB 0 ds := by simp [rgsB, show ds.length ≤ 1000 by omega]
      rw [full]
      simp_arith [hl, oIt]
      refine wp_tup (fun pre l S' => S' = S ∧ ∃ base o2 o3 o4 o5, l = [some (.tup ds), some (.int base), o2, o3, o4, o5] ∧ ∀ post, ds = pre ++ post → regsB 0 ds = regsB base post) ⟨rfl, 0, _, _, _, _, rfl, fun post e => by rw [e]; rfl⟩ ?_ ?_
      · rintro pre x post l S' e ⟨rfl, base, o2, o3, o4, o5, rfl, hb⟩
        have hb := hb _ e
        simp_arith []
        refine (region_ok (h.part x (by rw [e]; simp))).mono (fun _ _ _ _ h => h) ?_
        rintro r S' ⟨rfl, ⟨b, p3, p4, p5, hr, rfl⟩ | ⟨hr, rfl⟩⟩
        · refine ⟨rfl, b, _, _, _, _, rfl, fun post' e' => ?_⟩
          have : post' = post := by rw [e, List.append_assoc] at e'; have := List.append_cancel_left e'; simpa using this.symm
          rw [this, hb, regsB, hr]
        · show _ ∧ _
          rw [hb, regsB, hr]; exact ⟨rfl, rfl⟩
      · rintro l S' ⟨rfl, base, o2, o3, o4, o5, rfl, hb⟩
        simp_arith []
        rw [hb [] (by simp)]; rfl
theorem row_head {many : Nat} {d : D} (h : rowB many d = true) : ∃ w ds, d = .tup (.str w :: ds) := by
  unfold rowB at h
  split at h
  · exact ⟨_, _, rfl⟩
  · cases h
theorem code_full {rs rows : List D} {r : D} : codeB (.tup [.tup rs, .tup (rows ++ [r])]) = (rgsB (.tup rs) && (rows ++ [r]).all (rowB (rows ++ [r]).length) && endB r) := by
  simp [codeB, rgsB]
theorem code_nil {rs : List D} : codeB (.tup [.tup rs, .tup []]) = false := by simp [codeB]
theorem code_okB (h : Dt m n d) (hm : m ≤ 900) : Wp NoX (m_is_code [d] S) fun v S' => v = .bl (codeB d) ∧ S' = S := by
  refine wp_def0 rfl ?_
  unfold b_is_code
  cases ht : isT d with
  | false =>
    have e : codeB d = false := by cases d <;> first | rfl | simp [isT] at ht
    simp_arith [it h, ht, tb, e]
  | true =>
    obtain ⟨ds, rfl⟩ : ∃ ds, d = .tup ds := by cases d <;> simp [isT] at ht; exact ⟨_, rfl⟩
    by_cases hl : ds.length = 2
    · obtain ⟨a, b, rfl⟩ : ∃ a b, ds = [a, b] := by
        match ds, hl with
        | [a, b], _ => exact ⟨a, b, rfl⟩
      have ha := h.part a (by simp)
      have hb := h.part b (by simp)
      simp_arith [it h, ht, tb, bLen_tup, oNe_int, show (((0:Nat) + 1 + 1 : Nat) : Int) = 2 from rfl, ne_eq, not_true_eq_false, v_gT, -v_for]
      refine Wp.call (regions_ok ha) ?_
      rintro _ S1 ⟨rfl, rfl⟩
      cases hr : rgsB a with
      | false =>
        have e : codeB (.tup [a, b]) = false := by
          cases a with
          | tup rs =>
            cases b with
            | tup rows =>
              rcases List.eq_nil_or_concat rows with rfl | ⟨body, r, rfl⟩
              · exact code_nil
              · rw [List.concat_eq_append, code_full, hr]; rfl
            | _ => rfl
          | _ => rfl
        simp_arith [tb, e]
      | true =>
        obtain ⟨rs, rfl⟩ : ∃ rs, a = .tup rs := by cases a <;> simp [rgsB] at hr; exact ⟨_, rfl⟩
        simp_arith [tb, it hb, -v_for]
        cases htb : isT b with
        | false =>
          have e : codeB (.tup [.tup rs, b]) = false := by cases b <;> first | rfl | simp [isT] at htb
          simp_arith [tb, e]
        | true =>
          obtain ⟨rows, rfl⟩ : ∃ rows, b = .tup rows := by cases b <;> simp [isT] at htb; exact ⟨_, rfl⟩
          have lr : rows.length ≤ 900 := by cases hb with | tup hl _ => omega
          rcases List.eq_nil_or_concat rows with rfl | ⟨body, r, rfl⟩
          · rw [code_nil]
            simp_arith [tb, v_chnB, k_cb, k_cb1, bLen_tup, oLe_int, d_MOST_ROWS, show decide ((1 : Int) ≤ ((0 : Nat) : Int)) = false from rfl, k_cb2f]
          · rw [List.concat_eq_append] at *
            rw [code_full, hr]
            have l1 : decide ((1 : Int) ≤ (((body ++ [r]).length : Nat) : Int)) = true := by simp; omega
            have l2 : decide ((((body ++ [r]).length : Nat) : Int) ≤ 100000) = true := decide_eq_true (by omega)
            simp_arith [tb, v_chnB, k_cb, k_cb1, bLen_tup, oLe_int, d_MOST_ROWS, l1, k_cb2t, k_cb3, l2, oIt]
            refine wp_allT (rowB (body ++ [r]).length) (fun l => ∃ o3, l = [some (.tup [.tup rs, .tup (body ++ [r])]), some (.tup rs), some (.tup (body ++ [r])), o3]) ⟨_, rfl⟩ ?_ ?_ ?_
            · rintro d l hd ⟨o3, rfl⟩
              unfold lb_is_code_0
              simp_arith [bLen_tup]
              refine Wp.call (row_okB (hb.part d hd)) ?_
              rintro _ S1 ⟨rfl, rfl⟩
              cases hp : rowB (body ++ [r]).length d with
              | true => simp_arith [tb]; exact .inl ⟨_, rfl, _, rfl⟩
              | false => simp_arith [tb]; exact .inr trivial
            · rintro l ⟨o3, rfl⟩ hall
              obtain ⟨w, es, rfl⟩ := row_head (List.all_eq_true.mp hall r (by simp))
              simp_arith [oNeg_int, ixLastA, tixA, in_lit2]
              rw [hall]
              simp [endB, amD]
            · intro hb
              simp_arith []
              rw [hb]; simp
    · have e : codeB (.tup ds) = false := by
        match ds, hl with
        | [], _ => rfl
        | [a], _ => cases a <;> rfl
        | a :: b :: c :: e, _ => cases a <;> cases b <;> rfl
        | [a, b], hl => exact absurd rfl hl
      simp_arith [it h, ht, tb, bLen_tup, oNe_int, show ¬ ((ds.length : Int) = 2) by omega, e, ne_eq, not_false_eq_true]
end
end GK10
set_option Elab.async false
set_option linter.all false
set_option maxRecDepth 100000
namespace GK10
open PySem L2 Ly
open PySem.Spec hiding Row
open PyProof.Rows hiding St
local macro_rules | `(tactic| simp_arith [$ls,*]) => `(tactic| simp only [Ly.line_le, Ly.atX_no, Ly.v_ok, Ly.v_bad, Ly.v_bind, Ly.k_bd, Ly.v_at, Ly.v_bin, Ly.k_bi, Ly.k_bi2, Ly.v_var, Ly.v_c, Ly.v_un, Ly.k_un, Ly.v_if, Ly.k_ife, Ly.v_and, Ly.k_and, Ly.k_and2, Ly.v_or, Ly.k_or, Ly.k_or2, Ly.v_tup, Ly.k_tup, Ly.v_lst, Ly.k_lst, Ly.v_call, Ly.k_ca, Ly.v_fn, Ly.k_fn, Ly.v_bm, Ly.k_bm, Ly.k_bm2, Ly.v_sl, Ly.k_sl, Ly.k_sl2, Ly.k_sl3, Ly.v_ixK, Ly.k_ixk, Ly.v_inK, Ly.k_ink, Ly.v_notinK, Ly.k_nink, Ly.v_getK2, Ly.k_gk2, Ly.k_gk, Ly.v_get2, Ly.k_g2, Ly.k_g22, Ly.k_g23, Ly.v_nil, Ly.v_cons, Ly.k_co, Ly.k_co2, Ly.v_no, Ly.v_some, Ly.k_so, Ly.k_cm, Ly.v_cmp, Ly.v_tru, Ly.k_tr, Ly.v_notB, Ly.k_no, Ly.v_andB, Ly.k_an, Ly.v_orB, Ly.k_orb, Ly.v_yes, Ly.v_inKB, Ly.k_inkB, Ly.v_notinKB, Ly.k_ninkB, Ly.v_set, Ly.k_st, Ly.v_expr, Ly.k_ex, Ly.v_ret, Ly.k_re, Ly.v_retN, Ly.v_pass, Ly.v_brk, Ly.v_cnt, Ly.v_seq, Ly.k_sq_nx, Ly.k_sq_rt, Ly.k_sq_bk, Ly.k_sq_ct, Ly.v_ifS, Ly.k_ifs, Ly.v_asg, Ly.k_as, Ly.k_as2, Ly.v_aug, Ly.k_au, Ly.v_for, Ly.k_fo, Ly.v_it, Ly.k_it, Ly.k_ij, Ly.v_rng1, Ly.v_rng2, Ly.v_enum, Ly.v_zip, Ly.v_ez, Ly.v_gN, Ly.v_gsN, Ly.v_gsC, Ly.k_gc, Ly.v_gT, Ly.v_gTw, Ly.v_gSb, Ly.k_gsb, Ly.k_gsb2, Ly.k_gsb3, Ly.k_en_rt, Ly.k_en_nx, Ly.k_tu_nx, Ly.k_tu_ct, Ly.k_tu_bk, Ly.k_tu_rt, Ly.v_lc, Ly.k_lc, Ly.v_augI, Ly.k_ag, Ly.k_ag2, Ly.k_ag3, Ly.k_ag4, Ly.k_ag5, Ly.v_del, Ly.k_dl, Ly.k_dl2, Ly.v_setd, Ly.v_pop2, Ly.k_d3, Ly.k_d32, Ly.k_d33, Ly.v_get1, Ly.k_g1, Ly.k_g12, Ly.v_rg1, Ly.k_rg, Ly.v_rg2, Ly.k_rg2, Ly.k_rg22, Ly.v_dicK, Ly.v_dicT, Ly.v_dc, Ly.k_dc, List.getElem?_cons_zero, List.getElem?_cons_succ, List.set_cons_zero, List.set_cons_succ, List.length_cons, List.length_nil, List.map_cons, List.map_nil, List.cons_append, List.nil_append, List.replicate, if_true, if_false, Bool.false_eq_true, Bool.not_true, Bool.not_false, Bool.true_and, Bool.false_and, decide_true, decide_false, decide_eq_true_eq, Nat.zero_add, Nat.reduceAdd, Nat.reduceLeDiff, true_and, and_true, $ls,*])
def kindsL : List Str := ["write", "word", "sign", "read", "base", "mask", "target"]
def ltr (k : Str) : Str := if k = "sign" then "s" else if k = "word" then "n" else if k = "base" then "b" else if k = "mask" then "m" else if k = "target" then "t" else "r"
theorem pow32 (S : Hs) : oPow (.int 2) (.int 32) S = .ok (.int 4294967296) S := by
  have e : (2 : Int) ^ (32 : Int).toNat = 4294967296 := by decide +kernel
  have h : 0 ≤ (32 : Int) ∧ (32 : Int) ≤ 1000000 ∧ (2 : Int).natAbs < 2 ^ 64 := by decide +kernel
  simp only [oPow]
  rw [if_pos h, e]
def sorts7 : List (Str × Str) := [("const", "rn"), ("op", "srrr"), ("select", "rrrr"), ("load", "rrbm"), ("store", "rbmr"), ("out", "r"), ("jump", "t")]
def sorts8 : List (Str × Str) := [("const", "rn"), ("op", "srrr"), ("select", "rrrr"), ("load", "rrbm"), ("store", "rbmr"), ("out", "r"), ("jump", "t"), ("branch", "rt")]
theorem sorts_ok {S : Hs} : Wp NoX (m__law_sorts [] S) fun v S' => ∃ q, v = .ref q ∧ S'[q]? = some (.dic (tabSD sortsN)) ∧ S.length ≤ q ∧ Kp [] S S' := by
  refine wp_def0 rfl ?_
  unfold b__law_sorts
  simp_arith [-v_seq]
  rw [v_seq, v_set]
  refine v_disp ?_
  simp_arith [v_dpCons, k_dp, k_dp2, v_dpNil, k_dp3]
  refine dispEndA (kvs := tabSD sorts7) (by simp [keysP, D.key, tabSD, sorts7]) (by simp [tabSD, sorts7]) (by simp [mergeD, tabSD, sorts7, setK, ofString_inj]) ?_
  have h1 : (S ++ [O.dic (tabSD sorts7)])[S.length]? = some (.dic (tabSD sorts7)) := get_end
  have e1 := oSet_dic (y := .str "branch") (d := .str "rt") h1 key_str (by rw [show (tabSD sorts7).length = 7 from rfl]; exact line_big (by decide))
  have s1 : setK (tabSD sorts7) (.inr "branch") (.str "rt") = tabSD sorts8 := by simp [setK, tabSD, sorts7, sorts8, ofString_inj]
  rw [s1] at e1
  have h2 : ((S ++ [O.dic (tabSD sorts7)]).set S.length (.dic (tabSD sorts8)))[S.length]? = some (.dic (tabSD sorts8)) := get_put h1
  have e2 := oSet_dic (y := .str "stop") (d := .str "r") h2 key_str (by rw [show (tabSD sorts8).length = 8 from rfl]; exact line_big (by decide))
  have s2 : setK (tabSD sorts8) (.inr "stop") (.str "r") = tabSD sortsN := by simp [setK, tabSD, sorts8, sortsN, ofString_inj]
  rw [s2] at e2
  simp_arith [e1, e2]
  exact ⟨_, rfl, get_put h2, Nat.le_refl _, ((Kp.new.setNew (Nat.le_refl _)).setNew (Nat.le_refl _))⟩
section
variable {m n : Nat} {d : D} {S : Hs}
theorem lpart_ok (h : Dt m n d) {k : Str} (hk : k ∈ kindsL) {many : Nat} : Wp NoX (m__law_is_part [.str (ltr k), d, nD many] S) fun v S' => v = .bl (partB many k d) ∧ Kp [] S S' := by
  refine wp_def0 rfl ?_
  unfold b__law_is_part partB
  have num : ∀ {lo hi : Int} {S : Hs}, Wp NoX (m_isInt [d, .int lo, .int hi] S) fun v S' => v = .bl (nmB lo hi d) ∧ Kp [] S S' := fun {lo hi S} => (isInt_ok h).mono (fun _ _ _ _ h => h) fun v S' ⟨e1, e2⟩ => ⟨e1, by rw [e2]; exact Kp.refl⟩
  simp only [kindsL, List.mem_cons, List.not_mem_nil, or_false] at hk
  rcases hk with rfl | rfl | rfl | rfl | rfl | rfl | rfl
  · simp_arith [ltr, oEq_str, ofString_inj, String.reduceEq, is_int]
    exact Wp.call num fun _ _ h => h
  · simp_arith [ltr, oEq_str, ofString_inj, String.reduceEq, is_int, pow32, oSub_int]
    exact Wp.call num fun _ _ h => h
  · simp_arith [ltr, oEq_str, ofString_inj, String.reduceEq, is_ h]
    cases d with
    | str x =>
      have e := fun S : Hs => oIn_strs (S := S ++ [.lst (signsL.map D.str)]) (x := x) (y := .ref S.length) (xs := signsL) (.inr (.inr ⟨_, rfl, get_end⟩))
      simp only [signsL, List.map_cons, List.map_nil] at e
      simp_arith [isS, tb, e, amD]
      exact ⟨rfl, Kp.new⟩
    | _ => simp_arith [isS, tb, amD]; exact Kp.refl
  · simp_arith [ltr, oEq_str, ofString_inj, String.reduceEq, is_int]
    exact Wp.call num fun _ _ h => h
  · simp_arith [ltr, oEq_str, ofString_inj, String.reduceEq, is_int]
    exact Wp.call num fun _ _ h => h
  · simp_arith [ltr, oEq_str, ofString_inj, String.reduceEq, is_int]
    refine Wp.call (isInt_ok h) ?_
    rintro _ S ⟨rfl, rfl⟩
    cases hb : nmB 0 4095 d with
    | false =>
      have e : mskB d = false := by cases d <;> first | rfl | (simp only [nmB, mskB] at hb ⊢; rw [hb]; rfl)
      simp_arith [tb, e]; exact Kp.refl
    | true =>
      obtain ⟨i, rfl⟩ : ∃ i, d = .int i := by cases d <;> simp [nmB] at hb; exact ⟨_, rfl⟩
      have e := fun S : Hs => in_intsA (S := S ++ [.lst (masksL.map D.int)]) (i := i) (y := .ref S.length) (zs := masksL) (.inr ⟨_, rfl, get_end⟩)
      simp only [masksL, List.map_cons, List.map_nil] at e
      simp_arith [tb, e]
      simp only [nmB] at hb
      simp only [mskB, hb, Bool.true_and]
      exact ⟨rfl, Kp.new⟩
  · simp_arith [ltr, oEq_str, ofString_inj, String.reduceEq, is_int, oSub_int]
    exact Wp.call num fun _ _ h => h
def LtOk (lt : Str) (ks : List Str) : Prop := lt.length = ks.length ∧ (∀ k ∈ ks, k ∈ kindsL) ∧ ∀ (k : Nat) (z : Str), ks[k]? = some z → ∀ S, oIx (.str lt) (.int (k : Int)) S = .ok (.str (ltr z)) S
theorem lt_of {lt : Str} {ks : List Str} (hl : lt.length = ks.length) (hk : ks.length ≤ 4) (hm : ∀ k ∈ ks, k ∈ kindsL) (h : ∀ k, k < 4 → (ks[k]?).map ltr = (lt.cps.toList[k]?).map fun c => ⟨#[c]⟩) : LtOk lt ks := by
  refine ⟨hl, hm, fun k z e S => ?_⟩
  have hk4 : k < 4 := by have := (List.getElem?_eq_some_iff.mp e).1; omega
  have := h k hk4
  rw [e] at this
  cases hc : lt.cps.toList[k]? with
  | none => rw [hc] at this; cases this
  | some c =>
    rw [hc] at this
    injection this with this
    rw [this]
    exact strIxA (by rw [hl]; exact line_le (by omega)) hc
theorem look_both (w : Str) : (formsN.lookup w = none ∧ sortsN.lookup w = none) ∨ ∃ lt ks, sortsN.lookup w = some lt ∧ formsN.lookup w = some ks ∧ ks.length ≤ 4 ∧ LtOk lt ks := by
  have four : ∀ {p : Nat → Prop}, p 0 → p 1 → p 2 → p 3 → ∀ k, k < 4 → p k := fun h0 h1 h2 h3 k hk => by
    have : k = 0 ∨ k = 1 ∨ k = 2 ∨ k = 3 := by omega
    rcases this with rfl | rfl | rfl | rfl <;> assumption
  by_cases hw : w ∈ (["const", "op", "select", "load", "store", "out", "jump", "branch", "stop"] : List Str)
  · simp only [List.mem_cons, List.not_mem_nil, or_false] at hw
    rcases hw with rfl | rfl | rfl | rfl | rfl | rfl | rfl | rfl | rfl
    · exact .inr ⟨("rn" : Str), ["write", "word"], by simp [sortsN, List.lookup, beq_lit], by simp [formsN, List.lookup, beq_lit], by decide, lt_of (by decide +kernel) (by decide) (by decide +kernel) (four (by decide +kernel) (by decide +kernel) (by decide +kernel) (by decide +kernel))⟩
    · exact .inr ⟨("srrr" : Str), ["sign", "write", "read", "read"], by simp [sortsN, List.lookup, beq_lit], by simp [formsN, List.lookup, beq_lit], by decide, lt_of (by decide +kernel) (by decide) (by decide +kernel) (four (by decide +kernel) (by decide +kernel) (by decide +kernel) (by decide +kernel))⟩
    · exact .inr ⟨("rrrr" : Str), ["write", "read", "read", "read"], by simp [sortsN, List.lookup, beq_lit], by simp [formsN, List.lookup, beq_lit], by decide, lt_of (by decide +kernel) (by decide) (by decide +kernel) (four (by decide +kernel) (by decide +kernel) (by decide +kernel) (by decide +kernel))⟩
    · exact .inr ⟨("rrbm" : Str), ["write", "read", "base", "mask"], by simp [sortsN, List.lookup, beq_lit], by simp [formsN, List.lookup, beq_lit], by decide, lt_of (by decide +kernel) (by decide) (by decide +kernel) (four (by decide +kernel) (by decide +kernel) (by decide +kernel) (by decide +kernel))⟩
    · exact .inr ⟨("rbmr" : Str), ["read", "base", "mask", "read"], by simp [sortsN, List.lookup, beq_lit], by simp [formsN, List.lookup, beq_lit], by decide, lt_of (by decide +kernel) (by decide) (by decide +kernel) (four (by decide +kernel) (by decide +kernel) (by decide +kernel) (by decide +kernel))⟩
    · exact .inr ⟨("r" : Str), ["read"], by simp [sortsN, List.lookup, beq_lit], by simp [formsN, List.lookup, beq_lit], by decide, lt_of (by decide +kernel) (by decide) (by decide +kernel) (four (by decide +kernel) (by decide +kernel) (by decide +kernel) (by decide +kernel))⟩
    · exact .inr ⟨("t" : Str), ["target"], by simp [sortsN, List.lookup, beq_lit], by simp [formsN, List.lookup, beq_lit], by decide, lt_of (by decide +kernel) (by decide) (by decide +kernel) (four (by decide +kernel) (by decide +kernel) (by decide +kernel) (by decide +kernel))⟩
    · exact .inr ⟨("rt" : Str), ["read", "target"], by simp [sortsN, List.lookup, beq_lit], by simp [formsN, List.lookup, beq_lit], by decide, lt_of (by decide +kernel) (by decide) (by decide +kernel) (four (by decide +kernel) (by decide +kernel) (by decide +kernel) (by decide +kernel))⟩
    · exact .inr ⟨("r" : Str), ["read"], by simp [sortsN, List.lookup, beq_lit], by simp [formsN, List.lookup, beq_lit], by decide, lt_of (by decide +kernel) (by decide) (by decide +kernel) (four (by decide +kernel) (by decide +kernel) (by decide +kernel) (by decide +kernel))⟩
  · simp only [List.mem_cons, List.not_mem_nil, or_false, not_or] at hw
    obtain ⟨h1, h2, h3, h4, h5, h6, h7, h8, h9⟩ := hw
    have g : ∀ a : Str, w ≠ a → (w == a) = false := fun a h => by simpa using h
    refine .inl ⟨?_, ?_⟩
    · simp [formsN, List.lookup, g _ h1, g _ h2, g _ h3, g _ h4, g _ h5, g _ h6, g _ h7, g _ h8, g _ h9]
    · simp [sortsN, List.lookup, g _ h1, g _ h2, g _ h3, g _ h4, g _ h5, g _ h6, g _ h7, g _ h8, g _ h9]
def badK (many : Nat) (ds : List D) (ks : List Str) (k : Nat) : Option D := match ds[k]?, ks[k]? with
  | some x, some z => if partB many z x = true then none else some (nD k)
  | _, _ => none
theorem bad_none {many : Nat} {ds : List D} {ks : List Str} (hl : ds.length = ks.length) : ((List.range ks.length).filterMap (badK many ds ks)).isEmpty = partsB many ds ks := by
  cases hp : partsB many ds ks with
  | true =>
    have h := hp
    unfold partsB at h
    rw [List.all_eq_true] at h
    rw [List.isEmpty_iff, List.filterMap_eq_nil_iff]
    intro k hk
    have hk := List.mem_range.mp hk
    have e1 : ds[k]? = some ds[k] := List.getElem?_eq_getElem (by omega)
    have e2 : ks[k]? = some ks[k] := List.getElem?_eq_getElem hk
    have := h (ds[k], ks[k]) (by
      have : (List.zip ds ks)[k]? = some (ds[k], ks[k]) := by rw [List.getElem?_zip_eq_some]; exact ⟨e1, e2⟩
      exact List.mem_of_getElem? this)
    simp only [badK, e1, e2]
    rw [if_pos this]
  | false =>
    have h := hp
    unfold partsB at h
    rw [List.all_eq_false] at h
    obtain ⟨⟨x, z⟩, hm, hn⟩ := h
    obtain ⟨k, hk⟩ := List.mem_iff_getElem?.mp hm
    rw [List.getElem?_zip_eq_some] at hk
    have hkl := (List.getElem?_eq_some_iff.mp hk.2).1
    rw [← Bool.not_eq_true]
    intro he
    rw [List.isEmpty_iff, List.filterMap_eq_nil_iff] at he
    have := he k (List.mem_range.mpr hkl)
    simp only [badK, hk.1, hk.2] at this
    rw [if_neg hn] at this
    cases this
theorem lrow_okB (h : Dt m n d) (hn : n ≤ 20) {many : Nat} : Wp NoX (m__law_is_row [d, nD many] S) fun v S' => v = .bl (rowB many d) ∧ Kp [] S S' := by
  refine wp_def0 rfl ?_
  unfold b__law_is_row
  cases ht : isT d with
  | false =>
    have e : rowB many d = false := by cases d <;> first | rfl | simp [isT] at ht
    simp_arith [it h, ht, tb, e]
    exact Kp.refl
  | true =>
    obtain ⟨ds, rfl⟩ : ∃ ds, d = .tup ds := by cases d <;> simp [isT] at ht; exact ⟨_, rfl⟩
    simp_arith [it h, ht, tb, eq_tnil h hn]
    cases ds with
    | nil =>
      simp_arith [List.isEmpty_nil, rowB]
      exact Kp.refl
    | cons a ds =>
      have ha := h.part a (by simp)
      simp_arith [List.isEmpty_cons, tixA, is_ ha]
      cases hs : isS a with
      | false =>
        have e : rowB many (.tup (a :: ds)) = false := by cases a <;> first | rfl | simp [isS] at hs
        simp_arith [tb, e]
        exact Kp.refl
      | true =>
        obtain ⟨w, rfl⟩ : ∃ w, a = .str w := by cases a <;> simp [isS] at hs; exact ⟨_, rfl⟩
        simp_arith [tb]
        refine Wp.call sorts_ok ?_
        rintro _ S1 ⟨q, rfl, hq, hl, K1⟩
        have hty : hasTy "dict" (.ref q) S1 = true := by simp [hasTy, hq]
        simp_arith [hty, tixA, dGet_dic hq key_str, tabSD_get]
        rcases look_both w with ⟨e1, e2⟩ | ⟨lt, ks, e1, e2, h4, hlt⟩
        · simp_arith [e2, Option.map_none, show ∀ S, oIs .non .non S = .ok (.bl true) S from fun _ => rfl]
          simp [rowB, e1]
          exact K1
        · have e6 : ∀ S, bLen [.str lt] S = .ok (.int (ks.length : Int)) S := fun S => by
            have : ks.length ≤ sizeLine := line_le (by omega)
            simp [bLen, lenD, this, hlt.1]
          simp_arith [e1, Option.map_some, show ∀ x S, oIs (.str x) .non S = .ok (.bl false) S from fun _ _ => rfl, bLen_tup, e6, oAdd_int, oNe_int]
          by_cases hle : ds.length = ks.length
          · have full : rowB many (.tup (.str w :: ds)) = partsB many ds ks := by simp [rowB, e2, hle]
            simp_arith [show (((ds.length + 1 : Nat) : Int) = (ks.length : Int) + 1) by omega, ne_eq, not_true_eq_false, e6, rng1 (n := (ks.length : Int)) S1 (by omega) (by omega), Int.toNat_natCast, wipe1]
            refine lc_pure (fun k : Nat => D.int k) (xs := List.range ks.length) (badK many ds ks) (fun S' _ k hk => ?_) (by simp; omega) ?_ ?_
            · simp only [List.length_range] at hk
              by_cases hk2 : k < ks.length
              · simp [itGo, hk2]
              · simp [itGo, hk2, show ks.length ≤ k by omega]
            · intro k hk S' K
              have hk := List.mem_range.mp hk
              have hx : ds[k]? = some ds[k] := List.getElem?_eq_getElem (by omega)
              have hz : ks[k]? = some ks[k] := List.getElem?_eq_getElem hk
              have ek : (k : Int) + 1 = ((k + 1 : Nat) : Int) := rfl
              refine ⟨_, rfl, ?_⟩
              simp_arith [hlt.2.2 k _ hz, oAdd_int, ek, oIx_tup (show (D.str w :: ds)[k + 1]? = some ds[k] by simpa using hx)]
              refine Wp.call (lpart_ok (h.part _ (List.mem_cons_of_mem _ (List.getElem_mem (show k < ds.length by omega)))) (hlt.2.1 _ (List.getElem_mem hk))) ?_
              rintro _ S2 ⟨rfl, K2⟩
              cases hp : partB many ks[k] ds[k] with
              | true =>
                simp_arith [tb]
                exact ⟨K2, by simp only [badK, hx, hz]; rw [if_pos hp]⟩
              | false =>
                simp_arith [tb]
                exact ⟨K2, Kp.refl, by simp only [badK, hx, hz]; rw [if_neg (by simp [hp])]⟩
            · intro S' h2 K2
              simp_arith []
              have hb := bad_none (many := many) hle
              have hpl : D.plains ((List.range ks.length).filterMap (badK many ds ks)) = true := by
                rw [plains_mem]
                intro x hx
                obtain ⟨k, _, hk⟩ := List.mem_filterMap.mp hx
                unfold badK at hk
                split at hk
                · split at hk <;> cases hk; rfl
                · cases hk
              have hdp : PyData.depthAll (D.toPs ((List.range ks.length).filterMap (badK many ds ks))) ≤ 30 := by
                refine depthAll_mem _ fun x hx => ?_
                obtain ⟨k, _, hk⟩ := List.mem_filterMap.mp hx
                unfold badK at hk
                split at hk
                · split at hk <;> cases hk; simp [D.toP, PyData.depth]
                · cases hk
              have e := eq_nil (S := S' ++ [.lst []]) (i := S1.length) (j := S'.length) (by rw [List.getElem?_append_left (Real.lt h2)]; exact h2) get_end hpl hdp
              rw [hb] at e
              simp_arith [oEq, e]
              rw [full]
              exact ⟨rfl, (K1.trans K2).app⟩
          · simp_arith [show ¬ (((ds.length + 1 : Nat) : Int) = (ks.length : Int) + 1) by omega, ne_eq, not_false_eq_true]
            exact ⟨by simp [rowB, e2, hle], K1⟩
end
end GK10
set_option Elab.async false
set_option linter.all false
set_option maxRecDepth 100000
namespace GK10
open PySem L2 Ly
open PySem.Spec hiding Row
open PyProof.Rows hiding St
local macro_rules | `(tactic| simp_arith [$ls,*]) => `(tactic| simp only [Ly.line_le, Ly.atX_no, Ly.v_ok, Ly.v_bad, Ly.v_bind, Ly.k_bd, Ly.v_at, Ly.v_bin, Ly.k_bi, Ly.k_bi2, Ly.v_var, Ly.v_c, Ly.v_un, Ly.k_un, Ly.v_if, Ly.k_ife, Ly.v_and, Ly.k_and, Ly.k_and2, Ly.v_or, Ly.k_or, Ly.k_or2, Ly.v_tup, Ly.k_tup, Ly.v_lst, Ly.k_lst, Ly.v_call, Ly.k_ca, Ly.v_fn, Ly.k_fn, Ly.v_bm, Ly.k_bm, Ly.k_bm2, Ly.v_sl, Ly.k_sl, Ly.k_sl2, Ly.k_sl3, Ly.v_ixK, Ly.k_ixk, Ly.v_inK, Ly.k_ink, Ly.v_notinK, Ly.k_nink, Ly.v_getK2, Ly.k_gk2, Ly.k_gk, Ly.v_get2, Ly.k_g2, Ly.k_g22, Ly.k_g23, Ly.v_nil, Ly.v_cons, Ly.k_co, Ly.k_co2, Ly.v_no, Ly.v_some, Ly.k_so, Ly.k_cm, Ly.v_cmp, Ly.v_tru, Ly.k_tr, Ly.v_notB, Ly.k_no, Ly.v_andB, Ly.k_an, Ly.v_orB, Ly.k_orb, Ly.v_yes, Ly.v_inKB, Ly.k_inkB, Ly.v_notinKB, Ly.k_ninkB, Ly.v_set, Ly.k_st, Ly.v_expr, Ly.k_ex, Ly.v_ret, Ly.k_re, Ly.v_retN, Ly.v_pass, Ly.v_brk, Ly.v_cnt, Ly.v_seq, Ly.k_sq_nx, Ly.k_sq_rt, Ly.k_sq_bk, Ly.k_sq_ct, Ly.v_ifS, Ly.k_ifs, Ly.v_asg, Ly.k_as, Ly.k_as2, Ly.v_aug, Ly.k_au, Ly.v_for, Ly.k_fo, Ly.v_it, Ly.k_it, Ly.k_ij, Ly.v_rng1, Ly.v_rng2, Ly.v_enum, Ly.v_zip, Ly.v_ez, Ly.v_gN, Ly.v_gsN, Ly.v_gsC, Ly.k_gc, Ly.v_gT, Ly.v_gTw, Ly.v_gSb, Ly.k_gsb, Ly.k_gsb2, Ly.k_gsb3, Ly.k_en_rt, Ly.k_en_nx, Ly.k_tu_nx, Ly.k_tu_ct, Ly.k_tu_bk, Ly.k_tu_rt, Ly.v_lc, Ly.k_lc, Ly.v_augI, Ly.k_ag, Ly.k_ag2, Ly.k_ag3, Ly.k_ag4, Ly.k_ag5, Ly.v_del, Ly.k_dl, Ly.k_dl2, Ly.v_setd, Ly.v_pop2, Ly.k_d3, Ly.k_d32, Ly.k_d33, Ly.v_get1, Ly.k_g1, Ly.k_g12, Ly.v_rg1, Ly.k_rg, Ly.v_rg2, Ly.k_rg2, Ly.k_rg22, Ly.v_dicK, Ly.v_dicT, Ly.v_dc, Ly.k_dc, List.getElem?_cons_zero, List.getElem?_cons_succ, List.set_cons_zero, List.set_cons_succ, List.length_cons, List.length_nil, List.map_cons, List.map_nil, List.cons_append, List.nil_append, List.replicate, if_true, if_false, Bool.false_eq_true, Bool.not_true, Bool.not_false, Bool.true_and, Bool.false_and, decide_true, decide_false, decide_eq_true_eq, Nat.zero_add, Nat.reduceAdd, Nat.reduceLeDiff, true_and, and_true, $ls,*])
section
variable {m n : Nat} {d : D} {S : Hs}
theorem min500 {b : Int} {S : Hs} : bMin [.int b, .int 500000] S = .ok (.int (if 500000 < b then 500000 else b)) S := by
  simp only [bMin]
theorem nm_min {b : Int} : nmB b (if 500000 < b then 500000 else b) d = (nmB b b d && decide (b ≤ 500000)) := by
  cases d with
  | int i =>
    simp only [nmB]
    by_cases h : (500000 : Int) < b
    · rw [if_pos h, decide_eq_false (show ¬ b ≤ 500000 by omega), Bool.and_false, decide_eq_false (by omega)]
    · rw [if_neg h, decide_eq_true (show b ≤ 500000 by omega), Bool.and_true]
  | _ => rfl
theorem lregion_ok (h : Dt m n d) {base : Int} {x : D} {o3 : Option D} : Wp NoX (lb__law_is_code_0 [some x, some (.int base), some d, o3] S) fun r S' => S' = S ∧
    ((∃ b, regB base d = some b ∧ r = .nx [some x, some (.int b), some d, o3]) ∨ (regB base d = none ∧ r = .rt (.bl false))) := by
  unfold lb__law_is_code_0
  cases ht : isT d with
  | false =>
    simp_arith [it h, ht, tb]
    exact .inr (reg_no ht)
  | true =>
    obtain ⟨ds, rfl⟩ : ∃ ds, d = .tup ds := by cases d <;> simp [isT] at ht; exact ⟨_, rfl⟩
    by_cases hl : ds.length = 3
    · obtain ⟨a, b, c, rfl⟩ : ∃ a b c, ds = [a, b, c] := by
        match ds, hl with
        | [a, b, c], _ => exact ⟨a, b, c, rfl⟩
      simp_arith [it h, ht, tb, bLen_tup, oNe_int, show (((0:Nat) + 1 + 1 + 1 : Nat) : Int) = 3 from rfl, ne_eq, not_true_eq_false, tix0, tix1, tix2, is_int, min500]
      refine Wp.call (isInt_ok (h.part a (by simp))) ?_
      rintro _ S ⟨rfl, rfl⟩
      rw [nm_min]
      cases h1 : (nmB base base a && decide (base ≤ 500000)) with
      | false =>
        simp_arith [tb]
        exact .inr (by simp only [regB, h1, Bool.false_and, Bool.false_eq_true, if_false])
      | true =>
        simp_arith [tb, tix1, is_int]
        refine Wp.call (isInt_ok (h.part b (by simp))) ?_
        rintro _ S ⟨rfl, rfl⟩
        cases h2 : nmB 1 4096 b with
        | false =>
          simp_arith [tb]
          exact .inr (by simp only [regB, h1, h2, Bool.true_and, Bool.false_and, Bool.false_eq_true, if_false])
        | true =>
          obtain ⟨s, rfl⟩ : ∃ s, b = .int s := by cases b <;> simp [nmB] at h2; exact ⟨_, rfl⟩
          simp_arith [tb, tix2, is_ (h.part c (by simp))]
          cases hs : isS c with
          | false =>
            have h3 : labB c = false := by cases c <;> first | rfl | simp [isS] at hs
            simp_arith [tb]
            exact .inr (by simp only [regB, h1, h2, h3, Bool.and_false, Bool.false_eq_true, if_false])
          | true =>
            obtain ⟨w, rfl⟩ : ∃ w, c = .str w := by cases c <;> simp [isS] at hs; exact ⟨_, rfl⟩
            simp_arith [tb, notin_lit2]
            have e3 : decide (w ∈ (["public", "secret"] : List Str)) = labB (.str w) := rfl
            rw [e3]
            cases h3 : labB (.str w) with
            | false =>
              simp_arith [tb]
              exact .inr (by simp only [regB, h1, h2, h3, Bool.and_false, Bool.false_eq_true, if_false])
            | true =>
              simp_arith [tb, tix1, oAdd_int]
              exact .inl ⟨base + s, by simp only [regB, h1, h2, h3, Bool.and_self, if_true], rfl⟩
    · simp_arith [it h, ht, tb, bLen_tup, oNe_int, show ¬ ((ds.length : Int) = 3) by omega, ne_eq, not_false_eq_true]
      exact .inr (reg_ln hl)
def badR (many : Nat) (d : D) : Option D := if rowB many d = true then none else some d
theorem badR_all {many : Nat} {ds : List D} : (ds.filterMap (badR many)).isEmpty = ds.all (rowB many) := by
  induction ds with
  | nil => rfl
  | cons d ds ih =>
    have hb : badR many d = if rowB many d = true then none else some d := rfl
    rw [List.filterMap_cons, List.all_cons, hb]
    cases rowB many d
    · simp
    · simpa using ih
theorem regs_none {rs rows : List D} (h : regsB 0 rs = false) : codeB (.tup [.tup rs, .tup rows]) = false := by
  simp [codeB, h]
theorem lcode_okB (h : Dt m n d) (hm : m ≤ 900) (hn : n ≤ 20) : Wp NoX (m__law_is_code [d] S) fun v S' => v = .bl (codeB d) ∧ Kp [] S S' := by
  refine wp_def0 rfl ?_
  unfold b__law_is_code
  cases ht : isT d with
  | false =>
    have e : codeB d = false := by cases d <;> first | rfl | simp [isT] at ht
    simp_arith [it h, ht, tb, e]
    exact Kp.refl
  | true =>
    obtain ⟨ds, rfl⟩ : ∃ ds, d = .tup ds := by cases d <;> simp [isT] at ht; exact ⟨_, rfl⟩
    by_cases hl : ds.length = 2
    · obtain ⟨a, b, rfl⟩ : ∃ a b, ds = [a, b] := by
        match ds, hl with
        | [a, b], _ => exact ⟨a, b, rfl⟩
      have ha := h.part a (by simp)
      have hb := h.part b (by simp)
      simp_arith [it h, ht, tb, bLen_tup, oNe_int, show (((0:Nat) + 1 + 1 : Nat) : Int) = 2 from rfl, ne_eq, not_true_eq_false, tix0, tix1, it ha, it hb, -v_for]
      cases hta : isT a with
      | false =>
        have e : codeB (.tup [a, b]) = false := by cases a <;> first | rfl | simp [isT] at hta
        simp_arith [tb, e]
        exact Kp.refl
      | true =>
        obtain ⟨rs, rfl⟩ : ∃ rs, a = .tup rs := by cases a <;> simp [isT] at hta; exact ⟨_, rfl⟩
        simp_arith [tb, tix1, it hb, -v_for]
        cases htb : isT b with
        | false =>
          have e : codeB (.tup [.tup rs, b]) = false := by cases b <;> first | rfl | simp [isT] at htb
          simp_arith [tb, e]
          exact Kp.refl
        | true =>
          obtain ⟨rows, rfl⟩ : ∃ rows, b = .tup rows := by cases b <;> simp [isT] at htb; exact ⟨_, rfl⟩
          have lr : rows.length ≤ 900 := by cases hb with | tup hl _ => omega
          have lrs : rs.length ≤ 900 := by cases ha with | tup hl _ => omega
          obtain ⟨n', rfl⟩ : ∃ n', n = n' + 1 := by cases h; exact ⟨_, rfl⟩
          simp_arith [tb, tix0, oIt]
          refine wp_tup (fun pre l S' => S' = S ∧ ∃ base o2 o3, l = [some (.tup [.tup rs, .tup rows]), some (.int base), o2, o3] ∧ ∀ post, rs = pre ++ post → regsB 0 rs = regsB base post) ⟨rfl, 0, _, _, rfl, fun post e => by rw [e]; rfl⟩ ?_ ?_
          · rintro pre x post l S' e ⟨rfl, base, o2, o3, rfl, hbs⟩
            have hbs := hbs _ e
            simp_arith []
            refine (lregion_ok (ha.part x (by rw [e]; simp))).mono (fun _ _ _ _ h => h) ?_
            rintro r S' ⟨rfl, ⟨b, hr, rfl⟩ | ⟨hr, rfl⟩⟩
            · refine ⟨rfl, b, _, _, rfl, fun post' e' => ?_⟩
              have : post' = post := by rw [e, List.append_assoc] at e'; have := List.append_cancel_left e'; simpa using this.symm
              rw [this, hbs, regsB, hr]
            · show _ ∧ _
              rw [regs_none (by rw [hbs, regsB, hr])]; exact ⟨rfl, Kp.refl⟩
          · rintro l S' ⟨rfl, base, o2, o3, rfl, hbs⟩
            have hrs : regsB 0 rs = true := by rw [hbs [] (by simp)]; rfl
            simp_arith [tix0, tix1, bLen_tup, oGt_int, show ¬ (1000 : Int) < (rs.length : Int) by omega, eq_tnil hb (by omega)]
            rcases List.eq_nil_or_concat rows with rfl | ⟨body, r, rfl⟩
            · rw [code_nil]
              simp_arith [List.isEmpty_nil]
              exact Kp.refl
            · rw [List.concat_eq_append] at *
              simp_arith [show (body ++ [r]).isEmpty = false by simp, oIt, wipe1]
              refine lc_pure id (xs := body ++ [r]) (badR (body ++ [r]).length) (fun S' _ k hk => by simp [itGo]) (by omega) ?_ ?_
              · intro x hx S2 K
                refine ⟨_, rfl, ?_⟩
                simp_arith [tix1, bLen_tup, id_eq]
                refine Wp.call (lrow_okB (hb.part x hx) (by omega)) ?_
                rintro _ S3 ⟨rfl, K3⟩
                have hb2 : badR (body ++ [r]).length x = if rowB (body ++ [r]).length x = true then none else some x := rfl
                cases hp : rowB (body ++ [r]).length x with
                | true =>
                  simp_arith [tb]
                  exact ⟨K3, by show badR (body ++ [r]).length x = none; rw [hb2, hp]; rfl⟩
                | false =>
                  simp_arith [tb]
                  exact ⟨K3, Kp.refl, by show badR (body ++ [r]).length x = _; rw [hb2, hp]; rfl⟩
              · intro S2 h2 K2
                have hsub : ∀ x ∈ (body ++ [r]).filterMap (badR (body ++ [r]).length), Dt m (n' + 1) x := by
                  intro x hx
                  obtain ⟨y, hy, e⟩ := List.mem_filterMap.mp hx
                  unfold badR at e
                  split at e <;> cases e
                  exact hb.part _ hy
                have hpl : D.plains ((body ++ [r]).filterMap (badR (body ++ [r]).length)) = true := by
                  rw [plains_mem]; exact fun x hx => (hsub x hx).plain.1
                have hdp : PyData.depthAll (D.toPs ((body ++ [r]).filterMap (badR (body ++ [r]).length))) ≤ 30 := depthAll_mem _ fun x hx => by have := (hsub x hx).plain.2; omega
                have e := eq_nil (S := S2 ++ [.lst []]) (i := S'.length) (j := S2.length) (by rw [List.getElem?_append_left (Real.lt h2)]; exact h2) get_end hpl hdp
                rw [badR_all] at e
                simp_arith [oNe, e]
                rw [code_full]
                have hrg : rgsB (.tup rs) = true := by simp [rgsB, hrs]; omega
                rw [hrg]
                cases hall : (body ++ [r]).all (rowB (body ++ [r]).length) with
                | false =>
                  simp_arith []
                  exact K2.app
                | true =>
                  obtain ⟨w, es, rfl⟩ := row_head (List.all_eq_true.mp hall r (by simp))
                  simp_arith [tix1, oNeg_int, ixLastA, tixA, in_lit2]
                  exact ⟨by simp [endB, amD], K2.app⟩
    · have e : codeB (.tup ds) = false := by
        match ds, hl with
        | [], _ => rfl
        | [a], _ => cases a <;> rfl
        | a :: b :: c :: e, _ => cases a <;> cases b <;> rfl
        | [a, b], hl => exact absurd rfl hl
      simp_arith [it h, ht, tb, bLen_tup, oNe_int, show ¬ ((ds.length : Int) = 2) by omega, e, ne_eq, not_false_eq_true]
      exact Kp.refl
theorem says_ok (h : Dt m n d) (hm : m ≤ 900) (hn : n ≤ 20) : Wp NoX (m__law_says [d] S) fun v S' => v = .bl true ∧ Kp [] S S' := by
  refine wp_def0 rfl ?_
  unfold b__law_says
  simp_arith []
  refine Wp.call (code_okB h hm) ?_
  rintro _ S ⟨rfl, rfl⟩
  simp_arith [show ∀ b S, oIsi "bool" (.bl b) S = .ok (.bl true) S from fun _ _ => rfl, tb]
  refine Wp.call (lcode_okB h hm hn) ?_
  rintro _ S2 ⟨rfl, K⟩
  have : cEqD (.bl (codeB d)) (.bl (codeB d)) S2 = some true := by unfold cEqD; simp [cEqS]
  simp_arith [oEq, this]
  exact K
end
end GK10
set_option Elab.async false
set_option linter.all false
set_option maxRecDepth 100000
namespace GK10
open PySem L2 Ly
open PySem.Spec hiding Row
open PyProof.Rows hiding St
local macro_rules | `(tactic| simp_arith [$ls,*]) => `(tactic| simp only [Ly.line_le, Ly.atX_no, Ly.v_ok, Ly.v_bad, Ly.v_bind, Ly.k_bd, Ly.v_at, Ly.v_bin, Ly.k_bi, Ly.k_bi2, Ly.v_var, Ly.v_c, Ly.v_un, Ly.k_un, Ly.v_if, Ly.k_ife, Ly.v_and, Ly.k_and, Ly.k_and2, Ly.v_or, Ly.k_or, Ly.k_or2, Ly.v_tup, Ly.k_tup, Ly.v_lst, Ly.k_lst, Ly.v_call, Ly.k_ca, Ly.v_fn, Ly.k_fn, Ly.v_bm, Ly.k_bm, Ly.k_bm2, Ly.v_sl, Ly.k_sl, Ly.k_sl2, Ly.k_sl3, Ly.v_ixK, Ly.k_ixk, Ly.v_inK, Ly.k_ink, Ly.v_notinK, Ly.k_nink, Ly.v_getK2, Ly.k_gk2, Ly.k_gk, Ly.v_get2, Ly.k_g2, Ly.k_g22, Ly.k_g23, Ly.v_nil, Ly.v_cons, Ly.k_co, Ly.k_co2, Ly.v_no, Ly.v_some, Ly.k_so, Ly.k_cm, Ly.v_cmp, Ly.v_tru, Ly.k_tr, Ly.v_notB, Ly.k_no, Ly.v_andB, Ly.k_an, Ly.v_orB, Ly.k_orb, Ly.v_yes, Ly.v_inKB, Ly.k_inkB, Ly.v_notinKB, Ly.k_ninkB, Ly.v_set, Ly.k_st, Ly.v_expr, Ly.k_ex, Ly.v_ret, Ly.k_re, Ly.v_retN, Ly.v_pass, Ly.v_brk, Ly.v_cnt, Ly.v_seq, Ly.k_sq_nx, Ly.k_sq_rt, Ly.k_sq_bk, Ly.k_sq_ct, Ly.v_ifS, Ly.k_ifs, Ly.v_asg, Ly.k_as, Ly.k_as2, Ly.v_aug, Ly.k_au, Ly.v_for, Ly.k_fo, Ly.v_it, Ly.k_it, Ly.k_ij, Ly.v_rng1, Ly.v_rng2, Ly.v_enum, Ly.v_zip, Ly.v_ez, Ly.v_gN, Ly.v_gsN, Ly.v_gsC, Ly.k_gc, Ly.v_gT, Ly.v_gTw, Ly.v_gSb, Ly.k_gsb, Ly.k_gsb2, Ly.k_gsb3, Ly.k_en_rt, Ly.k_en_nx, Ly.k_tu_nx, Ly.k_tu_ct, Ly.k_tu_bk, Ly.k_tu_rt, Ly.v_lc, Ly.k_lc, Ly.v_augI, Ly.k_ag, Ly.k_ag2, Ly.k_ag3, Ly.k_ag4, Ly.k_ag5, Ly.v_del, Ly.k_dl, Ly.k_dl2, Ly.v_setd, Ly.v_pop2, Ly.k_d3, Ly.k_d32, Ly.k_d33, Ly.v_get1, Ly.k_g1, Ly.k_g12, Ly.v_rg1, Ly.k_rg, Ly.v_rg2, Ly.k_rg2, Ly.k_rg22, Ly.v_dicK, Ly.v_dicT, Ly.v_dc, Ly.k_dc, List.getElem?_cons_zero, List.getElem?_cons_succ, List.set_cons_zero, List.set_cons_succ, List.length_cons, List.length_nil, List.map_cons, List.map_nil, List.cons_append, List.nil_append, List.replicate, if_true, if_false, Bool.false_eq_true, Bool.not_true, Bool.not_false, Bool.true_and, Bool.false_and, decide_true, decide_false, decide_eq_true_eq, Nat.zero_add, Nat.reduceAdd, Nat.reduceLeDiff, true_and, and_true, $ls,*])
def wordR : MRow → Str
  | .const _ _ => "const" | .op _ _ _ _ => "op" | .select _ _ _ _ => "select" | .load _ _ _ _ => "load" | .store _ _ _ _ => "store" | .out _ => "out" | .jump _ => "jump" | .branch _ _ => "branch" | .stop _ => "stop"
def fldR : MRow → List D
  | .const d n => [nD d, nD n]
  | .op s d a b => [.str s, nD d, nD a, nD b]
  | .select d c a b => [nD d, nD c, nD a, nD b]
  | .load d a base mask => [nD d, nD a, nD base, nD mask]
  | .store a base mask v => [nD a, nD base, nD mask, nD v]
  | .out a => [nD a]
  | .jump t => [nD t]
  | .branch a t => [nD a, nD t]
  | .stop a => [nD a]
def ksR : MRow → List Str
  | .const _ _ => ["write", "word"] | .op _ _ _ _ => ["sign", "write", "read", "read"] | .select _ _ _ _ => ["write", "read", "read", "read"] | .load _ _ _ _ => ["write", "read", "base", "mask"]
  | .store _ _ _ _ => ["read", "base", "mask", "read"] | .out _ => ["read"] | .jump _ => ["target"] | .branch _ _ => ["read", "target"] | .stop _ => ["read"]
def rdR : MRow → List Nat
  | .const _ _ => [] | .op _ _ a b => [a, b] | .select _ c a b => [c, a, b] | .load _ a _ _ => [a] | .store a _ _ v => [a, v] | .out a => [a] | .jump _ => [] | .branch a _ => [a] | .stop a => [a]
def wrR : MRow → Option Nat
  | .const d _ => some d | .op _ d _ _ => some d | .select d _ _ _ => some d | .load d _ _ _ => some d | _ => none
theorem D_R (r : MRow) : r.D = .tup (.str (wordR r) :: fldR r) := by cases r <;> rfl
theorem len_R (r : MRow) : (fldR r).length = (ksR r).length ∧ (ksR r).length ≤ 4 := by cases r <;> simp [fldR, ksR]
theorem look_R (r : MRow) : formsN.lookup (wordR r) = some (ksR r) := by cases r <;> simp [formsN, wordR, ksR, List.lookup, beq_lit]
def firstW : List (D × Str) → D
  | [] => .int (-1)
  | (x, z) :: P => if z = "write" then x else firstW P
def optD : Option Nat → D
  | some n => nD n
  | none => .int (-1)
theorem firstW_R (r : MRow) : firstW ((fldR r).zip (ksR r)) = optD (wrR r) := by cases r <;> simp [firstW, fldR, ksR, wrR, optD, ofString_inj]
def rdP (p : D × Str) : Option Nat := if p.2 = "read" then (match p.1 with | .int i => some i.toNat | _ => none) else none
theorem rdP_R (r : MRow) : ((fldR r).zip (ksR r)).filterMap rdP = rdR r := by cases r <;> simp [rdP, fldR, ksR, rdR, ofString_inj, nD]
theorem rd_nat (r : MRow) : ∀ p ∈ (fldR r).zip (ksR r), p.2 = "read" → ∃ n : Nat, p.1 = nD n := by
  cases r <;> simp [fldR, ksR, ofString_inj, nD, Int.natCast_inj]
def regK (ds : List D) (ks : List Str) (k : Nat) : Option D := match ds[k]?, ks[k]? with
  | some x, some z => if ltr z = "r" then some x else none
  | _, _ => none
theorem regs_R (r : MRow) : (List.range (ksR r).length).filterMap (regK (fldR r) (ksR r)) = ((wrR r).toList ++ rdR r).map nD := by
  cases r <;> simp [List.range, List.range.loop, regK, fldR, ksR, ltr, wrR, rdR, ofString_inj]
section
variable {S : Hs}
theorem writes_okR (r : MRow) : Wp NoX (m_writes [r.D] S) fun v S' => v = optD (wrR r) ∧ S' = S := by
  refine wp_def0 rfl ?_
  unfold b_writes
  have hl := len_R r
  have e2 : ∀ S, oSl (.tup (.str (wordR r) :: fldR r)) (some 1) none S = .ok (.tup (fldR r)) S := fun S => by simp only [oSl, cut1]
  have ez : ∀ S, oZip [.tup (fldR r), .wt ((ksR r).map D.str)] S = .ok (.zip (.t (fldR r)) (.t ((ksR r).map D.str))) S := fun S => rfl
  simp_arith [D_R, e2, tixA, forms_look, look_R, Option.map_some, ez]
  refine wp_zipA (fun k l S' => S' = S ∧ (∃ o1 o2 : Option D, l = [some (.tup (.str (wordR r) :: fldR r)), o1, o2]) ∧ firstW ((fldR r).zip (ksR r)) = firstW (((fldR r).zip (ksR r)).drop k)) (show (fldR r).length = ((ksR r).map D.str).length by rw [List.length_map]; exact hl.1) ⟨rfl, ⟨_, _, rfl⟩, by simp⟩ ?_ ?_
  · rintro k l S' x y hx hy ⟨rfl, ⟨o1, o2, rfl⟩, he⟩
    obtain ⟨z, hz, rfl⟩ : ∃ z, (ksR r)[k]? = some z ∧ D.str z = y := by simpa using hy
    have hp : ((fldR r).zip (ksR r))[k]? = some (x, z) := by rw [List.getElem?_zip_eq_some]; exact ⟨hx, hz⟩
    have hd : ((fldR r).zip (ksR r)).drop k = (x, z) :: ((fldR r).zip (ksR r)).drop (k + 1) := by
      obtain ⟨h1, h2⟩ := List.getElem?_eq_some_iff.mp hp
      rw [List.drop_eq_getElem_cons h1, h2]
    rw [hd, firstW] at he
    unfold lb_writes_0
    simp_arith [v_gT, oEq_str]
    by_cases hw : z = "write"
    · simp_arith [hw]
      rw [if_pos hw] at he
      rw [← firstW_R, he]
    · simp_arith [hw]
      rw [if_neg hw] at he
      exact ⟨⟨_, _, rfl⟩, he⟩
  · rintro l S' ⟨rfl, ⟨o1, o2, rfl⟩, he⟩
    simp_arith [oNeg_int]
    rw [← firstW_R, he, List.drop_eq_nil_of_le (by rw [List.length_zip]; omega)]; rfl
theorem addN_le : ∀ (L M : List Nat), (L.foldl addN M).length ≤ M.length + L.length
  | [], M => by simp
  | n :: L, M => by
    rw [List.foldl_cons]
    have h := addN_le L (addN M n)
    have h2 : (addN M n).length ≤ M.length + 1 := by unfold addN; split <;> simp
    simp only [List.length_cons]; omega
theorem reads_okR (r : MRow) : Wp NoX (m_reads [r.D] S) fun v S' => v = .tup (nDs (sortN ((rdR r).foldl addN []))) ∧ Kp [] S S' := by
  refine wp_def0 rfl ?_
  unfold b_reads
  have hl := len_R r
  have e2 : ∀ S, oSl (.tup (.str (wordR r) :: fldR r)) (some 1) none S = .ok (.tup (fldR r)) S := fun S => by simp only [oSl, cut1]
  have ez : ∀ S, oZip [.tup (fldR r), .wt ((ksR r).map D.str)] S = .ok (.zip (.t (fldR r)) (.t ((ksR r).map D.str))) S := fun S => rfl
  simp_arith [D_R, e2, tixA, forms_look, look_R, Option.map_some, ez, wipeL]
  refine wp_dcLoop (fldR r).length (fun k acc S' => acc = natDic ((((fldR r).zip (ksR r)).take k).filterMap rdP |>.foldl addN []) (.bl true) ∧ S'[S.length]? = some (.dic acc) ∧ Kp [] S S') ?_ ?_ ?_ (fldR r).length 0 [] _ (by omega) ⟨rfl, get_end, Kp.new⟩
  · rintro acc S' -
    simp [itGo, Sq.at, hl.1]
  · rintro k acc S' hk ⟨rfl, hq, K⟩
    have hx : (fldR r)[k]? = some (fldR r)[k] := List.getElem?_eq_getElem hk
    have hz : (ksR r)[k]? = some (ksR r)[k]  := List.getElem?_eq_getElem (by omega)
    have hp : ((fldR r).zip (ksR r))[k]? = some ((fldR r)[k], (ksR r)[k]) := by rw [List.getElem?_zip_eq_some]; exact ⟨hx, hz⟩
    refine ⟨.tup [(fldR r)[k], .str (ksR r)[k]], ?_, ?_⟩
    · simp [itGo, Sq.at, hl.1, hx, hz]; omega
    · refine ⟨[some (.tup (.str (wordR r) :: fldR r)), none, some (fldR r)[k], some (.str (ksR r)[k])], rfl, ?_⟩
      have ht : (((fldR r).zip (ksR r)).take (k + 1)).filterMap rdP = (((fldR r).zip (ksR r)).take k).filterMap rdP ++ (rdP ((fldR r)[k], (ksR r)[k])).toList := by
        rw [take_at hp, List.filterMap_append, List.filterMap_cons]; cases rdP ((fldR r)[k], (ksR r)[k]) <;> rfl
      by_cases hr : (ksR r)[k] = "read"
      · obtain ⟨n, hn⟩ := rd_nat r _ (List.mem_of_getElem? hp) hr
        have hn' : (fldR r)[k] = nD n := hn
        have hrd : rdP ((fldR r)[k], (ksR r)[k]) = some n := by simp [rdP, hr, hn', nD]
        rw [hrd] at ht
        have hlen : ((((fldR r).zip (ksR r)).take k).filterMap rdP |>.foldl addN []).length < sizeLine := by
          refine line_big (Nat.le_trans (addN_le _ []) ?_)
          have h1 := List.length_filterMap_le rdP (((fldR r).zip (ksR r)).take k)
          have h2 : (((fldR r).zip (ksR r)).take k).length ≤ k := List.length_take_le ..
          have h3 := hl.2
          simp only [List.length_nil]; omega
        simp_arith [oEq_str, hr, hn']
        refine ⟨hq, by simpa [natDic] using hlen, .inl (n : Int), rfl, ?_⟩
        rw [natDic_set]
        refine ⟨?_, get_put hq, K.setNew (Nat.le_refl _)⟩
        rw [ht, List.foldl_append]; rfl
      · have hrd : rdP ((fldR r)[k], (ksR r)[k]) = none := by simp [rdP, hr]
        rw [hrd] at ht
        have hd : decide ((ksR r)[k] = Str.ofString "read") = false := decide_eq_false hr
        simp_arith [oEq_str, hd]
        rw [ht]
        exact ⟨by simp, hq, K⟩
  · rintro acc S' ⟨rfl, hq, K⟩
    rw [List.take_of_length_le (by rw [List.length_zip]; omega), rdP_R] at hq
    have hn : ((rdR r).foldl addN []).length ≤ 4 := Nat.le_trans (addN_le _ []) (by cases r <;> simp [rdR])
    simp_arith [bSorted_dic hq (by omega), bTuple_lst get_end]
    exact K.app
end
end GK10
set_option Elab.async false
set_option linter.all false
set_option maxRecDepth 100000
namespace GK10
open PySem L2 Ly
open PySem.Spec hiding Row
open PyProof.Rows hiding St
local macro_rules | `(tactic| simp_arith [$ls,*]) => `(tactic| simp only [Ly.line_le, Ly.atX_no, Ly.v_ok, Ly.v_bad, Ly.v_bind, Ly.k_bd, Ly.v_at, Ly.v_bin, Ly.k_bi, Ly.k_bi2, Ly.v_var, Ly.v_c, Ly.v_un, Ly.k_un, Ly.v_if, Ly.k_ife, Ly.v_and, Ly.k_and, Ly.k_and2, Ly.v_or, Ly.k_or, Ly.k_or2, Ly.v_tup, Ly.k_tup, Ly.v_lst, Ly.k_lst, Ly.v_call, Ly.k_ca, Ly.v_fn, Ly.k_fn, Ly.v_bm, Ly.k_bm, Ly.k_bm2, Ly.v_sl, Ly.k_sl, Ly.k_sl2, Ly.k_sl3, Ly.v_ixK, Ly.k_ixk, Ly.v_inK, Ly.k_ink, Ly.v_notinK, Ly.k_nink, Ly.v_getK2, Ly.k_gk2, Ly.k_gk, Ly.v_get2, Ly.k_g2, Ly.k_g22, Ly.k_g23, Ly.v_nil, Ly.v_cons, Ly.k_co, Ly.k_co2, Ly.v_no, Ly.v_some, Ly.k_so, Ly.k_cm, Ly.v_cmp, Ly.v_tru, Ly.k_tr, Ly.v_notB, Ly.k_no, Ly.v_andB, Ly.k_an, Ly.v_orB, Ly.k_orb, Ly.v_yes, Ly.v_inKB, Ly.k_inkB, Ly.v_notinKB, Ly.k_ninkB, Ly.v_set, Ly.k_st, Ly.v_expr, Ly.k_ex, Ly.v_ret, Ly.k_re, Ly.v_retN, Ly.v_pass, Ly.v_brk, Ly.v_cnt, Ly.v_seq, Ly.k_sq_nx, Ly.k_sq_rt, Ly.k_sq_bk, Ly.k_sq_ct, Ly.v_ifS, Ly.k_ifs, Ly.v_asg, Ly.k_as, Ly.k_as2, Ly.v_aug, Ly.k_au, Ly.v_for, Ly.k_fo, Ly.v_it, Ly.k_it, Ly.k_ij, Ly.v_rng1, Ly.v_rng2, Ly.v_enum, Ly.v_zip, Ly.v_ez, Ly.v_gN, Ly.v_gsN, Ly.v_gsC, Ly.k_gc, Ly.v_gT, Ly.v_gTw, Ly.v_gSb, Ly.k_gsb, Ly.k_gsb2, Ly.k_gsb3, Ly.k_en_rt, Ly.k_en_nx, Ly.k_tu_nx, Ly.k_tu_ct, Ly.k_tu_bk, Ly.k_tu_rt, Ly.v_lc, Ly.k_lc, Ly.v_augI, Ly.k_ag, Ly.k_ag2, Ly.k_ag3, Ly.k_ag4, Ly.k_ag5, Ly.v_del, Ly.k_dl, Ly.k_dl2, Ly.v_setd, Ly.v_pop2, Ly.k_d3, Ly.k_d32, Ly.k_d33, Ly.v_get1, Ly.k_g1, Ly.k_g12, Ly.v_rg1, Ly.k_rg, Ly.v_rg2, Ly.k_rg2, Ly.k_rg22, Ly.v_dicK, Ly.v_dicT, Ly.v_dc, Ly.k_dc, List.getElem?_cons_zero, List.getElem?_cons_succ, List.set_cons_zero, List.set_cons_succ, List.length_cons, List.length_nil, List.map_cons, List.map_nil, List.cons_append, List.nil_append, List.replicate, if_true, if_false, Bool.false_eq_true, Bool.not_true, Bool.not_false, Bool.true_and, Bool.false_and, decide_true, decide_false, decide_eq_true_eq, Nat.zero_add, Nat.reduceAdd, Nat.reduceLeDiff, true_and, and_true, $ls,*])
section
variable {S : Hs} {i j : Nat}
theorem ded_eq {L : List Nat} : nDs (sortN (L.foldl addN [])) = (dedI (L.map Int.ofNat)).map D.int := by
  have hm : ∀ (L M : List Nat) (x : Nat), x ∈ L.foldl addN M ↔ x ∈ M ∨ x ∈ L := by
    intro L
    induction L with
    | nil => simp
    | cons n L ih => intro M x; rw [List.foldl_cons, ih, mem_addN]; simp [or_assoc]
  have hn : ∀ (L M : List Nat), M.Nodup → (L.foldl addN M).Nodup := by
    intro L
    induction L with
    | nil => exact fun M h => h
    | cons n L ih => intro M h; rw [List.foldl_cons]; exact ih _ (nodup_addN h)
  have h1 : ((sortN (L.foldl addN [])).map Int.ofNat).Pairwise (· < ·) := by
    rw [List.pairwise_map]
    have p1 := sortN_pw (L.foldl addN [])
    have p2 : (sortN (L.foldl addN [])).Nodup := (sortN_perm _).nodup_iff.mpr (hn L [] .nil)
    exact (p1.and p2).imp fun ⟨h, k⟩ => by have : _ < _ := Nat.lt_of_le_of_ne h k; exact Int.ofNat_lt.mpr this
  have e := rising_same h1 (dedI_pw (ns := L.map Int.ofNat)) fun k => by
    rw [dedI_mem, List.mem_map, List.mem_map]
    constructor
    · rintro ⟨a, ha, rfl⟩
      rw [(sortN_perm _).mem_iff, hm] at ha
      exact ⟨a, by simpa using ha, rfl⟩
    · rintro ⟨a, ha, rfl⟩
      exact ⟨a, by rw [(sortN_perm _).mem_iff, hm]; exact .inr ha, rfl⟩
  rw [← e, List.map_map]; rfl
theorem nats_ne {L : List Nat} : oNe (.tup (nDs L)) (.tup (nDs L)) S = .ok (.bl false) S := by
  simp only [oNe, cEqD_same rfl (pd_tup (S := S) (plains_nats (L := L)) depth_nats).1 (pd_tup plains_nats depth_nats).1 (pd_tup (S := S) plains_nats depth_nats).2]; rfl
theorem lt_R (r : MRow) : ∃ lt, sortsN.lookup (wordR r) = some lt ∧ LtOk lt (ksR r) := by
  rcases look_both (wordR r) with ⟨e, _⟩ | ⟨lt, ks, e1, e2, _, h⟩
  · rw [look_R] at e; cases e
  · rw [look_R] at e2; cases e2; exact ⟨lt, e1, h⟩
theorem rr_body (r : MRow) {x : D} {o2 o3 o4 o5 : Option D} : Wp NoX (lb__law_rows_right_0 [some x, some r.D, o2, o3, o4, o5] S) fun f S' => (∃ o2 o3 o4 o5, f = .nx [some x, some r.D, o2, o3, o4, o5]) ∧ Kp [] S S' := by
  unfold lb__law_rows_right_0
  have hl := len_R r
  obtain ⟨lt, e1, hlt⟩ := lt_R r
  simp_arith []
  refine Wp.call sorts_ok ?_
  rintro _ S1 ⟨q, rfl, hq, hql, K1⟩
  have ex : oIx (.ref q) (.str (wordR r)) S1 = .ok (.str lt) S1 := oIx_dic hq key_str (by rw [tabSD_get, e1]; rfl)
  have e6 : ∀ S, bLen [.str lt] S = .ok (.int ((ksR r).length : Int)) S := fun S => by
    have : (ksR r).length ≤ sizeLine := line_le (by omega)
    simp [bLen, lenD, this, hlt.1]
  simp_arith [D_R, tixA, ex, e6, rng1 (n := ((ksR r).length : Int)) S1 (by omega) (by omega), Int.toNat_natCast, wipe1]
  refine lc_pure (fun k : Nat => D.int k) (xs := List.range (ksR r).length) (regK (fldR r) (ksR r)) (fun S' _ k hk => ?_) (by simp; omega) ?_ ?_
  · simp only [List.length_range] at hk
    by_cases hk2 : k < (ksR r).length
    · simp [itGo, hk2]
    · simp [itGo, hk2, show (ksR r).length ≤ k by omega]
  · intro k hk S' K
    have hk := List.mem_range.mp hk
    have hx : (fldR r)[k]? = some (fldR r)[k] := List.getElem?_eq_getElem (by omega)
    have hz : (ksR r)[k]? = some (ksR r)[k] := List.getElem?_eq_getElem hk
    have ek : (k : Int) + 1 = ((k + 1 : Nat) : Int) := rfl
    refine ⟨_, rfl, ?_⟩
    simp_arith [hlt.2.2 k _ hz, oEq_str]
    refine ⟨Kp.refl, ?_⟩
    have hg : regK (fldR r) (ksR r) k = if ltr (ksR r)[k] = "r" then some (fldR r)[k] else none := by simp only [regK, hx, hz]
    by_cases hr : ltr (ksR r)[k] = "r"
    · rw [if_pos hr] at hg ⊢
      rw [hg]
      simp_arith [oAdd_int, ek, oIx_tup (show (D.str (wordR r) :: fldR r)[k + 1]? = some (fldR r)[k] by simpa using hx)]
      exact Kp.refl
    · rw [if_neg hr] at hg ⊢
      exact hg
  · intro S2 h2 K2
    rw [regs_R] at h2
    have tail : ∀ (S3 : Hs) (w : Option Nat) (q3 : Nat) (o5 : Option D), Kp [] S S3 → S3[q3]? = some (.lst ((rdR r).map nD)) → w = wrR r → Wp NoX ((mIfS (mOrB (mCmp oNe (mFn m_reads (lCons (mVar 1) lNil)) (mCall bTuple (lCons (mUn oSrtSet (mVar 3)) lNil))) (mCmp oNe (mFn m_writes (lCons (mVar 1) lNil)) (mVar 4))) (mRet (mC (.bl false))) mPass) [some x, some (.tup (.str (wordR r) :: fldR r)), some (.str lt), some (.ref q3), some (optD w), o5] S3)
        fun f S' => (∃ o2 o3 o4 o5, f = .nx [some x, some (.tup (.str (wordR r) :: fldR r)), o2, o3, o4, o5]) ∧ Kp [] S S' := by
      intro S3 w q3 o5 K3 h3 hw
      subst hw
      simp_arith [← D_R]
      refine Wp.call (reads_okR r) ?_
      rintro _ S4 ⟨rfl, K4⟩
      have h4 := K4.get h3 (by simp)
      have h4' : S4[q3]? = some (.lst (((rdR r).map Int.ofNat).map D.int)) := by rw [h4, List.map_map]; rfl
      have hrl : (rdR r).length ≤ 4 := by cases r <;> simp [rdR]
      have ss : oSrtSet (.ref q3) S4 = _ := oSrtSet_lst h4' (by rw [List.length_map]; omega)
      rw [← ded_eq] at ss
      simp_arith [ss, bTuple_lst get_end, nats_ne]
      refine Wp.call (writes_okR r) ?_
      rintro _ S5 ⟨rfl, rfl⟩
      have ne : ∀ S, oNe (optD (wrR r)) (optD (wrR r)) S = .ok (.bl false) S := fun S => by cases wrR r <;> simp [optD, oNe, cEqD, cEqS]
      simp_arith [ne]
      exact ⟨⟨_, _, _, _, rfl⟩, (K3.trans K4).app⟩
    have K : Kp [] S S2 := K1.trans K2
    have hin : ∀ S, oIn (.str (wordR r)) (.tup [.str "const", .str "op", .str "select", .str "load"]) S = .ok (.bl (decide (wordR r ∈ (["const", "op", "select", "load"] : List Str)))) S := fun S => oIn_strs (xs := ["const", "op", "select", "load"]) (.inl rfl)
    have hwm : decide (wordR r ∈ (["const", "op", "select", "load"] : List Str)) = (wrR r).isSome := by cases r <;> simp [wordR, wrR, ofString_inj]
    rw [hwm] at hin
    simp_arith [oNeg_int, tixA, hin, -v_ifS]
    rw [v_ifS]
    simp_arith [tixA, hin, -v_ifS]
    cases hw : wrR r with
    | none =>
      rw [hw] at h2
      simp_arith [Option.isSome_none, -v_ifS]
      exact tail S2 none S1.length _ K (by simpa using h2) hw.symm
    | some d =>
      rw [hw] at h2
      have h2' : S2[S1.length]? = some (.lst (nD d :: (rdR r).map nD)) := by simpa using h2
      have i0 : oIx (.ref S1.length) (.int 0) S2 = .ok (nD d) S2 := oIx_lst h2' (by decide) (by simp <;> omega) rfl
      have sl : oSl (.ref S1.length) (some 1) none S2 = .ok (.ref S2.length) (S2 ++ [.lst ((rdR r).map nD)]) := by rw [oSl_lst h2', cut1]
      simp_arith [Option.isSome_some, i0, sl, -v_ifS]
      exact tail _ (some d) S2.length _ K.app get_end hw.symm
theorem rows_right_ok {regs : D} {rows : List MRow} : Wp NoX (m__law_rows_right [.tup [regs, .tup (rows.map MRow.D)]] S) fun v S' => v = .bl true ∧ Kp [] S S' := by
  refine wp_def0 rfl ?_
  unfold b__law_rows_right
  simp_arith [tix1, oIt]
  refine wp_tupM (f := MRow.D) (fun pre l S' => (∃ o1 o2 o3 o4 o5 : Option D, l = [some (.tup [regs, .tup (rows.map MRow.D)]), o1, o2, o3, o4, o5]) ∧ Kp [] S S') ⟨⟨_, _, _, _, _, rfl⟩, Kp.refl⟩ ?_ ?_
  · rintro pre r post l S' e ⟨⟨o1, o2, o3, o4, o5, rfl⟩, K⟩
    simp_arith []
    refine (rr_body r).mono (fun _ _ _ _ h => h) ?_
    rintro f S2 ⟨⟨p2, p3, p4, p5, rfl⟩, k⟩
    exact ⟨⟨_, _, _, _, _, rfl⟩, K.trans k⟩
  · rintro l S' ⟨⟨o1, o2, o3, o4, o5, rfl⟩, K⟩
    simp_arith []
    exact K
theorem ixd {q : Nat} {ds : List D} {c : Nat} {n : Nat} (h : S[q]? = some (.lst ds)) (hc : (c : Int) < n) (hn : ds.length = n) : ∃ d, d ∈ ds ∧ oIx (.ref q) (nD c) S = .ok d S := by
  have hc2 : c < ds.length := by omega
  exact ⟨ds[c], List.getElem_mem hc2, oIx_lst h (Int.natCast_nonneg c) (by omega) (by rw [Int.toNat_natCast]; exact List.getElem?_eq_getElem hc2)⟩
theorem place_ok (d : DrwS S i j) : Wp NoX (m__law_place [.ref i] S) (DwS i j S fun v => ∃ b k : Nat, v = .tup [nD b, nD k] ∧ b ≤ 500000 ∧ mskB (nD k) = true) := by
  refine wp_def0 rfl ?_
  unfold b__law_place
  have hi := d.lt
  have hj := d.ltj
  simp_arith []
  refine nxS d.new (by decide) fun c S1 hc d1 k1 => ?_
  obtain ⟨b, hb, e1⟩ := ixd (k1.get (i := S.length) get_end (by simp; omega)) hc rfl
  have hi1 := d1.lt
  have hj1 := d1.ltj
  simp_arith [e1]
  refine nxS d1.new (by decide) fun c2 S2 hc2 d2 k2 => ?_
  obtain ⟨k, hk, e2⟩ := ixd (k2.get (i := S1.length) get_end (by simp; omega)) hc2 rfl
  simp_arith [e2]
  refine ⟨?_, d2, Kp.new.trans (k1.trans (Kp.new.trans k2))⟩
  simp only [List.mem_cons, List.not_mem_nil, or_false] at hb hk
  have hb' : ∃ n : Nat, b = nD n ∧ n ≤ 500000 := by
    rcases hb with rfl | rfl | rfl | rfl | rfl
    · exact ⟨0, rfl, by decide⟩
    · exact ⟨1, rfl, by decide⟩
    · exact ⟨64, rfl, by decide⟩
    · exact ⟨4096, rfl, by decide⟩
    · exact ⟨500000, rfl, by decide⟩
  have hk' : ∃ n : Nat, k = nD n ∧ mskB (nD n) = true := by
    rcases hk with rfl | rfl | rfl | rfl | rfl | rfl
    · exact ⟨0, rfl, by decide +kernel⟩
    · exact ⟨1, rfl, by decide +kernel⟩
    · exact ⟨3, rfl, by decide +kernel⟩
    · exact ⟨15, rfl, by decide +kernel⟩
    · exact ⟨255, rfl, by decide +kernel⟩
    · exact ⟨4095, rfl, by decide +kernel⟩
  obtain ⟨n, rfl, hn⟩ := hb'
  obtain ⟨m, rfl, hm⟩ := hk'
  exact ⟨n, m, rfl, hn, hm⟩
theorem reg_ok (d : DrwS S i j) : Wp NoX (m__law_reg [.ref i] S) (DwS i j S fun v => ∃ a : Nat, v = nD a ∧ a < 16) := by
  refine wp_def0 rfl ?_
  unfold b__law_reg
  simp_arith []
  refine nxS d (by decide) fun c S1 hc d1 k1 => ?_
  simp_arith []
  exact ⟨⟨c, rfl, by omega⟩, d1, k1⟩
def rowOk (many : Nat) : MRow → Prop
  | .const d n => d < 16 ∧ n ≤ 4294967295
  | .op s d a b => s ∈ signsL ∧ d < 16 ∧ a < 16 ∧ b < 16
  | .select d c a b => d < 16 ∧ c < 16 ∧ a < 16 ∧ b < 16
  | .load d a base mask => d < 16 ∧ a < 16 ∧ base ≤ 500000 ∧ mskB (nD mask) = true
  | .store a base mask v => a < 16 ∧ base ≤ 500000 ∧ mskB (nD mask) = true ∧ v < 16
  | .out a => a < 16
  | .jump t => t < many
  | .branch a t => a < 16 ∧ t < many
  | .stop a => a < 16
theorem nm15 {a : Nat} (h : a < 16) : nmB 0 15 (nD a) = true := by simp [nmB, nD]; omega
theorem rowOk_B {many : Nat} {r : MRow} (h : rowOk many r) : rowB many r.D = true := by
  rw [D_R, rowB, look_R]
  simp only [(len_R r).1, decide_true, Bool.true_and]
  cases r with
  | const d n => obtain ⟨h1, h2⟩ := h; simp [partsB, fldR, ksR, partB, ofString_inj, nm15 h1]; simp [nmB, nD]; omega
  | op s d a b => obtain ⟨h1, h2, h3, h4⟩ := h; simp [partsB, fldR, ksR, partB, ofString_inj, nm15 h2, nm15 h3, nm15 h4, amD, h1]
  | select d c a b => obtain ⟨h1, h2, h3, h4⟩ := h; simp [partsB, fldR, ksR, partB, ofString_inj, nm15 h1, nm15 h2, nm15 h3, nm15 h4]
  | load d a base mask => obtain ⟨h1, h2, h3, h4⟩ := h; simp [partsB, fldR, ksR, partB, ofString_inj, nm15 h1, nm15 h2, h4]; simp [nmB, nD]; omega
  | store a base mask v => obtain ⟨h1, h2, h3, h4⟩ := h; simp [partsB, fldR, ksR, partB, ofString_inj, nm15 h1, nm15 h4, h3]; simp [nmB, nD]; omega
  | out a => have h1 : a < 16 := h; simp [partsB, fldR, ksR, partB, ofString_inj, nm15 h1]
  | jump t => have h1 : t < many := h; simp [partsB, fldR, ksR, partB, ofString_inj]; simp [nmB, nD]; omega
  | branch a t => obtain ⟨h1, h2⟩ := h; simp [partsB, fldR, ksR, partB, ofString_inj, nm15 h1]; simp [nmB, nD]; omega
  | stop a => have h1 : a < 16 := h; simp [partsB, fldR, ksR, partB, ofString_inj, nm15 h1]
theorem words_s : ∀ s ∈ (["const", "op", "select", "load", "store", "out", "jump", "branch", "stop"] : List Str) ++ signsL ++ (["public", "secret"] : List Str), PyData.strOk s = true := by decide +kernel
theorem row_dt {many : Nat} {r : MRow} (h : rowOk many r) : Dt 24 1 r.D := by
  rw [D_R]
  refine .tup (by have := len_R r; simp; omega) fun x hx => ?_
  rcases List.mem_cons.mp hx with rfl | hx
  · refine .str (words_s _ ?_)
    cases r <;> simp [wordR]
  · cases r with
    | op s d a b =>
      simp only [fldR, List.mem_cons, List.not_mem_nil, or_false] at hx
      rcases hx with rfl | rfl | rfl | rfl
      · exact .str (words_s _ (List.mem_append_left _ (List.mem_append_right _ h.1)))
      · exact .int _
      · exact .int _
      · exact .int _
    | _ =>
      simp only [fldR, List.mem_cons, List.not_mem_nil, or_false] at hx
      first
        | (rcases hx with rfl | rfl | rfl | rfl <;> exact .int _)
        | (rcases hx with rfl | rfl <;> exact .int _)
        | (subst hx; exact .int _)
theorem row_draw (d : DrwS S i j) {many : Nat} (hm : 0 < many) : Wp NoX (m__law_row [.ref i, nD many] S) (DwS i j S fun v => ∃ r : MRow, v = r.D ∧ rowOk many r) := by
  refine wp_def0 rfl ?_
  unfold b__law_row
  simp_arith []
  refine nxS d (by decide) fun p S1 hp d1 k1 => ?_
  simp_arith []
  refine Wp.call (place_ok d1) ?_
  rintro _ S2 ⟨⟨b, k, rfl, hb, hk⟩, d2, k2⟩
  simp_arith [v_gT]
  refine Wp.call (reg_ok d2) ?_
  rintro _ S3 ⟨⟨o, rfl, ho⟩, d3, k3⟩
  simp_arith []
  refine Wp.call (reg_ok d3) ?_
  rintro _ S4 ⟨⟨w, rfl, hw⟩, d4, k4⟩
  have K4 := k1.trans (k2.trans (k3.trans k4))
  have hi4 := d4.lt
  have hj4 := d4.ltj
  have c0 : p = 0 ∨ p = 1 ∨ p = 2 ∨ p = 3 ∨ p = 4 ∨ 5 ≤ p := by omega
  rcases c0 with rfl | rfl | rfl | rfl | rfl | h5
  · simp_arith [oEq_int, Int.natCast_zero, pow32, oSub_int]
    refine nxS d4.new (by decide) fun c S5 hc d5 k5 => ?_
    obtain ⟨x, hx, e1⟩ := ixd (k5.get (i := S4.length) get_end (by simp; omega)) hc rfl
    simp_arith [e1]
    refine ⟨?_, d5, K4.trans (Kp.new.trans k5)⟩
    simp only [List.mem_cons, List.not_mem_nil, or_false] at hx
    rcases hx with rfl | rfl | rfl
    · exact ⟨.const o 0, rfl, ho, by decide⟩
    · exact ⟨.const o 5, rfl, ho, by decide⟩
    · exact ⟨.const o 4294967295, rfl, ho, by decide⟩
  · simp_arith [oEq_int, show ¬ (((1 : Nat) : Int) = 0) by decide, show (((1 : Nat) : Int) = 1) from rfl]
    refine nxS d4.new (by decide) fun c S5 hc d5 k5 => ?_
    obtain ⟨x, hx, e1⟩ := ixd (ds := signsL.map D.str) (k5.get (i := S4.length) get_end (by simp; omega)) hc rfl
    obtain ⟨s, hs, rfl⟩ := List.mem_map.mp hx
    simp_arith [e1]
    refine Wp.call (reg_ok d5) ?_
    rintro _ S6 ⟨⟨a, rfl, ha⟩, d6, k6⟩
    simp_arith []
    exact ⟨⟨.op s o w a, rfl, hs, ho, hw, ha⟩, d6, K4.trans (Kp.new.trans (k5.trans k6))⟩
  · simp_arith [oEq_int, show ¬ (((2 : Nat) : Int) = 0) by decide, show ¬ (((2 : Nat) : Int) = 1) by decide, show (((2 : Nat) : Int) = 2) from rfl]
    refine Wp.call (reg_ok d4) ?_
    rintro _ S5 ⟨⟨a, rfl, ha⟩, d5, k5⟩
    simp_arith []
    refine Wp.call (reg_ok d5) ?_
    rintro _ S6 ⟨⟨c, rfl, hc⟩, d6, k6⟩
    simp_arith []
    exact ⟨⟨.select o w a c, rfl, ho, hw, ha, hc⟩, d6, K4.trans (k5.trans k6)⟩
  · simp_arith [oEq_int, show ¬ (((3 : Nat) : Int) = 0) by decide, show ¬ (((3 : Nat) : Int) = 1) by decide, show ¬ (((3 : Nat) : Int) = 2) by decide, show (((3 : Nat) : Int) = 3) from rfl]
    exact ⟨⟨.load o w b k, rfl, ho, hw, hb, hk⟩, d4, K4⟩
  · simp_arith [oEq_int, show ¬ (((4 : Nat) : Int) = 0) by decide, show ¬ (((4 : Nat) : Int) = 1) by decide, show ¬ (((4 : Nat) : Int) = 2) by decide, show ¬ (((4 : Nat) : Int) = 3) by decide, show (((4 : Nat) : Int) = 4) from rfl]
    exact ⟨⟨.store o b k w, rfl, ho, hb, hk, hw⟩, d4, K4⟩
  · have e5 : (p : Int) - 5 = ((p - 5 : Nat) : Int) := by omega
    simp_arith [oEq_int, show ¬ ((p : Int) = 0) by omega, show ¬ ((p : Int) = 1) by omega, show ¬ ((p : Int) = 2) by omega, show ¬ ((p : Int) = 3) by omega, show ¬ ((p : Int) = 4) by omega]
    refine nxS d4 (by omega) fun t S5 ht d5 k5 => ?_
    simp_arith []
    refine nxS d5 (by omega) fun u S6 hu d6 k6 => ?_
    simp_arith [oSub_int, e5]
    obtain ⟨x, hx, e1⟩ := ixd (S := S6 ++ [.lst [.tup [.str "out", nD o], .tup [.str "jump", nD t], .tup [.str "branch", nD o, nD u], .tup [.str "stop", nD o]]]) (c := p - 5) (n := 4) get_end (by omega) rfl
    simp_arith [e1]
    refine ⟨?_, d6.new, (K4.trans (k5.trans k6)).app⟩
    simp only [List.mem_cons, List.not_mem_nil, or_false] at hx
    rcases hx with rfl | rfl | rfl | rfl
    · exact ⟨.out o, rfl, ho⟩
    · exact ⟨.jump t, rfl, show t < many by omega⟩
    · exact ⟨.branch o u, rfl, ho, show u < many by omega⟩
    · exact ⟨.stop o, rfl, ho⟩
def regsK : Nat → List Rg → Prop
  | _, [] => True
  | b, r :: rs => r.base = b ∧ 1 ≤ r.size ∧ r.size ≤ 4096 ∧ (r.label = "public" ∨ r.label = "secret") ∧ regsK (b + r.size) rs
theorem regsK_app {rs : List Rg} {r : Rg} : ∀ {b : Nat}, regsK b rs → r.base = b + sizes rs → 1 ≤ r.size → r.size ≤ 4096 → (r.label = "public" ∨ r.label = "secret") → regsK b (rs ++ [r]) := by
  induction rs with
  | nil => intro b _ h1 h2 h3 h4; exact ⟨by simpa [sizes] using h1, h2, h3, h4, trivial⟩
  | cons x rs ih =>
    intro b h h1 h2 h3 h4
    obtain ⟨e1, e2, e3, e4, e5⟩ := h
    refine ⟨e1, e2, e3, e4, ih e5 ?_ h2 h3 h4⟩
    simp only [sizes, List.map_cons, List.sum_cons] at h1 ⊢; omega
theorem regsK_B {rs : List Rg} : ∀ {b : Nat}, regsK b rs → b + sizes rs ≤ 500000 → regsB b (rs.map Rg.D) = true := by
  induction rs with
  | nil => intro b _ _; rfl
  | cons x rs ih =>
    intro b h hs
    obtain ⟨e1, e2, e3, e4, e5⟩ := h
    have hsz : sizes (x :: rs) = x.size + sizes rs := by simp [sizes]
    rw [hsz] at hs
    have e6 := ih e5 (by omega)
    have l1 : labB (.str x.label) = true := by simp [labB, amD, e4]
    have h1 : (nmB (b : Int) (b : Int) (nD x.base) && decide ((b : Int) ≤ 500000)) = true := by simp [nmB, nD, e1]; omega
    have h2 : nmB 1 4096 (nD x.size) = true := by simp [nmB, nD]; omega
    have : regB (b : Int) x.D = some ((b + x.size : Nat) : Int) := by
      simp only [Rg.D, regB, h1, h2, l1, Bool.and_self, if_true]; rfl
    rw [List.map_cons, regsB, this]
    exact e6
def CodeK (v : D) : Prop := ∃ (rs : List Rg) (rows : List MRow), v = .tup [.tup (rs.map Rg.D), .tup (rows.map MRow.D)] ∧ codeB v = true ∧ Dt 24 3 v
theorem code_draw (d : DrwS S i j) : Wp NoX (m__law_code [.ref i] S) (DwS i j S CodeK) := by
  refine wp_def0 rfl ?_
  unfold b__law_code
  have hi := d.lt
  have hj := d.ltj
  simp_arith []
  refine nxS (d.new) (by decide) fun m S1 hm d1 k1 => ?_
  have hq1 := k1.get (i := S.length) get_end (by simp; omega)
  have K1 : Kp [i] S S1 := Kp.new.trans k1
  simp_arith [rng1 (n := (m : Int)) S1 (by omega) (by omega), Int.toNat_natCast]
  refine wp_rng (fun k l S' => ∃ (rs : List Rg) (o3 o4 : Option D), l = [some (.ref i), some (.ref S.length), some (nD (sizes rs)), o3, o4, none, none] ∧ S'[S.length]? = some (.lst (rs.map Rg.D)) ∧ regsK 0 rs ∧ rs.length = k ∧ DrwS S' i j ∧ Kp [i] S S')
    ⟨[], _, _, rfl, hq1, trivial, rfl, d1, K1⟩ ?_ ?_
  · rintro k l S' hk ⟨rs, o3, o4, rfl, hq, hr, hl, d', K⟩
    unfold lb__law_code_0
    have hi' := d'.lt
    have hj' := d'.ltj
    simp_arith []
    refine nxS d'.new (by decide) fun c S2 hc d2 k2 => ?_
    obtain ⟨x, hx, e1⟩ := ixd (k2.get (i := S'.length) get_end (by simp; omega)) hc rfl
    have hq2 := k2.get (i := S.length) (o := .lst (rs.map Rg.D)) (by rw [List.getElem?_append_left (Real.lt hq)]; exact hq) (by simp; omega)
    have hx' : ∃ n : Nat, x = nD n ∧ 1 ≤ n ∧ n ≤ 4096 := by
      simp only [List.mem_cons, List.not_mem_nil, or_false] at hx
      rcases hx with rfl | rfl | rfl | rfl | rfl
      · exact ⟨1, rfl, by decide⟩
      · exact ⟨2, rfl, by decide⟩
      · exact ⟨5, rfl, by decide⟩
      · exact ⟨64, rfl, by decide⟩
      · exact ⟨4096, rfl, by decide⟩
    obtain ⟨n, rfl, hn1, hn2⟩ := hx'
    have hi2 := d2.lt
    have hj2 := d2.ltj
    simp_arith [e1, hasTy_lst hq2]
    refine nxS d2.new (by decide) fun c2 S3 hc2 d3 k3 => ?_
    obtain ⟨y, hy, e2⟩ := ixd (k3.get (i := S2.length) get_end (by simp; omega)) hc2 rfl
    have hq3 := k3.get (i := S.length) (o := .lst (rs.map Rg.D)) (by rw [List.getElem?_append_left (Real.lt hq2)]; exact hq2) (by simp; omega)
    have hy' : ∃ s : Str, y = .str s ∧ (s = "public" ∨ s = "secret") := by
      simp only [List.mem_cons, List.not_mem_nil, or_false] at hy
      rcases hy with rfl | rfl
      · exact ⟨_, rfl, .inl rfl⟩
      · exact ⟨_, rfl, .inr rfl⟩
    obtain ⟨s, rfl, hs⟩ := hy'
    have hbig : (rs.map Rg.D).length < sizeLine := by rw [List.length_map]; exact line_big (by omega)
    have es : ((sizes rs : Nat) : Int) + (n : Int) = ((sizes (rs ++ [⟨sizes rs, n, s⟩]) : Nat) : Int) := by simp [sizes]
    simp_arith [e2, oAppend_lst hq3 hbig, oAdd_int, es]
    refine ⟨rs ++ [⟨sizes rs, n, s⟩], _, _, rfl, by rw [get_put hq3]; simp [Rg.D], regsK_app hr (by simp) hn1 hn2 hs, by simp [hl], d3.kp (A := [S.length]) (Kp.set (by simp)) (by simp; omega) (by simp; omega), ?_⟩
    exact (K.trans (Kp.new.trans (k2.trans (Kp.new.trans k3)))).setNew (Nat.le_refl _)
  · rintro l S' ⟨rs, o3, o4, rfl, hq, hr, hl, d', K⟩
    have hi' := d'.lt
    have hj' := d'.ltj
    simp_arith []
    refine nxS d' (by decide) fun a S2 ha d2 k2 => ?_
    have ea : (1 : Int) + (a : Int) = ((1 + a : Nat) : Int) := by omega
    have eb : ((1 + a : Nat) : Int) - 1 = (a : Int) := by omega
    have hi2 := d2.lt
    have hj2 := d2.ltj
    have hq2 := k2.get (i := S.length) hq (by simp; omega)
    simp_arith [oAdd_int, ea, oSub_int, eb, rng1 (n := (a : Int)) S2 (by omega) (by omega), Int.toNat_natCast, wipe1]
    have hrw : sizes rs ≤ 4096 * rs.length := by
      clear hq hq2 hl d' K d2 k2
      have : ∀ (rs : List Rg) (b : Nat), regsK b rs → sizes rs ≤ 4096 * rs.length := by
        intro rs
        induction rs with
        | nil => intro b _; simp [sizes]
        | cons x rs ih => intro b h; have := ih _ h.2.2.2.2; simp only [sizes, List.map_cons, List.sum_cons, List.length_cons] at this ⊢; have := h.2.2.1; omega
      exact this rs 0 hr
    refine lc_drawS (i := i) (j := j) MRow.D (fun _ r => rowOk (1 + a) r) d2 (by omega) ?_ ?_
    · intro k S3 hk d3 K3
      simp_arith []
      refine (row_draw d3 (many := 1 + a) (by omega)).mono (fun _ _ _ _ h => h) ?_
      rintro _ S4 ⟨⟨r, rfl, hr⟩, d4, k4⟩
      exact ⟨r, rfl, hr, d4, k4⟩
    · intro rows S3 hrl hrow hq3 d3 K3
      have hi3 := d3.lt
      have hj3 := d3.ltj
      have hb2 : S.length < S2.length := Real.lt hq2
      have hqr : S3[S.length]? = some (.lst (rs.map Rg.D)) := K3.get hq2 (by simp; omega)
      simp_arith [hasTy_lst hq3]
      refine nxS d3 (by omega) fun t S4 ht d4 k4 => ?_
      simp_arith []
      refine Wp.call (reg_ok d4) ?_
      rintro _ S5 ⟨⟨o, rfl, ho⟩, d5, k5⟩
      simp_arith []
      refine nxS d5.new (by decide) fun c S6 hc d6 k6 => ?_
      have hi5 := d5.lt
      have hj5 := d5.ltj
      obtain ⟨y, hy, e2⟩ := ixd (k6.get (i := S5.length) get_end (by simp; omega)) hc rfl
      have hq5 := k5.get (k4.get hq3 (by simp; omega)) (by simp; omega)
      have hq6 := k6.get (i := S2.length) (o := .lst (rows.map MRow.D)) (by rw [List.getElem?_append_left (Real.lt hq5)]; exact hq5) (by simp; omega)
      have hqr5 := k5.get (k4.get hqr (by simp; omega)) (by simp; omega)
      have hqr6 := k6.get (i := S.length) (o := .lst (rs.map Rg.D)) (by rw [List.getElem?_append_left (Real.lt hqr5)]; exact hqr5) (by simp; omega)
      have hy' : ∃ r : MRow, y = r.D ∧ rowOk (1 + a) r ∧ endB r.D = true := by
        simp only [List.mem_cons, List.not_mem_nil, or_false] at hy
        rcases hy with rfl | rfl
        · exact ⟨.jump t, rfl, show t < 1 + a by omega, by simp [MRow.D, endB, amD]⟩
        · exact ⟨.stop o, rfl, ho, by simp [MRow.D, endB, amD]⟩
      obtain ⟨r, rfl, hr1, hr2⟩ := hy'
      have hbig : (rows.map MRow.D).length < sizeLine := by rw [List.length_map]; exact line_big (by omega)
      have hqr7 : (S6.set S2.length (.lst (rows.map MRow.D ++ [r.D])))[S.length]? = some (.lst (rs.map Rg.D)) := by rw [List.getElem?_set_ne (by omega)]; exact hqr6
      simp_arith [e2, oAppend_lst hq6 hbig, bTuple_lst hqr7, bTuple_lst (get_put hq6)]
      have hall : ∀ x ∈ rows ++ [r], rowOk (1 + a) x := by
        intro x hx
        rcases List.mem_append.mp hx with hx | hx
        · obtain ⟨k, hk⟩ := List.mem_iff_getElem?.mp hx
          exact hrow k x hk
        · rw [List.mem_singleton.mp hx]; exact hr1
      have hlen : (rows ++ [r]).length = 1 + a := by simp [hrl]; omega
      have hem : rows.map MRow.D ++ [r.D] = (rows ++ [r]).map MRow.D := by simp
      refine ⟨⟨rs, rows ++ [r], by rw [hem], ?_, ?_⟩, d6.kp (A := [S2.length]) (Kp.set (by simp)) (by simp; omega) (by simp; omega), ?_⟩
      · rw [code_full]
        have h1 : rgsB (.tup (rs.map Rg.D)) = true := by
          have := regsK_B (b := 0) hr (by omega)
          simp only [rgsB, List.length_map, Bool.and_eq_true, decide_eq_true_eq]
          exact ⟨by omega, this⟩
        have h2 : (rows.map MRow.D ++ [r.D]).all (rowB (rows.map MRow.D ++ [r.D]).length) = true := by
          rw [hem, List.length_map, hlen, List.all_map, List.all_eq_true]
          exact fun x hx => rowOk_B (hall x hx)
        rw [h1, h2, hr2]; rfl
      · refine .tup (by simp) fun x hx => ?_
        simp only [List.mem_cons, List.not_mem_nil, or_false] at hx
        rcases hx with rfl | rfl
        · refine .tup (by simp; omega) fun x hx => ?_
          obtain ⟨g, hg, rfl⟩ := List.mem_map.mp hx
          have hlab : ∀ (rs : List Rg) (b : Nat), regsK b rs → ∀ g ∈ rs, g.label = "public" ∨ g.label = "secret" := by
            intro rs
            induction rs with
            | nil => intro b _ g hg; cases hg
            | cons x rs ih =>
              intro b h g hg
              rcases List.mem_cons.mp hg with rfl | hg
              · exact h.2.2.2.1
              · exact ih _ h.2.2.2.2 g hg
          refine .tup (by simp) fun x hx => ?_
          simp only [List.mem_cons, List.not_mem_nil, or_false] at hx
          rcases hx with rfl | rfl | rfl
          · exact .int _
          · exact .int _
          · refine .str ?_
            rcases hlab rs 0 hr g hg with e | e <;> rw [e] <;> exact words_s _ (by simp)
        · refine .tup (by simp; omega) fun x hx => ?_
          rw [hem] at hx
          obtain ⟨g, hg, rfl⟩ := List.mem_map.mp hx
          exact row_dt (hall g hg)
      · have := ((K.trans k2).trans K3).trans (k4.trans (k5.trans (Kp.new.trans k6)))
        exact this.setNew (by omega)
def th1 : List D := [.non, .bl true, .int (-1), .int 0, .int 1, .int 15, .int 16, .int 20, .int 4095, .int 4096, .int 4097, .int 4294967296, .int 500001, .str "+", .str "public", .str "stop", .str "mod", .str "", .tup [], .tup [.str "stop", .int 0]]
def th2 : List D := [.int 2, .int 7, .int 511, .bl false, .str "secret", .tup [.str "out"], .tup [.str "jump", .int 0], .tup [.str "branch", .int 0, .int 0], .str "copy", .str "**", .tup [.int 0, .int 1, .str "public"], .int 100000]
theorem things_dt : ∀ x ∈ th1 ++ th2, Dt 4 1 x := by
  have h : (th1 ++ th2).all (dtB 4 1) = true := by decide +kernel
  intro x hx
  exact of_dtB (List.all_eq_true.mp h x hx)
theorem cut_neg {ds : List D} {r : D} : Ly.cutD (ds ++ [r]) none (some (-1)) = ds := by
  have e : (-1 + ((ds ++ [r]).length : Int)).toNat = ds.length := by simp; omega
  simp only [Ly.cutD, HT.sIx, show ((-1 : Int) < 0) = True from by simp, if_true, e, Nat.sub_zero, List.drop_zero]
  simp
theorem cut_neg2 {ds : List D} {r : D} : Ly.cutD (ds ++ [r]) (some (-1)) none = [r] := by
  have e : (-1 + ((ds ++ [r]).length : Int)).toNat = ds.length := by simp; omega
  simp only [Ly.cutD, HT.sIx, show ((-1 : Int) < 0) = True from by simp, if_true, e]
  simp
noncomputable def ml1 : M := (mLst (lCons (mC .non) (lCons (mC (.bl true)) (lCons (mUn oNeg (mC (.int 1))) (lCons (mC (.int 0)) (lCons (mC (.int 1)) (lCons (mC (.int 15)) (lCons (mC (.int 16)) (lCons (mC (.int 20)) (lCons (mC (.int 4095)) (lCons (mC (.int 4096)) (lCons (mC (.int 4097)) (lCons (mBin oPow (mC (.int 2)) (mC (.int 32))) (lCons (mC (.int 500001)) (lCons (mC (.str "+")) (lCons (mC (.str "public")) (lCons (mC (.str "stop")) (lCons (mC (.str "mod")) (lCons (mC (.str "")) (lCons (mTup lNil) (lCons (mTup (lCons (mC (.str "stop")) (lCons (mC (.int 0)) lNil))) lNil)))))))))))))))))))))
noncomputable def ml2 : M := (mLst (lCons (mC (.int 2)) (lCons (mC (.int 7)) (lCons (mC (.int 511)) (lCons (mC (.bl false)) (lCons (mC (.str "secret")) (lCons (mTup (lCons (mC (.str "out")) lNil)) (lCons (mTup (lCons (mC (.str "jump")) (lCons (mC (.int 0)) lNil))) (lCons (mTup (lCons (mC (.str "branch")) (lCons (mC (.int 0)) (lCons (mC (.int 0)) lNil)))) (lCons (mC (.str "copy")) (lCons (mC (.str "**")) (lCons (mTup (lCons (mC (.int 0)) (lCons (mC (.int 1)) (lCons (mC (.str "public")) lNil)))) (lCons (mC (.int 100000)) lNil)))))))))))))
noncomputable def stopB : MS := mSeq (mSet 3 ml1) (mSeq (mSet 3 (mBin oAdd (mVar 3) ml2)) (mRet (mBin oIx (mVar 3) (mFn S_pick (lCons (mVar 0) (lCons (mCall bLen (lCons (mVar 3) lNil)) lNil))))))
theorem v_ml1 {X : XP} {l : Ls} {Q : D → Hs → Prop} (h : Q (.ref S.length) (S ++ [.lst th1])) : Wp X (ml1 l S) Q := by
  unfold ml1
  simp_arith [oNeg_int, pow32]
  exact h
theorem v_ml2 {X : XP} {l : Ls} {Q : D → Hs → Prop} (h : Q (.ref S.length) (S ++ [.lst th2])) : Wp X (ml2 l S) Q := by
  unfold ml2
  simp_arith []
  exact h
theorem spoilt_ok {m : Nat} (hm : m ≤ 500) (hm4 : 4 ≤ m) : ∀ (fuel k n : Nat) (d : D) (S : Hs), k < fuel → n ≤ 15 → Dt m n d → DrwS S i j →
    Wp NoX (m__law_spoilt fuel [.ref i, d, nD k] S) (DwS i j S fun v => Dt (m + 1) (n + 2) v)
  | 0, k, n, d, S, hk, _, _, _ => absurd hk (Nat.not_lt_zero _)
  | fuel + 1, k, n, d, S, hk, hn, hd, h => by
    rw [m__law_spoilt_succ]
    refine wp_def0 rfl ?_
    unfold b__law_spoilt
    rw [v_seq]
    have hi := h.lt
    have hj := h.ltj
    have stop : ∀ (Q : F → Hs → Prop), (∀ v S', Dt (m + 1) (n + 2) v → DrwS S' i j → Kp [i] S S' → Q (.rt v) S') → Wp NoX (stopB [some (.ref i), some d, some (nD k), none, none] S) Q := by
      intro Q hQ
      unfold stopB
      rw [v_seq, v_set]
      refine v_ml1 ?_
      rw [k_st, k_sq_nx, v_seq, v_set]
      simp_arith [-v_seq]
      refine v_ml2 ?_
      have e1 : (S ++ [O.lst th1] ++ [O.lst th2])[S.length]? = some (.lst th1) := by rw [List.getElem?_append_left (by simp)]; exact get_end
      have e2 : (S ++ [O.lst th1] ++ [O.lst th2])[(S ++ [O.lst th1]).length]? = some (.lst th2) := get_end
      have e3 := oAdd_lst e1 e2 (line_le (by decide))
      have e4 : bLen [.ref (S ++ [O.lst th1] ++ [O.lst th2]).length] (S ++ [O.lst th1] ++ [O.lst th2] ++ [O.lst (th1 ++ th2)]) = .ok (.int 32) (S ++ [O.lst th1] ++ [O.lst th2] ++ [O.lst (th1 ++ th2)]) := by
        rw [bLen_lst get_end]; rfl
      rw [k_bi2, e3, v_ok]
      simp_arith [e4]
      refine nxS ((h.new.new).new) (by decide) fun c S2 hc h2 k2 => ?_
      have hg := k2.get (i := (S ++ [O.lst th1] ++ [O.lst th2]).length) (o := .lst (th1 ++ th2)) get_end (by simp; omega)
      obtain ⟨x, hx, e5⟩ := ixd (n := 32) hg hc rfl
      simp_arith [e5]
      exact hQ x S2 ((things_dt x hx).up (by omega) (by omega)) h2 (((Kp.new.trans Kp.new).trans Kp.new).trans k2)
    simp_arith [it hd, -v_seq, -v_ret]
    cases ht : isT d with
    | false =>
      simp_arith [tb, -v_seq, -v_ret]
      refine stop _ fun v S' hv d' k' => ?_
      simp_arith [-v_seq]
      exact ⟨hv, d', k'⟩
    | true =>
      obtain ⟨ds, rfl⟩ : ∃ ds, d = .tup ds := by cases d <;> simp [isT] at ht; exact ⟨_, rfl⟩
      obtain ⟨n', rfl⟩ : ∃ n', n = n' + 1 := by cases hd; exact ⟨_, rfl⟩
      have hlen : ds.length ≤ m := by cases hd with | tup hl _ => exact hl
      have hin : ∀ x ∈ ds, Dt m n' x := by cases hd with | tup _ h => exact h
      simp_arith [tb, eq_tnil hd (by omega), oLe_int, -v_seq, -v_ret]
      rcases List.eq_nil_or_concat ds with rfl | ⟨body, r, rfl⟩
      · simp_arith [List.isEmpty_nil, -v_seq, -v_ret]
        refine stop _ fun v S' hv d' k' => ?_
        simp_arith [-v_seq]
        exact ⟨hv, d', k'⟩
      · rw [List.concat_eq_append] at *
        simp_arith [show (body ++ [r]).isEmpty = false by simp, oLe_int, -v_seq, -v_ret]
        by_cases hk0 : (k : Int) ≤ 0
        · simp_arith [hk0, -v_seq, -v_ret]
          refine stop _ fun v S' hv d' k' => ?_
          simp_arith [-v_seq]
          exact ⟨hv, d', k'⟩
        · have tk : ∀ q, ∀ x ∈ (body ++ [r]).take q, Dt (m + 1) (n' + 2) x := fun q x hx => (hin x (List.mem_of_mem_take hx)).up (Nat.le_succ _) (by omega)
          have dp : ∀ q, ∀ x ∈ (body ++ [r]).drop q, Dt (m + 1) (n' + 2) x := fun q x hx => (hin x (List.mem_of_mem_drop hx)).up (Nat.le_succ _) (by omega)
          have ea : (((body ++ [r]).length : Nat) : Int) + 1 = (((body ++ [r]).length + 1 : Nat) : Int) := rfl
          simp_arith [hk0, bLen_tup, oAdd_int, ea]
          refine nxS h (by omega) fun at_ S2 ha h2 k2 => ?_
          have hi2 := h2.lt
          have hj2 := h2.ltj
          simp_arith [bLen_tup, oEq_int]
          by_cases hat : (at_ : Int) = (((body ++ [r]).length : Nat) : Int)
          · have s1 : ∀ S, oSl (.tup (body ++ [r])) none (some (-1)) S = .ok (.tup body) S := fun S => by simp only [oSl, cut_neg]
            have s2 : ∀ S, oSl (.tup (body ++ [r])) (some (-1)) none S = .ok (.tup [r]) S := fun S => by simp only [oSl, cut_neg2]
            have s3 : ∀ S, oSl (.tup (body ++ [r])) (some 1) none S = .ok (.tup ((body ++ [r]).drop 1)) S := fun S => by simp only [oSl]; rw [show (1 : Int) = ((1 : Nat) : Int) from rfl, cut_from (by simp)]
            have hle : (body ++ [r]).length + [r].length ≤ 1000000 := by simp only [List.length_cons, List.length_nil]; omega
            simp_arith [hat, oNeg_int, s1, s2, s3, oAdd_tup hle]
            refine nxS h2.new (by decide) fun c S3 hc h3 k3 => ?_
            obtain ⟨y, hy, e1⟩ := ixd (n := 3) (k3.get (i := S2.length) get_end (by simp; omega)) hc rfl
            simp_arith [e1]
            refine ⟨?_, h3, k2.trans (Kp.new.trans k3)⟩
            simp only [List.mem_cons, List.not_mem_nil, or_false] at hy
            have mid : ∀ x ∈ body ++ [r], Dt (m + 1) (n' + 2) x := fun x hx => (hin x hx).up (Nat.le_succ _) (by omega)
            rcases hy with rfl | rfl | rfl
            · exact .tup (by simp at hlen; omega) fun x hx => mid x (List.mem_append_left _ hx)
            · refine .tup (by simp only [List.length_append, List.length_cons, List.length_nil] at hlen ⊢; omega) fun x hx => ?_
              rcases List.mem_append.mp hx with hx | hx
              · exact mid x hx
              · exact mid x (List.mem_append_right _ hx)
            · exact .tup (by rw [List.length_drop]; omega) fun x hx => dp 1 x hx
          · have hat2 : at_ < (body ++ [r]).length := by omega
            have hx : (body ++ [r])[at_]? = some (body ++ [r])[at_] := List.getElem?_eq_getElem hat2
            have s1 : ∀ S, oSl (.tup (body ++ [r])) none (some (at_ : Int)) S = .ok (.tup ((body ++ [r]).take at_)) S := fun S => by simp only [oSl, cut_to (Nat.le_of_lt hat2)]
            have e1 : ((at_ : Int) + 1) = ((at_ + 1 : Nat) : Int) := by omega
            have s2 : ∀ S, oSl (.tup (body ++ [r])) (some ((at_ + 1 : Nat) : Int)) none S = .ok (.tup ((body ++ [r]).drop (at_ + 1))) S := fun S => by simp only [oSl, cut_from (show at_ + 1 ≤ (body ++ [r]).length by omega)]
            have i1 : ∀ S, oIx (.tup (body ++ [r])) (.int (at_ : Int)) S = .ok (body ++ [r])[at_] S := fun S => oIx_tup hx
            have lt1 : ((body ++ [r]).take at_).length = at_ := by rw [List.length_take]; omega
            have ld1 : ((body ++ [r]).drop (at_ + 1)).length = (body ++ [r]).length - (at_ + 1) := List.length_drop
            have e2 : ((k : Int) - 1) = ((k - 1 : Nat) : Int) := by omega
            simp_arith [hat, s1, i1, oSub_int, e2]
            refine Wp.call (spoilt_ok hm hm4 fuel (k - 1) n' (body ++ [r])[at_] S2 (by omega) (by omega) (hin _ (List.getElem_mem hat2)) h2) ?_
            rintro v S3 ⟨hv, h3, k3⟩
            have hle : ((body ++ [r]).take at_ ++ [v]).length + ((body ++ [r]).drop (at_ + 1)).length ≤ 1000000 := by rw [List.length_append, ld1, lt1]; simp only [List.length_cons, List.length_nil]; omega
            simp_arith [oAdd_int, e1, s2, oAdd_tup (show ((body ++ [r]).take at_).length + [v].length ≤ 1000000 by rw [lt1]; simp; omega), oAdd_tup hle]
            refine ⟨.tup (by rw [List.length_append, List.length_append, ld1, lt1]; simp only [List.length_cons, List.length_nil]; omega) fun x hx => ?_, h3, k2.trans k3⟩
            rcases List.mem_append.mp hx with hx | hx
            · rcases List.mem_append.mp hx with hx | hx
              · exact tk _ x hx
              · rw [List.mem_singleton] at hx; rw [hx]; exact hv
            · exact dp _ x hx
end
theorem is_stream : m__law_stream = mDef 2 4 (b_stream S_mix) := rfl
theorem big_dt {m : Nat} (hm : m ≤ 130) {L : List Nat} (hl : L.length ≤ 130) : Dt 130 3 (.tup [.tup (L.map fun k : Nat => D.tup [.int (4096 * (k : Int)), .int 4096, .str "public"]), .tup [.tup [.str "stop", .int 3]]]) := by
  refine .tup (by simp) fun x hx => ?_
  simp only [List.mem_cons, List.not_mem_nil, or_false] at hx
  rcases hx with rfl | rfl
  · refine .tup (by simpa using hl) fun x hx => ?_
    obtain ⟨k, _, rfl⟩ := List.mem_map.mp hx
    refine .tup (by simp) fun x hx => ?_
    simp only [List.mem_cons, List.not_mem_nil, or_false] at hx
    rcases hx with rfl | rfl | rfl
    · exact .int _
    · exact .int _
    · exact .str (words_s _ (by simp))
  · exact of_dtB (by decide +kernel)
def lastL : List D := [.non, .tup [], .tup [.tup []], .tup [.tup [], .tup []], .tup [.tup [], .tup [.tup [.str "stop", .int 3]]], .tup [.tup [], .tup [.tup [.str "out", .int 3]]]]
theorem lastL_dt : ∀ x ∈ lastL, Dt 130 3 x := by
  have h : lastL.all (dtB 130 3) = true := by decide +kernel
  intro x hx
  exact of_dtB (List.all_eq_true.mp h x hx)
theorem law_wp {S : Hs} {x : D} {ns : List Int} (hx : seqD x S = some (ns.map D.int)) (hn : ns.length ≤ 63) : Wp NoX (m_law [x] S) fun v _ => v = .bl true := by
  refine wp_def0 rfl ?_
  unfold b_law
  obtain ⟨row, hr, e1⟩ := stream_true (most := 400) hx hn (by decide)
  have hd1 : DrwS (S ++ [.lst (row.map D.int), drawsO S.length 0 row.length]) (S.length + 1) S.length := ⟨row, row.length, 0, by simp, by simp, by omega, by omega⟩
  simp_arith [is_stream, e1]
  generalize S ++ [.lst (row.map D.int), drawsO S.length 0 row.length] = S1 at hd1
  generalize S.length + 1 = i at *
  generalize S.length = j at *
  refine Wp.call (code_draw hd1) ?_
  rintro _ S2 ⟨⟨rs, rows, rfl, hB, hD⟩, d2, k2⟩
  simp_arith [d_REGISTERS, oNe_int]
  refine Wp.call (code_okB hD (by omega)) ?_
  rintro _ S2 ⟨rfl, rfl⟩
  simp_arith [hB, show ∀ S, oIsNot (.bl true) (.bl true) S = .ok (.bl false) S from fun _ => rfl]
  refine Wp.call (says_ok hD (by omega) (by omega)) ?_
  rintro _ S3 ⟨rfl, K3⟩
  simp_arith [tb]
  refine Wp.call rows_right_ok ?_
  rintro _ S4 ⟨rfl, K4⟩
  have d4 := d2.kp0 (K3.trans K4)
  simp_arith [tb, rng1 (n := 16) S4 (by decide) (by decide)]
  refine wp_rng (fun k l S' => (∃ o3 o4 o5 o6 o7 : Option D, l = [some x, some (.ref i), some (.tup [.tup (rs.map Rg.D), .tup (rows.map MRow.D)]), o3, o4, o5, o6, o7]) ∧ DrwS S' i j) ⟨⟨_, _, _, _, _, rfl⟩, d4⟩ ?_ ?_
  · rintro k l S5 hk ⟨⟨o3, o4, o5, o6, o7, rfl⟩, d5⟩
    unfold lb_law_1
    simp_arith []
    refine nxS d5 (by decide) fun a S6 ha d6 k6 => ?_
    have ea : (1 : Int) + (a : Int) = ((1 + a : Nat) : Int) := by omega
    simp_arith [oAdd_int, ea, rng1 (n := ((1 + a : Nat) : Int)) S6 (by omega) (by omega), Int.toNat_natCast]
    refine wp_rng (fun t l S' => ∃ v, Dt (24 + t) (3 + 2 * t) v ∧ (∃ o3 o5 o6 o7 : Option D, l = [some x, some (.ref i), some (.tup [.tup (rs.map Rg.D), .tup (rows.map MRow.D)]), o3, some v, o5, o6, o7]) ∧ DrwS S' i j) ⟨_, hD, ⟨_, _, _, _, rfl⟩, d6⟩ ?_ ?_
    · rintro t l S7 ht ⟨v, hv, ⟨p3, p5, p6, p7, rfl⟩, d7⟩
      unfold lb_law_0
      simp_arith []
      refine nxS d7 (by decide) fun b S8 hb d8 k8 => ?_
      have eb : (1 : Int) + (b : Int) = ((1 + b : Nat) : Int) := by omega
      simp_arith [oAdd_int, eb]
      refine Wp.call (spoilt_ok (m := 24 + t) (by omega) (by omega) 20 (1 + b) (3 + 2 * t) v S8 (by omega) (by omega) hv d8) ?_
      rintro w S9 ⟨hw, d9, k9⟩
      simp_arith []
      exact ⟨w, hw.up (by omega) (by omega), ⟨_, _, _, _, rfl⟩, d9⟩
    · rintro l S7 ⟨v, hv, ⟨p3, p5, p6, p7, rfl⟩, d7⟩
      simp_arith []
      refine Wp.call (says_ok hv (by omega) (by omega)) ?_
      rintro _ S8 ⟨rfl, K8⟩
      simp_arith [tb]
      exact ⟨⟨_, _, _, _, _, rfl⟩, d7.kp0 K8⟩
  · rintro l S5 ⟨⟨o3, o4, o5, o6, o7, rfl⟩, d5⟩
    simp_arith []
    refine nxS d5 (by decide) fun a S6 ha d6 k6 => ?_
    have ea : (121 : Int) + (a : Int) = ((121 + a : Nat) : Int) := by omega
    simp_arith [oAdd_int, ea, rng1 (n := ((121 + a : Nat) : Int)) S6 (by omega) (by omega), Int.toNat_natCast, wipe1]
    refine lc_pure (fun k : Nat => D.int k) (xs := List.range (121 + a)) (fun k => some (.tup [.int (4096 * (k : Int)), .int 4096, .str "public"])) (fun S' _ k hk => ?_) (by simp; omega) ?_ ?_
    · simp only [List.length_range] at hk
      by_cases hk2 : k < 121 + a
      · simp [itGo, hk2]
      · simp [itGo, hk2, show 121 + a ≤ k by omega]
    · intro k hk S7 K7
      refine ⟨_, rfl, ?_⟩
      have hm : IntMulOk 4096 (k : Int) := mulok_l (by decide)
      simp_arith [oMul_int hm]
      exact ⟨Kp.refl, Kp.refl⟩
    · intro S7 h7 K7
      have hfm : (List.range (121 + a)).filterMap (fun k : Nat => some (D.tup [.int (4096 * (k : Int)), .int 4096, .str "public"])) = (List.range (121 + a)).map fun k : Nat => D.tup [.int (4096 * (k : Int)), .int 4096, .str "public"] := by
        induction List.range (121 + a) with
        | nil => rfl
        | cons y ys ih => simp
      rw [hfm] at h7
      have hbig := big_dt (m := 130) (Nat.le_refl _) (L := List.range (121 + a)) (by simp; omega)
      obtain ⟨bs, hbs⟩ : ∃ bs, bs = (List.range (121 + a)).map fun k : Nat => D.tup [.int (4096 * (k : Int)), .int 4096, .str "public"] := ⟨_, rfl⟩
      rw [← hbs] at h7 hbig
      have hall : ∀ d ∈ lastL ++ [.tup [.tup bs, .tup [.tup [.str "stop", .int 3]]]], Dt 130 3 d := by
        intro d hd
        rcases List.mem_append.mp hd with hd | hd
        · exact lastL_dt d hd
        · rw [List.mem_singleton.mp hd]; exact hbig
      have hit : ∀ (q : Nat) S, q = S.length → oIt (.ref q) (S ++ [.lst (lastL ++ [.tup [.tup bs, .tup [.tup [.str "stop", .int 3]]]])]) = .ok (.lst q) (S ++ [.lst (lastL ++ [.tup [.tup bs, .tup [.tup [.str "stop", .int 3]]]])]) := fun q S e => by subst e; simp [oIt, seqAt, seqD]
      simp only [lastL, List.cons_append, List.nil_append] at hit
      simp_arith [bTuple_lst h7, hit]
      refine wp_lst (ds := lastL ++ [.tup [.tup bs, .tup [.tup [.str "stop", .int 3]]]]) (fun pre l S' => (∃ o3 o4 o5 o7 : Option D, l = [some x, some (.ref i), some (.tup [.tup (rs.map Rg.D), .tup (rows.map MRow.D)]), o3, o4, o5, some (.tup bs), o7]) ∧ Kp [] (S7 ++ [O.lst (lastL ++ [.tup [.tup bs, .tup [.tup [.str "stop", .int 3]]]])]) S') ?_ ⟨⟨_, _, _, _, rfl⟩, Kp.refl⟩ ?_ ?_
      · rintro pre l S' ⟨-, K⟩
        exact K.seqAt (by simp [seqAt, seqD]) (by simp)
      · rintro pre d post l S' e ⟨⟨p3, p4, p5, p7, rfl⟩, K⟩
        unfold lb_law_2
        simp_arith []
        refine Wp.call (says_ok (hall d (by rw [e]; simp)) (by omega) (by omega)) ?_
        rintro _ S8 ⟨rfl, K8⟩
        simp_arith [tb]
        exact ⟨⟨_, _, _, _, rfl⟩, K.trans K8⟩
      · rintro l S' ⟨⟨p3, p4, p5, p7, rfl⟩, K⟩
        simp_arith []
theorem law_true : LawTrue m_law := by
  intro ns x S h1 _ _ _ _ h5 _
  obtain ⟨v, S', e, rfl⟩ := (law_wp h5 h1).ex
  exact ⟨S', e⟩
end GK10
set_option Elab.async false
set_option linter.all false
set_option maxRecDepth 100000
namespace GK17
open PySem PySem.Spec L2 Ly
open PyProof.Rows hiding St
def d_MOST_DIGITS : D := (.int 10)
def d_DIGITS : D := (.str "0123456789")
def d_MOST_REGIONS : D := (.int 1000)
def d_GREATEST_BASE : D := (.int 500000)
def d_GREATEST_SIZE : D := (.int 4096)
def d_SIGNS : D := (.wt [(.str "+"), (.str "-"), (.str "*"), (.str "&"), (.str "|"), (.str "^"), (.str "<<"), (.str ">>"), (.str "=="), (.str "<"), (.str "<="), (.str "div"), (.str "mod")])
def d_GREATEST_WORD : D := (.int 4294967295)
def d_REGISTERS : D := (.int 16)
def d_CODE_FORMS : List (Str × D) := [("const", (.wt [(.str "write"), (.str "word")])), ("op", (.wt [(.str "sign"), (.str "write"), (.str "read"), (.str "read")])), ("select", (.wt [(.str "write"), (.str "read"), (.str "read"), (.str "read")])), ("load", (.wt [(.str "write"), (.str "read"), (.str "base"), (.str "mask")])), ("store", (.wt [(.str "read"), (.str "base"), (.str "mask"), (.str "read")])), ("out", (.wt [(.str "read")])), ("jump", (.wt [(.str "target")])), ("branch", (.wt [(.str "read"), (.str "target")])), ("stop", (.wt [(.str "read")]))]
def d_MOST_ROWS : D := (.int 100000)
noncomputable def b__law_mix : MS := (mSeq (mSet 2 (mBin oMod (mCall bInt (lCons (mBin oAdd (mBin oAdd (mBin oMul (mVar 0) (mC (.int 48271))) (mBin oMul (mVar 1) (mC (.int 69621)))) (mC (.int 11))) lNil)) (mC (.int 2147483647))))
    (mRet (mBin oMod (mBin oMod (mCall bInt (lCons (mBin oAdd (mBin oAdd (mBin oAdd (mBin oMul (mVar 2) (mVar 2)) (mBin oMul (mVar 0) (mC (.int 40692)))) (mBin oMul (mVar 1) (mC (.int 7)))) (mC (.int 3))) lNil)) (mC (.int 1000003))) (mC (.int 1000)))))
noncomputable def m__law_mix : MD := mDef 2 1 b__law_mix
theorem len__law_mix (ds : List D) (S : Hs) (h : ds.length ≠ 2) : S_mix ds S = .bad := len_mix ds S h
noncomputable def lb__law_stream_0 : MS := (mIfS (mAndB (mCmp oGt (mVar 4) (mC (.int 0))) (mCmp oLt (mCall bLen (lCons (mVar 2) lNil)) (mVar 1))) (mSeq (mExpr (mBM "list" oAppend (mVar 2) (lCons (mBin oMod (mCall bInt (lCons (mVar 4) lNil)) (mC (.int 1000))) lNil)))
    (mSet 4 (mBin oFdiv (mVar 4) (mC (.int 1000))))) mPass)
noncomputable def lb__law_stream_1 : MS := (mIfS (mCmp oLt (mCall bLen (lCons (mVar 2) lNil)) (mVar 1)) (mExpr (mBM "list" oAppend (mVar 2) (lCons (mFn S_mix (lCons (mVar 4) (lCons (mBin oAdd (mBin oMul (mC (.int 64)) (mVar 5)) (mVar 3)) lNil))) lNil))) mPass)
noncomputable def lb__law_stream_2 : MS := (mSeq (mSet 4 (mBin oIx (mVar 0) (mVar 3)))
    (mIfS (mCmp oGe (mVar 4) (mBin oPow (mC (.int 10)) (mC (.int 18)))) (mFor (mRng1 (lCons (mC (.int 60)) lNil)) (gN 5) lb__law_stream_0) (mFor (mRng1 (lCons (mC (.int 3)) lNil)) (gN 5) lb__law_stream_1)))
noncomputable def b__law_stream : MS := (mSeq (mSet 2 (mLst lNil))
    (mSeq (mFor (mRng1 (lCons (mCall bMin (lCons (mCall bLen (lCons (mVar 0) lNil)) (lCons (mC (.int 63)) lNil))) lNil)) (gN 3) lb__law_stream_2)
    (mRet (mDisp (dpCons (mC (.str "row")) (mVar 2) (dpCons (mC (.str "at")) (mC (.int 0)) (dpCons (mC (.str "seed")) (mCall bLen (lCons (mVar 2) lNil)) dpNil)))))))
noncomputable def m__law_stream : MD := mDef 2 4 b__law_stream
theorem len__law_stream (ds : List D) (S : Hs) (h : ds.length ≠ 2) : m__law_stream ds S = .bad := mDef_len ds S h
noncomputable def b__law_pick : MS := (mSeq (mSet 2 (mBin oIx (mVar 0) (mC (.str "at"))))
    (mSeq (mAsg (mBin oAdd (mVar 2) (mC (.int 1))) (gSb (mVar 0) (mC (.str "at"))))
    (mSeq (mSet 3 (mFn S_mix (lCons (mBin oIx (mVar 0) (mC (.str "seed"))) (lCons (mVar 2) lNil))))
    (mSeq (mIfS (mCmp oLt (mVar 2) (mCall bLen (lCons (mBin oIx (mVar 0) (mC (.str "row"))) lNil))) (mSet 3 (mBin oIx (mBin oIx (mVar 0) (mC (.str "row"))) (mVar 2))) mPass)
    (mRet (mBin oMod (mCall bInt (lCons (mVar 3) lNil)) (mVar 1)))))))
noncomputable def m__law_pick : MD := mDef 2 2 b__law_pick
theorem len__law_pick (ds : List D) (S : Hs) (h : ds.length ≠ 2) : S_pick ds S = .bad := len_pick ds S h
noncomputable def b__law_place : MS := (mRet (mTup (lCons (mBin oIx (mLst (lCons (mC (.int 0)) (lCons (mC (.int 1)) (lCons (mC (.int 64)) (lCons (mC (.int 4096)) (lCons (mC (.int 500000)) lNil)))))) (mFn S_pick (lCons (mVar 0) (lCons (mC (.int 5)) lNil)))) (lCons (mBin oIx (mLst (lCons (mC (.int 0)) (lCons (mC (.int 1)) (lCons (mC (.int 3)) (lCons (mC (.int 15)) (lCons (mC (.int 255)) (lCons (mC (.int 4095)) lNil))))))) (mFn S_pick (lCons (mVar 0) (lCons (mC (.int 6)) lNil)))) lNil))))
noncomputable def m__law_place : MD := mDef 1 0 b__law_place
theorem len__law_place (ds : List D) (S : Hs) (h : ds.length ≠ 1) : m__law_place ds S = .bad := mDef_len ds S h
noncomputable def b__law_reg : MS := (mRet (mFn S_pick (lCons (mVar 0) (lCons (mC (.int 16)) lNil))))
noncomputable def m__law_reg : MD := mDef 1 0 b__law_reg
theorem len__law_reg (ds : List D) (S : Hs) (h : ds.length ≠ 1) : m__law_reg ds S = .bad := mDef_len ds S h
noncomputable def b__law_row : MS := (mSeq (mSet 2 (mFn S_pick (lCons (mVar 0) (lCons (mC (.int 9)) lNil))))
    (mSeq (mAsg (mFn m__law_place (lCons (mVar 0) lNil)) (gT 2 (gsC (gN 3) (gsC (gN 4) gsN))))
    (mSeq (mSet 5 (mFn m__law_reg (lCons (mVar 0) lNil)))
    (mSeq (mSet 6 (mFn m__law_reg (lCons (mVar 0) lNil)))
    (mSeq (mIfS (mCmp oEq (mVar 2) (mC (.int 0))) (mRet (mTup (lCons (mC (.str "const")) (lCons (mVar 5) (lCons (mBin oIx (mLst (lCons (mC (.int 0)) (lCons (mC (.int 5)) (lCons (mBin oSub (mBin oPow (mC (.int 2)) (mC (.int 32))) (mC (.int 1))) lNil)))) (mFn S_pick (lCons (mVar 0) (lCons (mC (.int 3)) lNil)))) lNil))))) mPass)
    (mSeq (mIfS (mCmp oEq (mVar 2) (mC (.int 1))) (mSeq (mSet 7 (mLst (lCons (mC (.str "+")) (lCons (mC (.str "-")) (lCons (mC (.str "*")) (lCons (mC (.str "&")) (lCons (mC (.str "|")) (lCons (mC (.str "^")) (lCons (mC (.str "<<")) (lCons (mC (.str ">>")) (lCons (mC (.str "==")) (lCons (mC (.str "<")) (lCons (mC (.str "<=")) (lCons (mC (.str "div")) (lCons (mC (.str "mod")) lNil)))))))))))))))
    (mRet (mTup (lCons (mC (.str "op")) (lCons (mBin oIx (mVar 7) (mFn S_pick (lCons (mVar 0) (lCons (mC (.int 13)) lNil)))) (lCons (mVar 5) (lCons (mVar 6) (lCons (mFn m__law_reg (lCons (mVar 0) lNil)) lNil)))))))) mPass)
    (mSeq (mIfS (mCmp oEq (mVar 2) (mC (.int 2))) (mRet (mTup (lCons (mC (.str "select")) (lCons (mVar 5) (lCons (mVar 6) (lCons (mFn m__law_reg (lCons (mVar 0) lNil)) (lCons (mFn m__law_reg (lCons (mVar 0) lNil)) lNil))))))) mPass)
    (mSeq (mIfS (mCmp oEq (mVar 2) (mC (.int 3))) (mRet (mTup (lCons (mC (.str "load")) (lCons (mVar 5) (lCons (mVar 6) (lCons (mVar 3) (lCons (mVar 4) lNil))))))) mPass)
    (mSeq (mIfS (mCmp oEq (mVar 2) (mC (.int 4))) (mRet (mTup (lCons (mC (.str "store")) (lCons (mVar 5) (lCons (mVar 3) (lCons (mVar 4) (lCons (mVar 6) lNil))))))) mPass)
    (mRet (mBin oIx (mLst (lCons (mTup (lCons (mC (.str "out")) (lCons (mVar 5) lNil))) (lCons (mTup (lCons (mC (.str "jump")) (lCons (mFn S_pick (lCons (mVar 0) (lCons (mVar 1) lNil))) lNil))) (lCons (mTup (lCons (mC (.str "branch")) (lCons (mVar 5) (lCons (mFn S_pick (lCons (mVar 0) (lCons (mVar 1) lNil))) lNil)))) (lCons (mTup (lCons (mC (.str "stop")) (lCons (mVar 5) lNil))) lNil))))) (mBin oSub (mVar 2) (mC (.int 5))))))))))))))
noncomputable def m__law_row : MD := mDef 2 6 b__law_row
theorem len__law_row (ds : List D) (S : Hs) (h : ds.length ≠ 2) : m__law_row ds S = .bad := mDef_len ds S h
noncomputable def lb__law_code_0 : MS := (mSeq (mSet 4 (mBin oIx (mLst (lCons (mC (.int 1)) (lCons (mC (.int 2)) (lCons (mC (.int 5)) (lCons (mC (.int 64)) (lCons (mC (.int 4096)) lNil)))))) (mFn S_pick (lCons (mVar 0) (lCons (mC (.int 5)) lNil)))))
    (mSeq (mExpr (mBM "list" oAppend (mVar 1) (lCons (mTup (lCons (mVar 2) (lCons (mVar 4) (lCons (mBin oIx (mLst (lCons (mC (.str "public")) (lCons (mC (.str "secret")) lNil))) (mFn S_pick (lCons (mVar 0) (lCons (mC (.int 2)) lNil)))) lNil)))) lNil)))
    (mSet 2 (mBin oAdd (mVar 2) (mVar 4)))))
noncomputable def b__law_code : MS := (mSeq (mSet 1 (mLst lNil))
    (mSeq (mSet 2 (mC (.int 0)))
    (mSeq (mFor (mRng1 (lCons (mFn S_pick (lCons (mVar 0) (lCons (mC (.int 7)) lNil))) lNil)) (gN 3) lb__law_code_0)
    (mSeq (mSet 5 (mBin oAdd (mC (.int 1)) (mFn S_pick (lCons (mVar 0) (lCons (mC (.int 20)) lNil)))))
    (mSeq (mSet 6 (mLc (mRng1 (lCons (mBin oSub (mVar 5) (mC (.int 1))) lNil)) (cN 3) mYes (mFn m__law_row (lCons (mVar 0) (lCons (mVar 5) lNil))) [3]))
    (mSeq (mExpr (mBM "list" oAppend (mVar 6) (lCons (mBin oIx (mLst (lCons (mTup (lCons (mC (.str "jump")) (lCons (mFn S_pick (lCons (mVar 0) (lCons (mVar 5) lNil))) lNil))) (lCons (mTup (lCons (mC (.str "stop")) (lCons (mFn m__law_reg (lCons (mVar 0) lNil)) lNil))) lNil))) (mFn S_pick (lCons (mVar 0) (lCons (mC (.int 2)) lNil)))) lNil)))
    (mRet (mTup (lCons (mCall bTuple (lCons (mVar 1) lNil)) (lCons (mCall bTuple (lCons (mVar 6) lNil)) lNil))))))))))
noncomputable def m__law_code : MD := mDef 1 6 b__law_code
theorem len__law_code (ds : List D) (S : Hs) (h : ds.length ≠ 1) : m__law_code ds S = .bad := mDef_len ds S h
noncomputable def lb__law_listing_0 : MS := (mSet 1 (mBin oAdd (mBin oAdd (mBin oAdd (mBin oAdd (mBin oAdd (mVar 1) (mC (.str "region "))) (mCall bStr (lCons (mVar 3) lNil))) (mC (.str " "))) (mVar 4)) (mC (.str "\n"))))
noncomputable def lb__law_listing_1 : MS := (mSet 1 (mBin oAdd (mBin oAdd (mVar 1) (mC (.str " "))) (mCall bStr (lCons (mVar 6) lNil))))
noncomputable def lb__law_listing_2 : MS := (mSeq (mSet 1 (mBin oAdd (mBin oAdd (mVar 1) (mCall bStr (lCons (mVar 5) lNil))) (mC (.str ":"))))
    (mSeq (mFor (mIt (mBin oIx (mBin oIx (mVar 0) (mC (.int 1))) (mVar 5))) (gN 6) lb__law_listing_1)
    (mSet 1 (mBin oAdd (mVar 1) (mC (.str "\n"))))))
noncomputable def b__law_listing : MS := (mSeq (mSet 1 (mC (.str "")))
    (mSeq (mFor (mIt (mBin oIx (mVar 0) (mC (.int 0)))) (gT 3 (gsC (gN 2) (gsC (gN 3) (gsC (gN 4) gsN)))) lb__law_listing_0)
    (mSeq (mFor (mRng1 (lCons (mCall bLen (lCons (mBin oIx (mVar 0) (mC (.int 1))) lNil)) lNil)) (gN 5) lb__law_listing_2)
    (mRet (mVar 1)))))
noncomputable def m__law_listing : MD := mDef 1 6 b__law_listing
theorem len__law_listing (ds : List D) (S : Hs) (h : ds.length ≠ 1) : m__law_listing ds S = .bad := mDef_len ds S h
noncomputable def lb_write_listing_0 : MS := (mExpr (mBM "list" oAppend (mVar 1) (lCons (mBin oAdd (mBin oAdd (mJs [(mFmt (mVar 2)), (mC (.str ": "))] Str.empty) (mBM "str" oJoin (mC (.str " ")) (lCons (mLc (mIt (mVar 3)) (cN 7) mYes (mCall bStr (lCons (mVar 7) lNil)) [7]) lNil))) (mC (.str "\n"))) lNil)))
noncomputable def b_write_listing : MS := (mSeq (mSet 1 (mLc (mIt (mBin oIx (mVar 0) (mC (.int 0)))) (cT [4, 5, 6]) mYes (mJs [(mC (.str "region ")), (mFmt (mVar 5)), (mC (.str " ")), (mFmt (mVar 6)), (mC (.str "\n"))] Str.empty) [4, 5, 6]))
    (mSeq (mFor (mEnum (lCons (mBin oIx (mVar 0) (mC (.int 1))) lNil)) (gT 2 (gsC (gN 2) (gsC (gN 3) gsN))) lb_write_listing_0)
    (mRet (mBM "str" oJoin (mC (.str "")) (lCons (mVar 1) lNil)))))
noncomputable def m_write_listing : MD := mDef 1 7 b_write_listing
theorem len_write_listing (ds : List D) (S : Hs) (h : ds.length ≠ 1) : m_write_listing ds S = .bad := mDef_len ds S h
noncomputable def b_Listed_m___init__ (cA : Nat → Addr) : MS := (mSeq (mFldSet [cA 0] "regions" (mLst lNil) (mVar 0))
    (mSeq (mFldSet [cA 0] "base" (mC (.int 0)) (mVar 0))
    (mFldSet [cA 0] "rows" (mLst lNil) (mVar 0))))
noncomputable def m_Listed_m___init__ (cA : Nat → Addr) : MD := mDef 1 0 (b_Listed_m___init__ cA)
theorem len_Listed_m___init__ {cA : Nat → Addr} (ds : List D) (S : Hs) (h : ds.length ≠ 1) : (m_Listed_m___init__ cA) ds S = .bad := mDef_len ds S h
noncomputable def lb__number_0 : MS := (mIfS (mCmp oNotIn (mVar 1) (mC d_DIGITS)) (mRet (mUn oNeg (mC (.int 1)))) mPass)
noncomputable def b__number : MS := (mSeq (mIfS (mOrB (mNotB (mChnB oLe oLe (mC (.int 1)) (mCall bLen (lCons (mVar 0) lNil)) (mC d_MOST_DIGITS))) (mAndB (mCmp oEq (mBin oIx (mVar 0) (mC (.int 0))) (mC (.str "0"))) (mCmp oGt (mCall bLen (lCons (mVar 0) lNil)) (mC (.int 1))))) (mRet (mUn oNeg (mC (.int 1)))) mPass)
    (mSeq (mFor (mIt (mVar 0)) (gN 1) lb__number_0)
    (mRet (mCall bInt (lCons (mVar 0) lNil)))))
noncomputable def m__number : MD := mDef 1 1 b__number
theorem len__number (ds : List D) (S : Hs) (h : ds.length ≠ 1) : m__number ds S = .bad := mDef_len ds S h
noncomputable def b_is_label : MS := (mRet (mAnd (mUn (oIsi "str") (mVar 0)) (mBin oIn (mVar 0) (mTup (lCons (mC (.str "public")) (lCons (mC (.str "secret")) lNil))))))
noncomputable def m_is_label : MD := mDef 1 0 b_is_label
theorem len_is_label (ds : List D) (S : Hs) (h : ds.length ≠ 1) : m_is_label ds S = .bad := mDef_len ds S h
noncomputable def b_Listed_m_take_region (cA : Nat → Addr) : MS := (mSeq (mIfS (mOrB (mCmp oNe (mCall bLen (lCons (mVar 1) lNil)) (mC (.int 3))) (mOrB (mTru (mFld [cA 0] "rows" (mVar 0))) (mOrB (mCmp oEq (mCall bLen (lCons (mFld [cA 0] "regions" (mVar 0)) lNil)) (mC d_MOST_REGIONS)) (mCmp oGt (mFld [cA 0] "base" (mVar 0)) (mC d_GREATEST_BASE))))) (mRet (mC (.bl false))) mPass)
    (mSeq (mSet 2 (mFn m__number (lCons (mBin oIx (mVar 1) (mC (.int 1))) lNil)))
    (mSeq (mIfS (mOrB (mNotB (mChnB oLe oLe (mC (.int 1)) (mVar 2) (mC d_GREATEST_SIZE))) (mNotB (mTru (mFn m_is_label (lCons (mBin oIx (mVar 1) (mC (.int 2))) lNil))))) (mRet (mC (.bl false))) mPass)
    (mSeq (mExpr (mBM "list" oAppend (mFld [cA 0] "regions" (mVar 0)) (lCons (mTup (lCons (mFld [cA 0] "base" (mVar 0)) (lCons (mVar 2) (lCons (mBin oIx (mVar 1) (mC (.int 2))) lNil)))) lNil)))
    (mSeq (mFldAug [cA 0] "base" oIAdd (mVar 0) (mVar 2))
    (mRet (mC (.bl true))))))))
noncomputable def m_Listed_m_take_region (cA : Nat → Addr) : MD := mDef 2 1 (b_Listed_m_take_region cA)
theorem len_Listed_m_take_region {cA : Nat → Addr} (ds : List D) (S : Hs) (h : ds.length ≠ 2) : (m_Listed_m_take_region cA) ds S = .bad := mDef_len ds S h
noncomputable def b_is_number : MS := (mRet (mAnd (mUn (oIsi "int") (mVar 0)) (mAnd (mUn oNot (mUn (oIsi "bool") (mVar 0))) (mChn oLe oLe (mVar 1) (mVar 0) (mVar 2)))))
noncomputable def m_is_number : MD := mDef 3 0 b_is_number
theorem len_is_number (ds : List D) (S : Hs) (h : ds.length ≠ 3) : m_is_number ds S = .bad := mDef_len ds S h
noncomputable def b_is_mask : MS := (mRet (mAnd (mFn m_is_number (lCons (mVar 0) (lCons (mC (.int 0)) (lCons (mBin oSub (mC d_GREATEST_SIZE) (mC (.int 1))) lNil)))) (mBin oEq (mBin oAnd (mVar 0) (mBin oAdd (mVar 0) (mC (.int 1)))) (mC (.int 0)))))
noncomputable def m_is_mask : MD := mDef 1 0 b_is_mask
theorem len_is_mask (ds : List D) (S : Hs) (h : ds.length ≠ 1) : m_is_mask ds S = .bad := mDef_len ds S h
noncomputable def b__is_part : MS := (mSeq (mIfS (mCmp oEq (mVar 1) (mC (.str "sign"))) (mRet (mAnd (mUn (oIsi "str") (mVar 0)) (mBin oIn (mVar 0) (mC d_SIGNS)))) mPass)
    (mSeq (mIfS (mCmp oEq (mVar 1) (mC (.str "word"))) (mRet (mFn m_is_number (lCons (mVar 0) (lCons (mC (.int 0)) (lCons (mC d_GREATEST_WORD) lNil))))) mPass)
    (mSeq (mIfS (mCmp oEq (mVar 1) (mC (.str "base"))) (mRet (mFn m_is_number (lCons (mVar 0) (lCons (mC (.int 0)) (lCons (mC d_GREATEST_BASE) lNil))))) mPass)
    (mSeq (mIfS (mCmp oEq (mVar 1) (mC (.str "mask"))) (mRet (mFn m_is_mask (lCons (mVar 0) lNil))) mPass)
    (mSeq (mIfS (mCmp oEq (mVar 1) (mC (.str "target"))) (mRet (mFn m_is_number (lCons (mVar 0) (lCons (mC (.int 0)) (lCons (mBin oSub (mVar 2) (mC (.int 1))) lNil))))) mPass)
    (mRet (mFn m_is_number (lCons (mVar 0) (lCons (mC (.int 0)) (lCons (mBin oSub (mC d_REGISTERS) (mC (.int 1))) lNil))))))))))
noncomputable def m__is_part : MD := mDef 3 0 b__is_part
theorem len__is_part (ds : List D) (S : Hs) (h : ds.length ≠ 3) : m__is_part ds S = .bad := mDef_len ds S h
noncomputable def lb_is_row_0 : MS := (mIfS (mNotB (mTru (mFn m__is_part (lCons (mVar 3) (lCons (mVar 4) (lCons (mVar 1) lNil)))))) (mRet (mC (.bl false))) mPass)
noncomputable def b_is_row : MS := (mSeq (mIfS (mOrB (mNotB (mTru (mUn (oIsi "tuple") (mVar 0)))) (mCmp oEq (mCall bLen (lCons (mVar 0) lNil)) (mC (.int 0)))) (mRet (mC (.bl false))) mPass)
    (mSeq (mSet 2 (mBin oIx (mVar 0) (mC (.int 0))))
    (mSeq (mIfS (mOrB (mNotB (mTru (mUn (oIsi "str") (mVar 2)))) (mOrB (mNotInKB d_CODE_FORMS (mVar 2)) (mCmp oNe (mCall bLen (lCons (mVar 0) lNil)) (mBin oAdd (mCall bLen (lCons (mIxK d_CODE_FORMS (mVar 2)) lNil)) (mC (.int 1)))))) (mRet (mC (.bl false))) mPass)
    (mSeq (mFor (mZip (lCons (mSl (mVar 0) (oSome (mC (.int 1))) oNo) (lCons (mIxK d_CODE_FORMS (mVar 2)) lNil))) (gT 2 (gsC (gN 3) (gsC (gN 4) gsN))) lb_is_row_0)
    (mRet (mC (.bl true)))))))
noncomputable def m_is_row : MD := mDef 2 3 b_is_row
theorem len_is_row (ds : List D) (S : Hs) (h : ds.length ≠ 2) : m_is_row ds S = .bad := mDef_len ds S h
noncomputable def b__part : MS := (mRet (mIf (mCmp oEq (mVar 1) (mC (.str "sign"))) (mVar 0) (mFn m__number (lCons (mVar 0) lNil))))
noncomputable def m__part : MD := mDef 2 0 b__part
theorem len__part (ds : List D) (S : Hs) (h : ds.length ≠ 2) : m__part ds S = .bad := mDef_len ds S h
noncomputable def b_Listed_m_take (cA : Nat → Addr) : MS := (mSeq (mIfS (mCmp oEq (mBin oIx (mVar 1) (mC (.int 0))) (mC (.str "region"))) (mRet (mMeth [(cA 0, (m_Listed_m_take_region cA))] "take_region" (mVar 0) (lCons (mVar 1) lNil))) mPass)
    (mSeq (mSet 2 (mCall bLen (lCons (mFld [cA 0] "rows" (mVar 0)) lNil)))
    (mSeq (mIfS (mOrB (mCmp oEq (mVar 2) (mC d_MOST_ROWS)) (mOrB (mCmp oNe (mBin oIx (mVar 1) (mC (.int 0))) (mJs [(mFmt (mVar 2)), (mC (.str ":"))] Str.empty)) (mOrB (mCmp oLt (mCall bLen (lCons (mVar 1) lNil)) (mC (.int 2))) (mNotInKB d_CODE_FORMS (mBin oIx (mVar 1) (mC (.int 1))))))) (mRet (mC (.bl false))) mPass)
    (mSeq (mSet 3 (mIxK d_CODE_FORMS (mBin oIx (mVar 1) (mC (.int 1)))))
    (mSeq (mSet 4 (mBin oAdd (mTup (lCons (mBin oIx (mVar 1) (mC (.int 1))) lNil)) (mCall bTuple (lCons (mLc (mZip (lCons (mSl (mVar 1) (oSome (mC (.int 2))) oNo) (lCons (mVar 3) lNil))) (cT [5, 6]) mYes (mFn m__part (lCons (mVar 5) (lCons (mVar 6) lNil))) [5, 6]) lNil))))
    (mSeq (mIfS (mCmp oNe (mCall bLen (lCons (mVar 1) lNil)) (mBin oAdd (mCall bLen (lCons (mVar 3) lNil)) (mC (.int 2)))) (mRet (mC (.bl false))) mPass)
    (mSeq (mExpr (mBM "list" oAppend (mFld [cA 0] "rows" (mVar 0)) (lCons (mVar 4) lNil)))
    (mRet (mAnd (mFn m_is_row (lCons (mVar 4) (lCons (mC d_MOST_ROWS) lNil))) (mOr (mBin oLt (mVar 2) (mBin oSub (mC d_MOST_ROWS) (mC (.int 1)))) (mBin oIn (mBin oIx (mVar 4) (mC (.int 0))) (mTup (lCons (mC (.str "jump")) (lCons (mC (.str "stop")) lNil))))))))))))))
noncomputable def m_Listed_m_take (cA : Nat → Addr) : MD := mDef 2 5 (b_Listed_m_take cA)
theorem len_Listed_m_take {cA : Nat → Addr} (ds : List D) (S : Hs) (h : ds.length ≠ 2) : (m_Listed_m_take cA) ds S = .bad := mDef_len ds S h
noncomputable def lb__are_regions_0 : MS := (mSeq (mIfS (mOrB (mNotB (mTru (mUn (oIsi "tuple") (mVar 2)))) (mCmp oNe (mCall bLen (lCons (mVar 2) lNil)) (mC (.int 3)))) (mRet (mC (.bl false))) mPass)
    (mSeq (mAsg (mVar 2) (gT 3 (gsC (gN 3) (gsC (gN 4) (gsC (gN 5) gsN)))))
    (mSeq (mIfS (mOrB (mNotB (mTru (mFn m_is_number (lCons (mVar 3) (lCons (mVar 1) (lCons (mVar 1) lNil)))))) (mCmp oGt (mVar 3) (mC d_GREATEST_BASE))) (mRet (mC (.bl false))) mPass)
    (mSeq (mIfS (mOrB (mNotB (mTru (mFn m_is_number (lCons (mVar 4) (lCons (mC (.int 1)) (lCons (mC d_GREATEST_SIZE) lNil)))))) (mNotB (mTru (mFn m_is_label (lCons (mVar 5) lNil))))) (mRet (mC (.bl false))) mPass)
    (mSet 1 (mBin oAdd (mVar 3) (mVar 4)))))))
noncomputable def b__are_regions : MS := (mSeq (mIfS (mOrB (mNotB (mTru (mUn (oIsi "tuple") (mVar 0)))) (mCmp oGt (mCall bLen (lCons (mVar 0) lNil)) (mC d_MOST_REGIONS))) (mRet (mC (.bl false))) mPass)
    (mSeq (mSet 1 (mC (.int 0)))
    (mSeq (mFor (mIt (mVar 0)) (gN 2) lb__are_regions_0)
    (mRet (mC (.bl true))))))
noncomputable def m__are_regions : MD := mDef 1 5 b__are_regions
theorem len__are_regions (ds : List D) (S : Hs) (h : ds.length ≠ 1) : m__are_regions ds S = .bad := mDef_len ds S h
noncomputable def lb_is_code_0 : MS := (mIfS (mNotB (mTru (mFn m_is_row (lCons (mVar 3) (lCons (mCall bLen (lCons (mVar 2) lNil)) lNil))))) (mRet (mC (.bl false))) mPass)
noncomputable def b_is_code : MS := (mSeq (mIfS (mOrB (mNotB (mTru (mUn (oIsi "tuple") (mVar 0)))) (mCmp oNe (mCall bLen (lCons (mVar 0) lNil)) (mC (.int 2)))) (mRet (mC (.bl false))) mPass)
    (mSeq (mAsg (mVar 0) (gT 2 (gsC (gN 1) (gsC (gN 2) gsN))))
    (mSeq (mIfS (mOrB (mNotB (mTru (mFn m__are_regions (lCons (mVar 1) lNil)))) (mOrB (mNotB (mTru (mUn (oIsi "tuple") (mVar 2)))) (mNotB (mChnB oLe oLe (mC (.int 1)) (mCall bLen (lCons (mVar 2) lNil)) (mC d_MOST_ROWS))))) (mRet (mC (.bl false))) mPass)
    (mSeq (mFor (mIt (mVar 2)) (gN 3) lb_is_code_0)
    (mRet (mBin oIn (mBin oIx (mBin oIx (mVar 2) (mUn oNeg (mC (.int 1)))) (mC (.int 0))) (mTup (lCons (mC (.str "jump")) (lCons (mC (.str "stop")) lNil)))))))))
noncomputable def m_is_code : MD := mDef 1 3 b_is_code
theorem len_is_code (ds : List D) (S : Hs) (h : ds.length ≠ 1) : m_is_code ds S = .bad := mDef_len ds S h
noncomputable def lb_read_listing_0 (cA : Nat → Addr) : MS := (mIfS (mNotB (mTru (mMeth [(cA 0, (m_Listed_m_take cA))] "take" (mVar 2) (lCons (mBM "str" oSplit (mVar 4) (lCons (mC (.str " ")) lNil)) lNil)))) mBad mPass)
noncomputable def b_read_listing (cA : Nat → Addr) : MS := (mSeq (mSet 1 (mBM "str" oSplit (mVar 0) (lCons (mC (.str "\n")) lNil)))
    (mSeq (mSet 2 (mMake (cA 0) (m_Listed_m___init__ cA) lNil))
    (mSeq (mFor (mEnum (lCons (mSl (mVar 1) oNo (oSome (mUn oNeg (mC (.int 1))))) lNil)) (gT 2 (gsC (gN 3) (gsC (gN 4) gsN))) (lb_read_listing_0 cA))
    (mSeq (mSet 5 (mTup (lCons (mCall bTuple (lCons (mFld [cA 0] "regions" (mVar 2)) lNil)) (lCons (mCall bTuple (lCons (mFld [cA 0] "rows" (mVar 2)) lNil)) lNil))))
    (mSeq (mIfS (mOrB (mCmp oNe (mBin oIx (mVar 1) (mUn oNeg (mC (.int 1)))) (mC (.str ""))) (mNotB (mTru (mFn m_is_code (lCons (mVar 5) lNil))))) mBad mPass)
    (mRet (mVar 5)))))))
noncomputable def m_read_listing (cA : Nat → Addr) : MD := mDef 1 5 (b_read_listing cA)
theorem len_read_listing {cA : Nat → Addr} (ds : List D) (S : Hs) (h : ds.length ≠ 1) : (m_read_listing cA) ds S = .bad := mDef_len ds S h
noncomputable def lb_law_0 (cA : Nat → Addr) : MS := (mSeq (mSet 5 (mFn m__law_listing (lCons (mVar 4) lNil)))
    (mIfS (mOrB (mCmp oNe (mFn m_write_listing (lCons (mVar 4) lNil)) (mVar 5)) (mCmp oNe (mFn (m_read_listing cA) (lCons (mVar 5) lNil)) (mVar 4))) (mRet (mC (.bl false))) mPass))
noncomputable def lb_law_1 (cA : Nat → Addr) : MS := (mSeq (mSet 3 (mFn m__law_code (lCons (mVar 1) lNil)))
    (mFor (mIt (mLst (lCons (mVar 3) (lCons (mTup (lCons (mTup lNil) (lCons (mBin oIx (mVar 3) (mC (.int 1))) lNil))) (lCons (mTup (lCons (mBin oIx (mVar 3) (mC (.int 0))) (lCons (mTup (lCons (mTup (lCons (mC (.str "stop")) (lCons (mVar 2) lNil))) lNil)) lNil))) lNil))))) (gN 4) (lb_law_0 cA)))
noncomputable def b_law (cA : Nat → Addr) : MS := (mSeq (mSet 1 (mFn m__law_stream (lCons (mVar 0) (lCons (mC (.int 400)) lNil))))
    (mSeq (mFor (mRng1 (lCons (mC (.int 3)) lNil)) (gN 2) (lb_law_1 cA))
    (mRet (mC (.bl true)))))
noncomputable def m_law (cA : Nat → Addr) : MD := mDef 1 5 (b_law cA)
end GK17
set_option Elab.async false
set_option linter.all false
set_option maxRecDepth 100000
set_option maxHeartbeats 4000000
namespace GK17
open PySem PySem.Spec L2 Ly
open PyProof.Rows hiding St
def top (i : Nat) : Stmt := PySem.Challenge.pw_sameclock_k17_listings_written_and_read.main.body.getD i (.Pass ⟨0, 0, 0, 0⟩)
abbrev s__law_mix : Stmt := top 30
abbrev s__law_stream : Stmt := top 31
abbrev s__law_pick : Stmt := top 32
abbrev s__law_place : Stmt := top 34
abbrev s__law_reg : Stmt := top 33
abbrev s__law_row : Stmt := top 35
abbrev s__law_code : Stmt := top 36
abbrev s__law_listing : Stmt := top 37
abbrev s_write_listing : Stmt := top 24
abbrev s_Listed_m___init__ : Stmt := (C8.clsBody (top 26)).getD 0 (.Pass ⟨0, 0, 0, 0⟩)
abbrev s__number : Stmt := top 28
abbrev s_is_label : Stmt := top 2
abbrev s_Listed_m_take_region : Stmt := (C8.clsBody (top 26)).getD 2 (.Pass ⟨0, 0, 0, 0⟩)
abbrev s_is_number : Stmt := top 1
abbrev s_is_mask : Stmt := top 16
abbrev s__is_part : Stmt := top 15
abbrev s_is_row : Stmt := top 14
abbrev s__part : Stmt := top 27
abbrev s_Listed_m_take : Stmt := (C8.clsBody (top 26)).getD 1 (.Pass ⟨0, 0, 0, 0⟩)
abbrev s__are_regions : Stmt := top 13
abbrev s_is_code : Stmt := top 12
abbrev s_read_listing : Stmt := top 25
abbrev s_law : Stmt := top 38
section
variable {P : Program} {w : World} {K : PySem.W.Frag} {mg : Str → Option Value} {base : Heap}
theorem sc__law_mix : FnScope ["cell", "k", "low"] ["cell", "k"] (defScope s__law_mix) := ⟨rfl, rfl, rfl, by decide +kernel, rfl, by decide +kernel, by decide +kernel⟩
theorem ok__law_mix {f__law_mix : Addr} {fd__law_mix : FuncData} (D__law_mix : DefAt K mg "_law_mix" s__law_mix ["cell", "k"] f__law_mix fd__law_mix) (z_int : mg "int" = none) : FnOk P w K mg base (L2.CX P w) 1 f__law_mix fd__law_mix ["cell", "k"] (spM K 2 (m__law_mix)) := by
  have sc := sc__law_mix
  refine fn_def (m := b__law_mix) D__law_mix.F sc rfl rfl fun cdv A outer s H E hr => ?_
  unfold b__law_mix
  exact (SMs.cons (s_set (i := 2) sc.nd (e_mod (c_int z_int (l_cons (e_add (e_add (e_mul (e_v 0) e_int) (e_mul (e_v 1) e_int)) e_int) l_nil)) e_int))
    (SMs.one (s_ret (e_mod (e_mod (c_int z_int (l_cons (e_add (e_add (e_add (e_mul (e_v 2) (e_v 2)) (e_mul (e_v 0) e_int)) (e_mul (e_v 1) e_int)) e_int) l_nil)) e_int) e_int))))
theorem sc__law_stream : FnScope ["script", "most", "row", "k", "rest", "j"] ["script", "most"] (defScope s__law_stream) := ⟨rfl, rfl, rfl, by decide +kernel, rfl, by decide +kernel, by decide +kernel⟩
theorem ok__law_stream {f__law_stream : Addr} {fd__law_stream : FuncData} {f__law_mix : Addr} {fd__law_mix : FuncData} (D__law_stream : DefAt K mg "_law_stream" s__law_stream ["script", "most"] f__law_stream fd__law_stream) (D__law_mix : DefAt K mg "_law_mix" s__law_mix ["cell", "k"] f__law_mix fd__law_mix) (G__law_mix : FnOk P w K mg base (L2.CX P w) 1 f__law_mix fd__law_mix ["cell", "k"] (spM K 2 S_mix)) (z_range : mg "range" = none) (z_min : mg "min" = none) (z_len : mg "len" = none) (z_int : mg "int" = none) : FnOk P w K mg base (L2.CX P w) 2 f__law_stream fd__law_stream ["script", "most"] (spM K 2 (m__law_stream)) := by
  have sc := sc__law_stream
  refine fn_def (m := b__law_stream) D__law_stream.F sc rfl rfl fun cdv A outer s H E hr => ?_
  unfold b__law_stream
  exact (SMs.cons (s_set (i := 2) sc.nd (e_lst l_nil))
    (SMs.cons (s_for (passes_of rfl) rfl (i_rng1 z_range (l_cons (c_min rfl z_min (l_cons (c_len z_len (l_cons (e_v 0) l_nil)) (l_cons e_int l_nil))) l_nil)) (g_n (i := 3) sc.nd) (SMs.cons (s_set (i := 4) sc.nd (e_ix (hu_of hr) (e_v 0) (e_v 3)))
    (SMs.one (s_if (b_cmp op_ge ok_ge (e_v 4) (e_pow e_int e_int) (nomark _)) (SMs.one (s_for (passes_of rfl) rfl (i_rng1 z_range (l_cons e_int l_nil)) (g_n (i := 5) sc.nd) (SMs.one (s_if (b_of (w_and (b_cmp op_gt ok_gt (e_v 4) e_int (nomark _)) (w_and1 (b_cmp op_lt ok_lt (c_len z_len (l_cons (e_v 2) l_nil)) (e_v 1) (nomark _))))) (SMs.cons (s_expr (e_bm PySem.F.plainAttrs_list PySem.F.slot_list_append PySem.F.type_list_append mt_append ok_append (e_v 2) (l_cons (e_mod (c_int z_int (l_cons (e_v 4) l_nil)) e_int) l_nil)))
    (SMs.one (s_set (i := 4) sc.nd (e_fdiv (e_v 4) e_int)))) SMs.nil)))) (SMs.one (s_for (passes_of rfl) rfl (i_rng1 z_range (l_cons e_int l_nil)) (g_n (i := 5) sc.nd) (SMs.one (s_if (b_cmp op_lt ok_lt (c_len z_len (l_cons (e_v 2) l_nil)) (e_v 1) (nomark _)) (SMs.one (s_expr (e_bm PySem.F.plainAttrs_list PySem.F.slot_list_append PySem.F.type_list_append mt_append ok_append (e_v 2) (l_cons (e_fn G__law_mix len__law_mix (hr.mono (by decide)) (by rfl) D__law_mix.g D__law_mix.F.kp D__law_mix.b (fun _ => Passes.at pass_def _) (l_cons (e_v 4) (l_cons (e_add (e_mul e_int (e_v 5)) (e_v 3)) l_nil))) l_nil)))) SMs.nil))))))))
    (SMs.one (s_ret (e_disp (dp_cons e_str (e_v 2) (dp_cons e_str e_int (dp_cons e_str (c_len z_len (l_cons (e_v 2) l_nil)) dp_nil))))))))
theorem sc__law_pick : FnScope ["draws", "many", "at", "number"] ["draws", "many"] (defScope s__law_pick) := ⟨rfl, rfl, rfl, by decide +kernel, rfl, by decide +kernel, by decide +kernel⟩
theorem ok__law_pick {f__law_pick : Addr} {fd__law_pick : FuncData} {f__law_mix : Addr} {fd__law_mix : FuncData} (D__law_pick : DefAt K mg "_law_pick" s__law_pick ["draws", "many"] f__law_pick fd__law_pick) (D__law_mix : DefAt K mg "_law_mix" s__law_mix ["cell", "k"] f__law_mix fd__law_mix) (G__law_mix : FnOk P w K mg base (L2.CX P w) 1 f__law_mix fd__law_mix ["cell", "k"] (spM K 2 S_mix)) (z_len : mg "len" = none) (z_int : mg "int" = none) : FnOk P w K mg base (L2.CX P w) 2 f__law_pick fd__law_pick ["draws", "many"] (spM K 2 (m__law_pick)) := by
  have sc := sc__law_pick
  refine fn_def (m := b__law_pick) D__law_pick.F sc rfl rfl fun cdv A outer s H E hr => ?_
  unfold b__law_pick
  exact (SMs.cons (s_set (i := 2) sc.nd (e_ix (hu_of hr) (e_v 0) e_str))
    (SMs.cons (s_sub (hu_of hr) (e_add (e_v 2) e_int) (e_v 0) e_str)
    (SMs.cons (s_set (i := 3) sc.nd (e_fn G__law_mix len__law_mix (hr.mono (by decide)) (by rfl) D__law_mix.g D__law_mix.F.kp D__law_mix.b (fun _ => Passes.at pass_def _) (l_cons (e_ix (hu_of hr) (e_v 0) e_str) (l_cons (e_v 2) l_nil))))
    (SMs.cons (s_if (b_cmp op_lt ok_lt (e_v 2) (c_len z_len (l_cons (e_ix (hu_of hr) (e_v 0) e_str) l_nil)) (nomark _)) (SMs.one (s_set (i := 3) sc.nd (e_ix (hu_of hr) (e_ix (hu_of hr) (e_v 0) e_str) (e_v 2)))) SMs.nil)
    (SMs.one (s_ret (e_mod (c_int z_int (l_cons (e_v 3) l_nil)) (e_v 1))))))))
theorem sc__law_place : FnScope ["draws"] ["draws"] (defScope s__law_place) := ⟨rfl, rfl, rfl, by decide +kernel, rfl, by decide +kernel, by decide +kernel⟩
theorem ok__law_place {f__law_place : Addr} {fd__law_place : FuncData} {f__law_pick : Addr} {fd__law_pick : FuncData} (D__law_place : DefAt K mg "_law_place" s__law_place ["draws"] f__law_place fd__law_place) (D__law_pick : DefAt K mg "_law_pick" s__law_pick ["draws", "many"] f__law_pick fd__law_pick) (G__law_pick : FnOk P w K mg base (L2.CX P w) 2 f__law_pick fd__law_pick ["draws", "many"] (spM K 2 S_pick)) : FnOk P w K mg base (L2.CX P w) 3 f__law_place fd__law_place ["draws"] (spM K 1 (m__law_place)) := by
  have sc := sc__law_place
  refine fn_def (m := b__law_place) D__law_place.F sc rfl rfl fun cdv A outer s H E hr => ?_
  unfold b__law_place
  exact (SMs.one (s_ret (e_tup (l_cons (e_ix (hu_of hr) (e_lst (l_cons e_int (l_cons e_int (l_cons e_int (l_cons e_int (l_cons e_int l_nil)))))) (e_fn G__law_pick len__law_pick (hr.mono (by decide)) (by rfl) D__law_pick.g D__law_pick.F.kp D__law_pick.b (fun _ => Passes.at pass_def _) (l_cons (e_v 0) (l_cons e_int l_nil)))) (l_cons (e_ix (hu_of hr) (e_lst (l_cons e_int (l_cons e_int (l_cons e_int (l_cons e_int (l_cons e_int (l_cons e_int l_nil))))))) (e_fn G__law_pick len__law_pick (hr.mono (by decide)) (by rfl) D__law_pick.g D__law_pick.F.kp D__law_pick.b (fun _ => Passes.at pass_def _) (l_cons (e_v 0) (l_cons e_int l_nil)))) l_nil)))))
theorem sc__law_reg : FnScope ["draws"] ["draws"] (defScope s__law_reg) := ⟨rfl, rfl, rfl, by decide +kernel, rfl, by decide +kernel, by decide +kernel⟩
theorem ok__law_reg {f__law_reg : Addr} {fd__law_reg : FuncData} {f__law_pick : Addr} {fd__law_pick : FuncData} (D__law_reg : DefAt K mg "_law_reg" s__law_reg ["draws"] f__law_reg fd__law_reg) (D__law_pick : DefAt K mg "_law_pick" s__law_pick ["draws", "many"] f__law_pick fd__law_pick) (G__law_pick : FnOk P w K mg base (L2.CX P w) 2 f__law_pick fd__law_pick ["draws", "many"] (spM K 2 S_pick)) : FnOk P w K mg base (L2.CX P w) 3 f__law_reg fd__law_reg ["draws"] (spM K 1 (m__law_reg)) := by
  have sc := sc__law_reg
  refine fn_def (m := b__law_reg) D__law_reg.F sc rfl rfl fun cdv A outer s H E hr => ?_
  unfold b__law_reg
  exact (SMs.one (s_ret (e_fn G__law_pick len__law_pick (hr.mono (by decide)) (by rfl) D__law_pick.g D__law_pick.F.kp D__law_pick.b (fun _ => Passes.at pass_def _) (l_cons (e_v 0) (l_cons e_int l_nil)))))
theorem sc__law_row : FnScope ["draws", "many", "pick", "base", "mask", "one", "two", "signs"] ["draws", "many"] (defScope s__law_row) := ⟨rfl, rfl, rfl, by decide +kernel, rfl, by decide +kernel, by decide +kernel⟩
theorem ok__law_row {f__law_row : Addr} {fd__law_row : FuncData} {f__law_pick : Addr} {fd__law_pick : FuncData} {f__law_place : Addr} {fd__law_place : FuncData} {f__law_reg : Addr} {fd__law_reg : FuncData} (D__law_row : DefAt K mg "_law_row" s__law_row ["draws", "many"] f__law_row fd__law_row) (D__law_pick : DefAt K mg "_law_pick" s__law_pick ["draws", "many"] f__law_pick fd__law_pick) (D__law_place : DefAt K mg "_law_place" s__law_place ["draws"] f__law_place fd__law_place) (D__law_reg : DefAt K mg "_law_reg" s__law_reg ["draws"] f__law_reg fd__law_reg) (G__law_pick : FnOk P w K mg base (L2.CX P w) 2 f__law_pick fd__law_pick ["draws", "many"] (spM K 2 S_pick)) (G__law_place : FnOk P w K mg base (L2.CX P w) 3 f__law_place fd__law_place ["draws"] (spM K 1 m__law_place)) (G__law_reg : FnOk P w K mg base (L2.CX P w) 3 f__law_reg fd__law_reg ["draws"] (spM K 1 m__law_reg)) : FnOk P w K mg base (L2.CX P w) 4 f__law_row fd__law_row ["draws", "many"] (spM K 2 (m__law_row)) := by
  have sc := sc__law_row
  refine fn_def (m := b__law_row) D__law_row.F sc rfl rfl fun cdv A outer s H E hr => ?_
  unfold b__law_row
  exact (SMs.cons (s_set (i := 2) sc.nd (e_fn G__law_pick len__law_pick (hr.mono (by decide)) (by rfl) D__law_pick.g D__law_pick.F.kp D__law_pick.b (fun _ => Passes.at pass_def _) (l_cons (e_v 0) (l_cons e_int l_nil))))
    (SMs.cons (s_asg (e_fn G__law_place len__law_place (hr.mono (by decide)) (by rfl) D__law_place.g D__law_place.F.kp D__law_place.b (fun _ => Passes.at pass_def _) (l_cons (e_v 0) l_nil)) (g_tup rfl (gs_cons (g_n (i := 3) sc.nd) (gs_cons (g_n (i := 4) sc.nd) gs_nil))))
    (SMs.cons (s_set (i := 5) sc.nd (e_fn G__law_reg len__law_reg (hr.mono (by decide)) (by rfl) D__law_reg.g D__law_reg.F.kp D__law_reg.b (fun _ => Passes.at pass_def _) (l_cons (e_v 0) l_nil)))
    (SMs.cons (s_set (i := 6) sc.nd (e_fn G__law_reg len__law_reg (hr.mono (by decide)) (by rfl) D__law_reg.g D__law_reg.F.kp D__law_reg.b (fun _ => Passes.at pass_def _) (l_cons (e_v 0) l_nil)))
    (SMs.cons (s_if (b_cmp (or_eqA hr) ok_eq (e_v 2) e_int (nomark _)) (SMs.one (s_ret (e_tup (l_cons e_str (l_cons (e_v 5) (l_cons (e_ix (hu_of hr) (e_lst (l_cons e_int (l_cons e_int (l_cons (e_sub (e_pow e_int e_int) e_int) l_nil)))) (e_fn G__law_pick len__law_pick (hr.mono (by decide)) (by rfl) D__law_pick.g D__law_pick.F.kp D__law_pick.b (fun _ => Passes.at pass_def _) (l_cons (e_v 0) (l_cons e_int l_nil)))) l_nil)))))) SMs.nil)
    (SMs.cons (s_if (b_cmp (or_eqA hr) ok_eq (e_v 2) e_int (nomark _)) (SMs.cons (s_set (i := 7) sc.nd (e_lst (l_cons e_str (l_cons e_str (l_cons e_str (l_cons e_str (l_cons e_str (l_cons e_str (l_cons e_str (l_cons e_str (l_cons e_str (l_cons e_str (l_cons e_str (l_cons e_str (l_cons e_str l_nil)))))))))))))))
    (SMs.one (s_ret (e_tup (l_cons e_str (l_cons (e_ix (hu_of hr) (e_v 7) (e_fn G__law_pick len__law_pick (hr.mono (by decide)) (by rfl) D__law_pick.g D__law_pick.F.kp D__law_pick.b (fun _ => Passes.at pass_def _) (l_cons (e_v 0) (l_cons e_int l_nil)))) (l_cons (e_v 5) (l_cons (e_v 6) (l_cons (e_fn G__law_reg len__law_reg (hr.mono (by decide)) (by rfl) D__law_reg.g D__law_reg.F.kp D__law_reg.b (fun _ => Passes.at pass_def _) (l_cons (e_v 0) l_nil)) l_nil))))))))) SMs.nil)
    (SMs.cons (s_if (b_cmp (or_eqA hr) ok_eq (e_v 2) e_int (nomark _)) (SMs.one (s_ret (e_tup (l_cons e_str (l_cons (e_v 5) (l_cons (e_v 6) (l_cons (e_fn G__law_reg len__law_reg (hr.mono (by decide)) (by rfl) D__law_reg.g D__law_reg.F.kp D__law_reg.b (fun _ => Passes.at pass_def _) (l_cons (e_v 0) l_nil)) (l_cons (e_fn G__law_reg len__law_reg (hr.mono (by decide)) (by rfl) D__law_reg.g D__law_reg.F.kp D__law_reg.b (fun _ => Passes.at pass_def _) (l_cons (e_v 0) l_nil)) l_nil)))))))) SMs.nil)
    (SMs.cons (s_if (b_cmp (or_eqA hr) ok_eq (e_v 2) e_int (nomark _)) (SMs.one (s_ret (e_tup (l_cons e_str (l_cons (e_v 5) (l_cons (e_v 6) (l_cons (e_v 3) (l_cons (e_v 4) l_nil)))))))) SMs.nil)
    (SMs.cons (s_if (b_cmp (or_eqA hr) ok_eq (e_v 2) e_int (nomark _)) (SMs.one (s_ret (e_tup (l_cons e_str (l_cons (e_v 5) (l_cons (e_v 3) (l_cons (e_v 4) (l_cons (e_v 6) l_nil)))))))) SMs.nil)
    (SMs.one (s_ret (e_ix (hu_of hr) (e_lst (l_cons (e_tup (l_cons e_str (l_cons (e_v 5) l_nil))) (l_cons (e_tup (l_cons e_str (l_cons (e_fn G__law_pick len__law_pick (hr.mono (by decide)) (by rfl) D__law_pick.g D__law_pick.F.kp D__law_pick.b (fun _ => Passes.at pass_def _) (l_cons (e_v 0) (l_cons (e_v 1) l_nil))) l_nil))) (l_cons (e_tup (l_cons e_str (l_cons (e_v 5) (l_cons (e_fn G__law_pick len__law_pick (hr.mono (by decide)) (by rfl) D__law_pick.g D__law_pick.F.kp D__law_pick.b (fun _ => Passes.at pass_def _) (l_cons (e_v 0) (l_cons (e_v 1) l_nil))) l_nil)))) (l_cons (e_tup (l_cons e_str (l_cons (e_v 5) l_nil))) l_nil))))) (e_sub (e_v 2) e_int)))))))))))))
theorem sc__law_code : FnScope ["draws", "regions", "base", "k", "size", "many", "rows"] ["draws"] (defScope s__law_code) := ⟨rfl, rfl, rfl, by decide +kernel, rfl, by decide +kernel, by decide +kernel⟩
theorem ok__law_code {f__law_code : Addr} {fd__law_code : FuncData} {f__law_pick : Addr} {fd__law_pick : FuncData} {f__law_row : Addr} {fd__law_row : FuncData} {f__law_reg : Addr} {fd__law_reg : FuncData} (D__law_code : DefAt K mg "_law_code" s__law_code ["draws"] f__law_code fd__law_code) (D__law_pick : DefAt K mg "_law_pick" s__law_pick ["draws", "many"] f__law_pick fd__law_pick) (D__law_row : DefAt K mg "_law_row" s__law_row ["draws", "many"] f__law_row fd__law_row) (D__law_reg : DefAt K mg "_law_reg" s__law_reg ["draws"] f__law_reg fd__law_reg) (G__law_pick : FnOk P w K mg base (L2.CX P w) 2 f__law_pick fd__law_pick ["draws", "many"] (spM K 2 S_pick)) (G__law_row : FnOk P w K mg base (L2.CX P w) 4 f__law_row fd__law_row ["draws", "many"] (spM K 2 m__law_row)) (G__law_reg : FnOk P w K mg base (L2.CX P w) 3 f__law_reg fd__law_reg ["draws"] (spM K 1 m__law_reg)) (z_range : mg "range" = none) (z_tuple : mg "tuple" = none) : FnOk P w K mg base (L2.CX P w) 5 f__law_code fd__law_code ["draws"] (spM K 1 (m__law_code)) := by
  have sc := sc__law_code
  refine fn_def (m := b__law_code) D__law_code.F sc rfl rfl fun cdv A outer s H E hr => ?_
  unfold b__law_code
  exact (SMs.cons (s_set (i := 1) sc.nd (e_lst l_nil))
    (SMs.cons (s_set (i := 2) sc.nd e_int)
    (SMs.cons (s_for (passes_of rfl) rfl (i_rng1 z_range (l_cons (e_fn G__law_pick len__law_pick (hr.mono (by decide)) (by rfl) D__law_pick.g D__law_pick.F.kp D__law_pick.b (fun _ => Passes.at pass_def _) (l_cons (e_v 0) (l_cons e_int l_nil))) l_nil)) (g_n (i := 3) sc.nd) (SMs.cons (s_set (i := 4) sc.nd (e_ix (hu_of hr) (e_lst (l_cons e_int (l_cons e_int (l_cons e_int (l_cons e_int (l_cons e_int l_nil)))))) (e_fn G__law_pick len__law_pick (hr.mono (by decide)) (by rfl) D__law_pick.g D__law_pick.F.kp D__law_pick.b (fun _ => Passes.at pass_def _) (l_cons (e_v 0) (l_cons e_int l_nil)))))
    (SMs.cons (s_expr (e_bm PySem.F.plainAttrs_list PySem.F.slot_list_append PySem.F.type_list_append mt_append ok_append (e_v 1) (l_cons (e_tup (l_cons (e_v 2) (l_cons (e_v 4) (l_cons (e_ix (hu_of hr) (e_lst (l_cons e_str (l_cons e_str l_nil))) (e_fn G__law_pick len__law_pick (hr.mono (by decide)) (by rfl) D__law_pick.g D__law_pick.F.kp D__law_pick.b (fun _ => Passes.at pass_def _) (l_cons (e_v 0) (l_cons e_int l_nil)))) l_nil)))) l_nil)))
    (SMs.one (s_set (i := 2) sc.nd (e_add (e_v 2) (e_v 4)))))))
    (SMs.cons (s_set (i := 5) sc.nd (e_add e_int (e_fn G__law_pick len__law_pick (hr.mono (by decide)) (by rfl) D__law_pick.g D__law_pick.F.kp D__law_pick.b (fun _ => Passes.at pass_def _) (l_cons (e_v 0) (l_cons e_int l_nil)))))
    (SMs.cons (s_setLc (i := 6) rfl sc.nd (sw_true rfl rfl rfl (by decide +kernel)) (i_rng1 z_range (l_cons (e_sub (e_v 5) e_int) l_nil)) (blkOk_by (own := [("k", 3)]) (by rfl)) (gok_n (i := 3) rfl) (fun _ _ _ _ _ => pg_name (i := 3) sc.nd rfl (by first | exact Or.inl rfl | exact Or.inr rfl)) (fun _ _ _ _ _ => ct_nil) (fun _ _ _ _ _ => (e_fn G__law_row len__law_row (hr.mono (by decide)) (by rfl) D__law_row.g D__law_row.F.kp D__law_row.b (fun _ => Passes.at passL _) (l_cons (e_v 0) (l_cons (e_v 5) l_nil)))))
    (SMs.cons (s_expr (e_bm PySem.F.plainAttrs_list PySem.F.slot_list_append PySem.F.type_list_append mt_append ok_append (e_v 6) (l_cons (e_ix (hu_of hr) (e_lst (l_cons (e_tup (l_cons e_str (l_cons (e_fn G__law_pick len__law_pick (hr.mono (by decide)) (by rfl) D__law_pick.g D__law_pick.F.kp D__law_pick.b (fun _ => Passes.at pass_def _) (l_cons (e_v 0) (l_cons (e_v 5) l_nil))) l_nil))) (l_cons (e_tup (l_cons e_str (l_cons (e_fn G__law_reg len__law_reg (hr.mono (by decide)) (by rfl) D__law_reg.g D__law_reg.F.kp D__law_reg.b (fun _ => Passes.at pass_def _) (l_cons (e_v 0) l_nil)) l_nil))) l_nil))) (e_fn G__law_pick len__law_pick (hr.mono (by decide)) (by rfl) D__law_pick.g D__law_pick.F.kp D__law_pick.b (fun _ => Passes.at pass_def _) (l_cons (e_v 0) (l_cons e_int l_nil)))) l_nil)))
    (SMs.one (s_ret (e_tup (l_cons (c_tuple z_tuple (l_cons (e_v 1) l_nil)) (l_cons (c_tuple z_tuple (l_cons (e_v 6) l_nil)) l_nil)))))))))))
theorem sc__law_listing : FnScope ["code", "text", "base", "size", "label", "k", "part"] ["code"] (defScope s__law_listing) := ⟨rfl, rfl, rfl, by decide +kernel, rfl, by decide +kernel, by decide +kernel⟩
theorem ok__law_listing {f__law_listing : Addr} {fd__law_listing : FuncData} (D__law_listing : DefAt K mg "_law_listing" s__law_listing ["code"] f__law_listing fd__law_listing) (z_str : mg "str" = none) (z_range : mg "range" = none) (z_len : mg "len" = none) : FnOk P w K mg base (L2.CX P w) 1 f__law_listing fd__law_listing ["code"] (spM K 1 (m__law_listing)) := by
  have sc := sc__law_listing
  refine fn_def (m := b__law_listing) D__law_listing.F sc rfl rfl fun cdv A outer s H E hr => ?_
  unfold b__law_listing
  exact (SMs.cons (s_set (i := 1) sc.nd e_str)
    (SMs.cons (s_for (passes_of rfl) rfl (i_it (e_ix (hu_of hr) (e_v 0) e_int)) (g_tup rfl (gs_cons (g_n (i := 2) sc.nd) (gs_cons (g_n (i := 3) sc.nd) (gs_cons (g_n (i := 4) sc.nd) gs_nil)))) (SMs.one (s_set (i := 1) sc.nd (e_add (e_add (e_add (e_add (e_add (e_v 1) e_str) (c_str z_str (l_cons (e_v 3) l_nil))) e_str) (e_v 4)) e_str))))
    (SMs.cons (s_for (passes_of rfl) rfl (i_rng1 z_range (l_cons (c_len z_len (l_cons (e_ix (hu_of hr) (e_v 0) e_int) l_nil)) l_nil)) (g_n (i := 5) sc.nd) (SMs.cons (s_set (i := 1) sc.nd (e_add (e_add (e_v 1) (c_str z_str (l_cons (e_v 5) l_nil))) e_str))
    (SMs.cons (s_for (passes_of rfl) rfl (i_it (e_ix (hu_of hr) (e_ix (hu_of hr) (e_v 0) e_int) (e_v 5))) (g_n (i := 6) sc.nd) (SMs.one (s_set (i := 1) sc.nd (e_add (e_add (e_v 1) e_str) (c_str z_str (l_cons (e_v 6) l_nil))))))
    (SMs.one (s_set (i := 1) sc.nd (e_add (e_v 1) e_str))))))
    (SMs.one (s_ret (e_v 1))))))
theorem sc_write_listing : FnScope ["code", "rows", "index", "row", "_", "size", "label", "part"] ["code"] (defScope s_write_listing) := ⟨rfl, rfl, rfl, by decide +kernel, rfl, by decide +kernel, by decide +kernel⟩
theorem ok_write_listing {f_write_listing : Addr} {fd_write_listing : FuncData} (D_write_listing : DefAt K mg "write_listing" s_write_listing ["code"] f_write_listing fd_write_listing) (z_enumerate : mg "enumerate" = none) (z_str : mg "str" = none) : FnOk P w K mg base (L2.CX P w) 1 f_write_listing fd_write_listing ["code"] (spM K 1 (m_write_listing)) := by
  have sc := sc_write_listing
  refine fn_def (m := b_write_listing) D_write_listing.F sc rfl rfl fun cdv A outer s H E hr => ?_
  unfold b_write_listing
  exact (SMs.cons (s_setLc (i := 1) rfl sc.nd (sw_true rfl rfl rfl (by decide +kernel)) (i_it (e_ix (hu_of hr) (e_v 0) e_int)) (blkOk_by (own := [("_", 4), ("size", 5), ("label", 6)]) (by rfl)) (gok_t (is := [4, 5, 6]) (by decide)) (fun _ _ _ _ _ => pg_tup rfl (pgs_cons (pg_name (i := 4) sc.nd rfl (by first | exact Or.inl rfl | exact Or.inr rfl)) (pgs_cons (pg_name (i := 5) sc.nd rfl (by first | exact Or.inl rfl | exact Or.inr rfl)) (pgs_cons (pg_name (i := 6) sc.nd rfl (by first | exact Or.inl rfl | exact Or.inr rfl)) pgs_nil)))) (fun _ _ _ _ _ => ct_nil) (fun _ _ _ _ _ => (e_joined (JM.cons e_str (JM.cons (e_fmt (e_v 5)) (JM.cons e_str (JM.cons (e_fmt (e_v 6)) (JM.cons e_str JM.nil))))))))
    (SMs.cons (s_for (passes_of rfl) rfl (i_enum z_enumerate (l_cons (e_ix (hu_of hr) (e_v 0) e_int) l_nil)) (g_tup rfl (gs_cons (g_n (i := 2) sc.nd) (gs_cons (g_n (i := 3) sc.nd) gs_nil))) (SMs.one (s_expr (e_bm PySem.F.plainAttrs_list PySem.F.slot_list_append PySem.F.type_list_append mt_append ok_append (e_v 1) (l_cons (e_add (e_add (e_joined (JM.cons (e_fmt (e_v 2)) (JM.cons e_str JM.nil))) (e_bm PySem.F.plainAttrs_str PySem.F.slot_str_join PySem.F.type_str_join mt_join ok_join e_str (l_cons (e_lc rfl sc.nd (i_it (e_v 3)) (blkOk_by (own := [("part", 7)]) (by rfl)) (gok_n (i := 7) rfl) (fun _ _ _ _ _ => pg_name (i := 7) sc.nd rfl (by first | exact Or.inl rfl | exact Or.inr rfl)) (fun _ _ _ _ _ => ct_nil) (fun _ _ _ _ _ => (c_str z_str (l_cons (e_v 7) l_nil)))) l_nil))) e_str) l_nil)))))
    (SMs.one (s_ret (e_bm PySem.F.plainAttrs_str PySem.F.slot_str_join PySem.F.type_str_join mt_join ok_join e_str (l_cons (e_v 1) l_nil))))))
theorem sc_Listed_m___init__ : FnScope ["self"] ["self"] (defScope s_Listed_m___init__) := ⟨rfl, rfl, rfl, by decide +kernel, rfl, by decide +kernel, by decide +kernel⟩
theorem ok_Listed_m___init__ {f_Listed_m___init__ : Addr} {fd_Listed_m___init__ : FuncData} {cA : Nat → Addr} (D_Listed_m___init__ : MetAt K "__init__" "Listed.__init__" s_Listed_m___init__ ["self"] f_Listed_m___init__ fd_Listed_m___init__) (fo_regions : FOk K [cA 0] "regions") (fo_base : FOk K [cA 0] "base") (fo_rows : FOk K [cA 0] "rows") : FnOk P w K mg base (L2.CX P w) 1 f_Listed_m___init__ fd_Listed_m___init__ ["self"] (spM K 1 (m_Listed_m___init__ cA)) := by
  have sc := sc_Listed_m___init__
  refine fn_def (m := b_Listed_m___init__ cA) D_Listed_m___init__.F sc rfl rfl fun cdv A outer s H E hr => ?_
  unfold b_Listed_m___init__
  exact (SMs.cons (s_fldset fo_regions (e_lst l_nil) (e_v 0))
    (SMs.cons (s_fldset fo_base e_int (e_v 0))
    (SMs.one (s_fldset fo_rows (e_lst l_nil) (e_v 0)))))
theorem sc__number : FnScope ["word", "digit"] ["word"] (defScope s__number) := ⟨rfl, rfl, rfl, by decide +kernel, rfl, by decide +kernel, by decide +kernel⟩
theorem ok__number {f__number : Addr} {fd__number : FuncData} (D__number : DefAt K mg "_number" s__number ["word"] f__number fd__number) (g_MOST_DIGITS : GV K mg "MOST_DIGITS" d_MOST_DIGITS) (g_DIGITS : GV K mg "DIGITS" d_DIGITS) (z_len : mg "len" = none) (z_int : mg "int" = none) : FnOk P w K mg base (L2.CX P w) 1 f__number fd__number ["word"] (spM K 1 (m__number)) := by
  have sc := sc__number
  refine fn_def (m := b__number) D__number.F sc rfl rfl fun cdv A outer s H E hr => ?_
  unfold b__number
  exact (SMs.cons (s_if (b_of (w_or (b_not (b_chain op_le op_le ok_le ok_le e_int (c_len z_len (l_cons (e_v 0) l_nil)) (e_g g_MOST_DIGITS))) (w_or1 (b_of (w_and (b_cmp (or_eqA hr) ok_eq (e_ix (hu_of hr) (e_v 0) e_int) e_str (nomark _)) (w_and1 (b_cmp op_gt ok_gt (c_len z_len (l_cons (e_v 0) l_nil)) e_int (nomark _)))))))) (SMs.one (s_ret (e_neg e_int))) SMs.nil)
    (SMs.cons (s_for (passes_of rfl) rfl (i_it (e_v 0)) (g_n (i := 1) sc.nd) (SMs.one (s_if (b_cmp (or_notinAll hr) ok_notin (e_v 1) (e_g g_DIGITS) (by rfl)) (SMs.one (s_ret (e_neg e_int))) SMs.nil)))
    (SMs.one (s_ret (c_int z_int (l_cons (e_v 0) l_nil))))))
theorem sc_is_label : FnScope ["thing"] ["thing"] (defScope s_is_label) := ⟨rfl, rfl, rfl, by decide +kernel, rfl, by decide +kernel, by decide +kernel⟩
theorem ok_is_label {f_is_label : Addr} {fd_is_label : FuncData} (D_is_label : DefAt K mg "is_label" s_is_label ["thing"] f_is_label fd_is_label) (z_isinstance : mg "isinstance" = none) (z_str : mg "str" = none) : FnOk P w K mg base (L2.CX P w) 1 f_is_label fd_is_label ["thing"] (spM K 1 (m_is_label)) := by
  have sc := sc_is_label
  refine fn_def (m := b_is_label) D_is_label.F sc rfl rfl fun cdv A outer s H E hr => ?_
  unfold b_is_label
  exact (SMs.one (s_ret (e_and (c_isi (cn := "str") z_isinstance z_str (e_v 0)) (e_one (e_cmp (or_inAll hr) ok_in (e_v 0) (e_tup (l_cons e_str (l_cons e_str l_nil))) (by rfl))))))
theorem sc_Listed_m_take_region : FnScope ["self", "words", "size"] ["self", "words"] (defScope s_Listed_m_take_region) := ⟨rfl, rfl, rfl, by decide +kernel, rfl, by decide +kernel, by decide +kernel⟩
theorem ok_Listed_m_take_region {f_Listed_m_take_region : Addr} {fd_Listed_m_take_region : FuncData} {f__number : Addr} {fd__number : FuncData} {f_is_label : Addr} {fd_is_label : FuncData} {cA : Nat → Addr} (D_Listed_m_take_region : MetAt K "take_region" "Listed.take_region" s_Listed_m_take_region ["self", "words"] f_Listed_m_take_region fd_Listed_m_take_region) (D__number : DefAt K mg "_number" s__number ["word"] f__number fd__number) (D_is_label : DefAt K mg "is_label" s_is_label ["thing"] f_is_label fd_is_label) (G__number : FnOk P w K mg base (L2.CX P w) 1 f__number fd__number ["word"] (spM K 1 m__number)) (G_is_label : FnOk P w K mg base (L2.CX P w) 1 f_is_label fd_is_label ["thing"] (spM K 1 m_is_label)) (g_MOST_REGIONS : GV K mg "MOST_REGIONS" d_MOST_REGIONS) (g_GREATEST_BASE : GV K mg "GREATEST_BASE" d_GREATEST_BASE) (g_GREATEST_SIZE : GV K mg "GREATEST_SIZE" d_GREATEST_SIZE) (z_len : mg "len" = none) (fo_rows : FOk K [cA 0] "rows") (fo_regions : FOk K [cA 0] "regions") (fo_base : FOk K [cA 0] "base") : FnOk P w K mg base (L2.CX P w) 2 f_Listed_m_take_region fd_Listed_m_take_region ["self", "words"] (spM K 2 (m_Listed_m_take_region cA)) := by
  have sc := sc_Listed_m_take_region
  refine fn_def (m := b_Listed_m_take_region cA) D_Listed_m_take_region.F sc rfl rfl fun cdv A outer s H E hr => ?_
  unfold b_Listed_m_take_region
  exact (SMs.cons (s_if (b_of (w_or (b_cmp (or_neA hr) ok_ne (c_len z_len (l_cons (e_v 1) l_nil)) e_int (nomark _)) (w_or (b_tru (e_fld fo_rows (e_v 0))) (w_or (b_cmp (or_eqA hr) ok_eq (c_len z_len (l_cons (e_fld fo_regions (e_v 0)) l_nil)) (e_g g_MOST_REGIONS) (nomark _)) (w_or1 (b_cmp op_gt ok_gt (e_fld fo_base (e_v 0)) (e_g g_GREATEST_BASE) (nomark _))))))) (SMs.one (s_ret e_bl)) SMs.nil)
    (SMs.cons (s_set (i := 2) sc.nd (e_fn G__number len__number (hr.mono (by decide)) (by rfl) D__number.g D__number.F.kp D__number.b (fun _ => Passes.at pass_def _) (l_cons (e_ix (hu_of hr) (e_v 1) e_int) l_nil)))
    (SMs.cons (s_if (b_of (w_or (b_not (b_chain op_le op_le ok_le ok_le e_int (e_v 2) (e_g g_GREATEST_SIZE))) (w_or1 (b_not (b_tru (e_fn G_is_label len_is_label (hr.mono (by decide)) (by rfl) D_is_label.g D_is_label.F.kp D_is_label.b (fun _ => Passes.at pass_def _) (l_cons (e_ix (hu_of hr) (e_v 1) e_int) l_nil))))))) (SMs.one (s_ret e_bl)) SMs.nil)
    (SMs.cons (s_expr (e_bm PySem.F.plainAttrs_list PySem.F.slot_list_append PySem.F.type_list_append mt_append ok_append (e_fld fo_regions (e_v 0)) (l_cons (e_tup (l_cons (e_fld fo_base (e_v 0)) (l_cons (e_v 2) (l_cons (e_ix (hu_of hr) (e_v 1) e_int) l_nil)))) l_nil)))
    (SMs.cons (s_fldaddD fo_base (e_v 0) (e_v 2))
    (SMs.one (s_ret e_bl)))))))
theorem sc_is_number : FnScope ["thing", "least", "most"] ["thing", "least", "most"] (defScope s_is_number) := ⟨rfl, rfl, rfl, by decide +kernel, rfl, by decide +kernel, by decide +kernel⟩
theorem ok_is_number {f_is_number : Addr} {fd_is_number : FuncData} (D_is_number : DefAt K mg "is_number" s_is_number ["thing", "least", "most"] f_is_number fd_is_number) (z_isinstance : mg "isinstance" = none) (z_int : mg "int" = none) (z_bool : mg "bool" = none) : FnOk P w K mg base (L2.CX P w) 1 f_is_number fd_is_number ["thing", "least", "most"] (spM K 3 (m_is_number)) := by
  have sc := sc_is_number
  refine fn_def (m := b_is_number) D_is_number.F sc rfl rfl fun cdv A outer s H E hr => ?_
  unfold b_is_number
  exact (SMs.one (s_ret (e_and (c_isi (cn := "int") z_isinstance z_int (e_v 0)) (e_and (e_not (c_isi (cn := "bool") z_isinstance z_bool (e_v 0))) (e_one (e_chain op_le op_le ok_le ok_le (e_v 1) (e_v 0) (e_v 2)))))))
theorem sc_is_mask : FnScope ["thing"] ["thing"] (defScope s_is_mask) := ⟨rfl, rfl, rfl, by decide +kernel, rfl, by decide +kernel, by decide +kernel⟩
theorem ok_is_mask {f_is_mask : Addr} {fd_is_mask : FuncData} {f_is_number : Addr} {fd_is_number : FuncData} (D_is_mask : DefAt K mg "is_mask" s_is_mask ["thing"] f_is_mask fd_is_mask) (D_is_number : DefAt K mg "is_number" s_is_number ["thing", "least", "most"] f_is_number fd_is_number) (G_is_number : FnOk P w K mg base (L2.CX P w) 1 f_is_number fd_is_number ["thing", "least", "most"] (spM K 3 m_is_number)) (g_GREATEST_SIZE : GV K mg "GREATEST_SIZE" d_GREATEST_SIZE) : FnOk P w K mg base (L2.CX P w) 2 f_is_mask fd_is_mask ["thing"] (spM K 1 (m_is_mask)) := by
  have sc := sc_is_mask
  refine fn_def (m := b_is_mask) D_is_mask.F sc rfl rfl fun cdv A outer s H E hr => ?_
  unfold b_is_mask
  exact (SMs.one (s_ret (e_and (e_fn G_is_number len_is_number (hr.mono (by decide)) (by rfl) D_is_number.g D_is_number.F.kp D_is_number.b (fun _ => Passes.at pass_def _) (l_cons (e_v 0) (l_cons e_int (l_cons (e_sub (e_g g_GREATEST_SIZE) e_int) l_nil)))) (e_one (e_cmp (or_eqA hr) ok_eq (e_band (e_v 0) (e_add (e_v 0) e_int)) e_int (nomark _))))))
theorem sc__is_part : FnScope ["thing", "kind", "count"] ["thing", "kind", "count"] (defScope s__is_part) := ⟨rfl, rfl, rfl, by decide +kernel, rfl, by decide +kernel, by decide +kernel⟩
theorem ok__is_part {f__is_part : Addr} {fd__is_part : FuncData} {f_is_number : Addr} {fd_is_number : FuncData} {f_is_mask : Addr} {fd_is_mask : FuncData} (D__is_part : DefAt K mg "_is_part" s__is_part ["thing", "kind", "count"] f__is_part fd__is_part) (D_is_number : DefAt K mg "is_number" s_is_number ["thing", "least", "most"] f_is_number fd_is_number) (D_is_mask : DefAt K mg "is_mask" s_is_mask ["thing"] f_is_mask fd_is_mask) (G_is_number : FnOk P w K mg base (L2.CX P w) 1 f_is_number fd_is_number ["thing", "least", "most"] (spM K 3 m_is_number)) (G_is_mask : FnOk P w K mg base (L2.CX P w) 2 f_is_mask fd_is_mask ["thing"] (spM K 1 m_is_mask)) (g_SIGNS : GV K mg "SIGNS" d_SIGNS) (g_GREATEST_WORD : GV K mg "GREATEST_WORD" d_GREATEST_WORD) (g_GREATEST_BASE : GV K mg "GREATEST_BASE" d_GREATEST_BASE) (g_REGISTERS : GV K mg "REGISTERS" d_REGISTERS) (z_isinstance : mg "isinstance" = none) (z_str : mg "str" = none) : FnOk P w K mg base (L2.CX P w) 3 f__is_part fd__is_part ["thing", "kind", "count"] (spM K 3 (m__is_part)) := by
  have sc := sc__is_part
  refine fn_def (m := b__is_part) D__is_part.F sc rfl rfl fun cdv A outer s H E hr => ?_
  unfold b__is_part
  exact (SMs.cons (s_if (b_cmp (or_eqA hr) ok_eq (e_v 1) e_str (nomark _)) (SMs.one (s_ret (e_and (c_isi (cn := "str") z_isinstance z_str (e_v 0)) (e_one (e_cmp (or_inAll hr) ok_in (e_v 0) (e_g g_SIGNS) (by rfl)))))) SMs.nil)
    (SMs.cons (s_if (b_cmp (or_eqA hr) ok_eq (e_v 1) e_str (nomark _)) (SMs.one (s_ret (e_fn G_is_number len_is_number (hr.mono (by decide)) (by rfl) D_is_number.g D_is_number.F.kp D_is_number.b (fun _ => Passes.at pass_def _) (l_cons (e_v 0) (l_cons e_int (l_cons (e_g g_GREATEST_WORD) l_nil)))))) SMs.nil)
    (SMs.cons (s_if (b_cmp (or_eqA hr) ok_eq (e_v 1) e_str (nomark _)) (SMs.one (s_ret (e_fn G_is_number len_is_number (hr.mono (by decide)) (by rfl) D_is_number.g D_is_number.F.kp D_is_number.b (fun _ => Passes.at pass_def _) (l_cons (e_v 0) (l_cons e_int (l_cons (e_g g_GREATEST_BASE) l_nil)))))) SMs.nil)
    (SMs.cons (s_if (b_cmp (or_eqA hr) ok_eq (e_v 1) e_str (nomark _)) (SMs.one (s_ret (e_fn G_is_mask len_is_mask (hr.mono (by decide)) (by rfl) D_is_mask.g D_is_mask.F.kp D_is_mask.b (fun _ => Passes.at pass_def _) (l_cons (e_v 0) l_nil)))) SMs.nil)
    (SMs.cons (s_if (b_cmp (or_eqA hr) ok_eq (e_v 1) e_str (nomark _)) (SMs.one (s_ret (e_fn G_is_number len_is_number (hr.mono (by decide)) (by rfl) D_is_number.g D_is_number.F.kp D_is_number.b (fun _ => Passes.at pass_def _) (l_cons (e_v 0) (l_cons e_int (l_cons (e_sub (e_v 2) e_int) l_nil)))))) SMs.nil)
    (SMs.one (s_ret (e_fn G_is_number len_is_number (hr.mono (by decide)) (by rfl) D_is_number.g D_is_number.F.kp D_is_number.b (fun _ => Passes.at pass_def _) (l_cons (e_v 0) (l_cons e_int (l_cons (e_sub (e_g g_REGISTERS) e_int) l_nil)))))))))))
theorem sc_is_row : FnScope ["thing", "count", "word", "part", "kind"] ["thing", "count"] (defScope s_is_row) := ⟨rfl, rfl, rfl, by decide +kernel, rfl, by decide +kernel, by decide +kernel⟩
theorem ok_is_row {f_is_row : Addr} {fd_is_row : FuncData} {f__is_part : Addr} {fd__is_part : FuncData} (D_is_row : DefAt K mg "is_row" s_is_row ["thing", "count"] f_is_row fd_is_row) (D__is_part : DefAt K mg "_is_part" s__is_part ["thing", "kind", "count"] f__is_part fd__is_part) (G__is_part : FnOk P w K mg base (L2.CX P w) 3 f__is_part fd__is_part ["thing", "kind", "count"] (spM K 3 m__is_part)) (g_CODE_FORMS : KD K w mg "CODE_FORMS" d_CODE_FORMS) (z_isinstance : mg "isinstance" = none) (z_tuple : mg "tuple" = none) (z_len : mg "len" = none) (z_str : mg "str" = none) (z_zip : mg "zip" = none) : FnOk P w K mg base (L2.CX P w) 4 f_is_row fd_is_row ["thing", "count"] (spM K 2 (m_is_row)) := by
  have sc := sc_is_row
  refine fn_def (m := b_is_row) D_is_row.F sc rfl rfl fun cdv A outer s H E hr => ?_
  unfold b_is_row
  exact (SMs.cons (s_if (b_of (w_or (b_not (b_tru (c_isi (cn := "tuple") z_isinstance z_tuple (e_v 0)))) (w_or1 (b_cmp (or_eqA hr) ok_eq (c_len z_len (l_cons (e_v 0) l_nil)) e_int (nomark _))))) (SMs.one (s_ret e_bl)) SMs.nil)
    (SMs.cons (s_set (i := 2) sc.nd (e_ix (hu_of hr) (e_v 0) e_int))
    (SMs.cons (s_if (b_of (w_or (b_not (b_tru (c_isi (cn := "str") z_isinstance z_str (e_v 2)))) (w_or (b_notinK g_CODE_FORMS (e_v 2)) (w_or1 (b_cmp (or_neA hr) ok_ne (c_len z_len (l_cons (e_v 0) l_nil)) (e_add (c_len z_len (l_cons (e_ixK g_CODE_FORMS (e_v 2)) l_nil)) e_int) (nomark _)))))) (SMs.one (s_ret e_bl)) SMs.nil)
    (SMs.cons (s_for (passes_of rfl) rfl (i_zip z_zip (l_cons (e_slice (e_v 0) (o_some e_int) o_no) (l_cons (e_ixK g_CODE_FORMS (e_v 2)) l_nil))) (g_tup rfl (gs_cons (g_n (i := 3) sc.nd) (gs_cons (g_n (i := 4) sc.nd) gs_nil))) (SMs.one (s_if (b_not (b_tru (e_fn G__is_part len__is_part (hr.mono (by decide)) (by rfl) D__is_part.g D__is_part.F.kp D__is_part.b (fun _ => Passes.at pass_def _) (l_cons (e_v 3) (l_cons (e_v 4) (l_cons (e_v 1) l_nil)))))) (SMs.one (s_ret e_bl)) SMs.nil)))
    (SMs.one (s_ret e_bl))))))
theorem sc__part : FnScope ["word", "kind"] ["word", "kind"] (defScope s__part) := ⟨rfl, rfl, rfl, by decide +kernel, rfl, by decide +kernel, by decide +kernel⟩
theorem ok__part {f__part : Addr} {fd__part : FuncData} {f__number : Addr} {fd__number : FuncData} (D__part : DefAt K mg "_part" s__part ["word", "kind"] f__part fd__part) (D__number : DefAt K mg "_number" s__number ["word"] f__number fd__number) (G__number : FnOk P w K mg base (L2.CX P w) 1 f__number fd__number ["word"] (spM K 1 m__number)) : FnOk P w K mg base (L2.CX P w) 2 f__part fd__part ["word", "kind"] (spM K 2 (m__part)) := by
  have sc := sc__part
  refine fn_def (m := b__part) D__part.F sc rfl rfl fun cdv A outer s H E hr => ?_
  unfold b__part
  exact (SMs.one (s_ret (e_if (b_cmp (or_eqA hr) ok_eq (e_v 1) e_str (nomark _)) (e_v 0) (e_fn G__number len__number (hr.mono (by decide)) (by rfl) D__number.g D__number.F.kp D__number.b (fun _ => Passes.at pass_def _) (l_cons (e_v 0) l_nil)))))
theorem sc_Listed_m_take : FnScope ["self", "words", "index", "kinds", "row", "word", "kind"] ["self", "words"] (defScope s_Listed_m_take) := ⟨rfl, rfl, rfl, by decide +kernel, rfl, by decide +kernel, by decide +kernel⟩
theorem ok_Listed_m_take {f_Listed_m_take : Addr} {fd_Listed_m_take : FuncData} {f_Listed_m_take_region : Addr} {fd_Listed_m_take_region : FuncData} {f__part : Addr} {fd__part : FuncData} {f_is_row : Addr} {fd_is_row : FuncData} {cA : Nat → Addr} (D_Listed_m_take : MetAt K "take" "Listed.take" s_Listed_m_take ["self", "words"] f_Listed_m_take fd_Listed_m_take) (D_Listed_m_take_region : MetAt K "take_region" "Listed.take_region" s_Listed_m_take_region ["self", "words"] f_Listed_m_take_region fd_Listed_m_take_region) (D__part : DefAt K mg "_part" s__part ["word", "kind"] f__part fd__part) (D_is_row : DefAt K mg "is_row" s_is_row ["thing", "count"] f_is_row fd_is_row) (G_Listed_m_take_region : FnOk P w K mg base (L2.CX P w) 2 f_Listed_m_take_region fd_Listed_m_take_region ["self", "words"] (spM K 2 (m_Listed_m_take_region cA))) (G__part : FnOk P w K mg base (L2.CX P w) 2 f__part fd__part ["word", "kind"] (spM K 2 m__part)) (G_is_row : FnOk P w K mg base (L2.CX P w) 4 f_is_row fd_is_row ["thing", "count"] (spM K 2 m_is_row)) (g_MOST_ROWS : GV K mg "MOST_ROWS" d_MOST_ROWS) (g_CODE_FORMS : KD K w mg "CODE_FORMS" d_CODE_FORMS) (z_len : mg "len" = none) (z_tuple : mg "tuple" = none) (z_zip : mg "zip" = none) (X_Listed_take_region : Cls K (cA 0) ∧ Meth K (cA 0) "take_region" f_Listed_m_take_region) (fo_rows : FOk K [cA 0] "rows") : FnOk P w K mg base (L2.CX P w) 5 f_Listed_m_take fd_Listed_m_take ["self", "words"] (spM K 2 (m_Listed_m_take cA)) := by
  have sc := sc_Listed_m_take
  refine fn_def (m := b_Listed_m_take cA) D_Listed_m_take.F sc rfl rfl fun cdv A outer s H E hr => ?_
  unfold b_Listed_m_take
  exact (SMs.cons (s_if (b_cmp (or_eqA hr) ok_eq (e_ix (hu_of hr) (e_v 1) e_int) e_str (nomark _)) (SMs.one (s_ret (e_meth (k := 2) (MOks.one (mok X_Listed_take_region.1 X_Listed_take_region.2 G_Listed_m_take_region (by decide) D_Listed_m_take_region.b len_Listed_m_take_region)) (hr.mono (by decide)) pass_def (e_v 0) (l_cons (e_v 1) l_nil)))) SMs.nil)
    (SMs.cons (s_set (i := 2) sc.nd (c_len z_len (l_cons (e_fld fo_rows (e_v 0)) l_nil)))
    (SMs.cons (s_if (b_of (w_or (b_cmp (or_eqA hr) ok_eq (e_v 2) (e_g g_MOST_ROWS) (nomark _)) (w_or (b_cmp (or_neA hr) ok_ne (e_ix (hu_of hr) (e_v 1) e_int) (e_joined (JM.cons (e_fmt (e_v 2)) (JM.cons e_str JM.nil))) (nomark _)) (w_or (b_cmp op_lt ok_lt (c_len z_len (l_cons (e_v 1) l_nil)) e_int (nomark _)) (w_or1 (b_notinK g_CODE_FORMS (e_ix (hu_of hr) (e_v 1) e_int))))))) (SMs.one (s_ret e_bl)) SMs.nil)
    (SMs.cons (s_set (i := 3) sc.nd (e_ixK g_CODE_FORMS (e_ix (hu_of hr) (e_v 1) e_int)))
    (SMs.cons (s_set (i := 4) sc.nd (e_add (e_tup (l_cons (e_ix (hu_of hr) (e_v 1) e_int) l_nil)) (c_tuple z_tuple (l_cons (e_lc rfl sc.nd (i_zip z_zip (l_cons (e_slice (e_v 1) (o_some e_int) o_no) (l_cons (e_v 3) l_nil))) (blkOk_by (own := [("word", 5), ("kind", 6)]) (by rfl)) (gok_t (is := [5, 6]) (by decide)) (fun _ _ _ _ _ => pg_tup rfl (pgs_cons (pg_name (i := 5) sc.nd rfl (by first | exact Or.inl rfl | exact Or.inr rfl)) (pgs_cons (pg_name (i := 6) sc.nd rfl (by first | exact Or.inl rfl | exact Or.inr rfl)) pgs_nil))) (fun _ _ _ _ _ => ct_nil) (fun _ _ _ _ _ => (e_fn G__part len__part (hr.mono (by decide)) (by rfl) D__part.g D__part.F.kp D__part.b (fun _ => Passes.at passL _) (l_cons (e_v 5) (l_cons (e_v 6) l_nil))))) l_nil))))
    (SMs.cons (s_if (b_cmp (or_neA hr) ok_ne (c_len z_len (l_cons (e_v 1) l_nil)) (e_add (c_len z_len (l_cons (e_v 3) l_nil)) e_int) (nomark _)) (SMs.one (s_ret e_bl)) SMs.nil)
    (SMs.cons (s_expr (e_bm PySem.F.plainAttrs_list PySem.F.slot_list_append PySem.F.type_list_append mt_append ok_append (e_fld fo_rows (e_v 0)) (l_cons (e_v 4) l_nil)))
    (SMs.one (s_ret (e_and (e_fn G_is_row len_is_row (hr.mono (by decide)) (by rfl) D_is_row.g D_is_row.F.kp D_is_row.b (fun _ => Passes.at pass_def _) (l_cons (e_v 4) (l_cons (e_g g_MOST_ROWS) l_nil))) (e_one (e_or (e_cmp op_lt ok_lt (e_v 2) (e_sub (e_g g_MOST_ROWS) e_int) (nomark _)) (e_one (e_cmp (or_inAll hr) ok_in (e_ix (hu_of hr) (e_v 4) e_int) (e_tup (l_cons e_str (l_cons e_str l_nil))) (by rfl)))))))))))))))
theorem sc__are_regions : FnScope ["thing", "next_base", "region", "base", "size", "label"] ["thing"] (defScope s__are_regions) := ⟨rfl, rfl, rfl, by decide +kernel, rfl, by decide +kernel, by decide +kernel⟩
theorem ok__are_regions {f__are_regions : Addr} {fd__are_regions : FuncData} {f_is_number : Addr} {fd_is_number : FuncData} {f_is_label : Addr} {fd_is_label : FuncData} (D__are_regions : DefAt K mg "_are_regions" s__are_regions ["thing"] f__are_regions fd__are_regions) (D_is_number : DefAt K mg "is_number" s_is_number ["thing", "least", "most"] f_is_number fd_is_number) (D_is_label : DefAt K mg "is_label" s_is_label ["thing"] f_is_label fd_is_label) (G_is_number : FnOk P w K mg base (L2.CX P w) 1 f_is_number fd_is_number ["thing", "least", "most"] (spM K 3 m_is_number)) (G_is_label : FnOk P w K mg base (L2.CX P w) 1 f_is_label fd_is_label ["thing"] (spM K 1 m_is_label)) (g_MOST_REGIONS : GV K mg "MOST_REGIONS" d_MOST_REGIONS) (g_GREATEST_BASE : GV K mg "GREATEST_BASE" d_GREATEST_BASE) (g_GREATEST_SIZE : GV K mg "GREATEST_SIZE" d_GREATEST_SIZE) (z_isinstance : mg "isinstance" = none) (z_tuple : mg "tuple" = none) (z_len : mg "len" = none) : FnOk P w K mg base (L2.CX P w) 2 f__are_regions fd__are_regions ["thing"] (spM K 1 (m__are_regions)) := by
  have sc := sc__are_regions
  refine fn_def (m := b__are_regions) D__are_regions.F sc rfl rfl fun cdv A outer s H E hr => ?_
  unfold b__are_regions
  exact (SMs.cons (s_if (b_of (w_or (b_not (b_tru (c_isi (cn := "tuple") z_isinstance z_tuple (e_v 0)))) (w_or1 (b_cmp op_gt ok_gt (c_len z_len (l_cons (e_v 0) l_nil)) (e_g g_MOST_REGIONS) (nomark _))))) (SMs.one (s_ret e_bl)) SMs.nil)
    (SMs.cons (s_set (i := 1) sc.nd e_int)
    (SMs.cons (s_for (passes_of rfl) rfl (i_it (e_v 0)) (g_n (i := 2) sc.nd) (SMs.cons (s_if (b_of (w_or (b_not (b_tru (c_isi (cn := "tuple") z_isinstance z_tuple (e_v 2)))) (w_or1 (b_cmp (or_neA hr) ok_ne (c_len z_len (l_cons (e_v 2) l_nil)) e_int (nomark _))))) (SMs.one (s_ret e_bl)) SMs.nil)
    (SMs.cons (s_asg (e_v 2) (g_tup rfl (gs_cons (g_n (i := 3) sc.nd) (gs_cons (g_n (i := 4) sc.nd) (gs_cons (g_n (i := 5) sc.nd) gs_nil)))))
    (SMs.cons (s_if (b_of (w_or (b_not (b_tru (e_fn G_is_number len_is_number (hr.mono (by decide)) (by rfl) D_is_number.g D_is_number.F.kp D_is_number.b (fun _ => Passes.at pass_def _) (l_cons (e_v 3) (l_cons (e_v 1) (l_cons (e_v 1) l_nil)))))) (w_or1 (b_cmp op_gt ok_gt (e_v 3) (e_g g_GREATEST_BASE) (nomark _))))) (SMs.one (s_ret e_bl)) SMs.nil)
    (SMs.cons (s_if (b_of (w_or (b_not (b_tru (e_fn G_is_number len_is_number (hr.mono (by decide)) (by rfl) D_is_number.g D_is_number.F.kp D_is_number.b (fun _ => Passes.at pass_def _) (l_cons (e_v 4) (l_cons e_int (l_cons (e_g g_GREATEST_SIZE) l_nil)))))) (w_or1 (b_not (b_tru (e_fn G_is_label len_is_label (hr.mono (by decide)) (by rfl) D_is_label.g D_is_label.F.kp D_is_label.b (fun _ => Passes.at pass_def _) (l_cons (e_v 5) l_nil))))))) (SMs.one (s_ret e_bl)) SMs.nil)
    (SMs.one (s_set (i := 1) sc.nd (e_add (e_v 3) (e_v 4)))))))))
    (SMs.one (s_ret e_bl)))))
theorem sc_is_code : FnScope ["thing", "regions", "rows", "row"] ["thing"] (defScope s_is_code) := ⟨rfl, rfl, rfl, by decide +kernel, rfl, by decide +kernel, by decide +kernel⟩
theorem ok_is_code {f_is_code : Addr} {fd_is_code : FuncData} {f__are_regions : Addr} {fd__are_regions : FuncData} {f_is_row : Addr} {fd_is_row : FuncData} (D_is_code : DefAt K mg "is_code" s_is_code ["thing"] f_is_code fd_is_code) (D__are_regions : DefAt K mg "_are_regions" s__are_regions ["thing"] f__are_regions fd__are_regions) (D_is_row : DefAt K mg "is_row" s_is_row ["thing", "count"] f_is_row fd_is_row) (G__are_regions : FnOk P w K mg base (L2.CX P w) 2 f__are_regions fd__are_regions ["thing"] (spM K 1 m__are_regions)) (G_is_row : FnOk P w K mg base (L2.CX P w) 4 f_is_row fd_is_row ["thing", "count"] (spM K 2 m_is_row)) (g_MOST_ROWS : GV K mg "MOST_ROWS" d_MOST_ROWS) (z_isinstance : mg "isinstance" = none) (z_tuple : mg "tuple" = none) (z_len : mg "len" = none) : FnOk P w K mg base (L2.CX P w) 5 f_is_code fd_is_code ["thing"] (spM K 1 (m_is_code)) := by
  have sc := sc_is_code
  refine fn_def (m := b_is_code) D_is_code.F sc rfl rfl fun cdv A outer s H E hr => ?_
  unfold b_is_code
  exact (SMs.cons (s_if (b_of (w_or (b_not (b_tru (c_isi (cn := "tuple") z_isinstance z_tuple (e_v 0)))) (w_or1 (b_cmp (or_neA hr) ok_ne (c_len z_len (l_cons (e_v 0) l_nil)) e_int (nomark _))))) (SMs.one (s_ret e_bl)) SMs.nil)
    (SMs.cons (s_asg (e_v 0) (g_tup rfl (gs_cons (g_n (i := 1) sc.nd) (gs_cons (g_n (i := 2) sc.nd) gs_nil))))
    (SMs.cons (s_if (b_of (w_or (b_not (b_tru (e_fn G__are_regions len__are_regions (hr.mono (by decide)) (by rfl) D__are_regions.g D__are_regions.F.kp D__are_regions.b (fun _ => Passes.at pass_def _) (l_cons (e_v 1) l_nil)))) (w_or (b_not (b_tru (c_isi (cn := "tuple") z_isinstance z_tuple (e_v 2)))) (w_or1 (b_not (b_chain op_le op_le ok_le ok_le e_int (c_len z_len (l_cons (e_v 2) l_nil)) (e_g g_MOST_ROWS))))))) (SMs.one (s_ret e_bl)) SMs.nil)
    (SMs.cons (s_for (passes_of rfl) rfl (i_it (e_v 2)) (g_n (i := 3) sc.nd) (SMs.one (s_if (b_not (b_tru (e_fn G_is_row len_is_row (hr.mono (by decide)) (by rfl) D_is_row.g D_is_row.F.kp D_is_row.b (fun _ => Passes.at pass_def _) (l_cons (e_v 3) (l_cons (c_len z_len (l_cons (e_v 2) l_nil)) l_nil))))) (SMs.one (s_ret e_bl)) SMs.nil)))
    (SMs.one (s_ret (e_cmp (or_inAll hr) ok_in (e_ix (hu_of hr) (e_ix (hu_of hr) (e_v 2) (e_neg e_int)) e_int) (e_tup (l_cons e_str (l_cons e_str l_nil))) (by rfl))))))))
theorem sc_read_listing : FnScope ["text", "rows", "listed", "number", "row", "code"] ["text"] (defScope s_read_listing) := ⟨rfl, rfl, rfl, by decide +kernel, rfl, by decide +kernel, by decide +kernel⟩
theorem ok_read_listing {f_read_listing : Addr} {fd_read_listing : FuncData} {f_Listed_m___init__ : Addr} {fd_Listed_m___init__ : FuncData} {f_Listed_m_take : Addr} {fd_Listed_m_take : FuncData} {f_is_code : Addr} {fd_is_code : FuncData} {cA : Nat → Addr} (D_read_listing : DefAt K mg "read_listing" s_read_listing ["text"] f_read_listing fd_read_listing) (D_Listed_m___init__ : MetAt K "__init__" "Listed.__init__" s_Listed_m___init__ ["self"] f_Listed_m___init__ fd_Listed_m___init__) (D_Listed_m_take : MetAt K "take" "Listed.take" s_Listed_m_take ["self", "words"] f_Listed_m_take fd_Listed_m_take) (D_is_code : DefAt K mg "is_code" s_is_code ["thing"] f_is_code fd_is_code) (G_Listed_m___init__ : FnOk P w K mg base (L2.CX P w) 1 f_Listed_m___init__ fd_Listed_m___init__ ["self"] (spM K 1 (m_Listed_m___init__ cA))) (G_Listed_m_take : FnOk P w K mg base (L2.CX P w) 5 f_Listed_m_take fd_Listed_m_take ["self", "words"] (spM K 2 (m_Listed_m_take cA))) (G_is_code : FnOk P w K mg base (L2.CX P w) 5 f_is_code fd_is_code ["thing"] (spM K 1 m_is_code)) (z_enumerate : mg "enumerate" = none) (z_tuple : mg "tuple" = none) (N_Listed : mg "Listed" = some (.ref (cA 0))) (M_Listed : Mk K (cA 0) f_Listed_m___init__) (X_Listed_take : Cls K (cA 0) ∧ Meth K (cA 0) "take" f_Listed_m_take) (fo_rows : FOk K [cA 0] "rows") (fo_regions : FOk K [cA 0] "regions") : FnOk P w K mg base (L2.CX P w) 6 f_read_listing fd_read_listing ["text"] (spM K 1 (m_read_listing cA)) := by
  have sc := sc_read_listing
  refine fn_def (m := b_read_listing cA) D_read_listing.F sc rfl rfl fun cdv A outer s H E hr => ?_
  unfold b_read_listing
  exact (SMs.cons (s_set (i := 1) sc.nd (e_bm PySem.F.plainAttrs_str PySem.F.slot_str_split PySem.F.type_str_split mt_split ok_split (e_v 0) (l_cons e_str l_nil)))
    (SMs.cons (s_set (i := 2) sc.nd (e_make0 M_Listed G_Listed_m___init__ len_Listed_m___init__ (hr.mono (by decide)) (by rfl) N_Listed D_Listed_m___init__.b pass_def))
    (SMs.cons (s_for (passes_of rfl) rfl (i_enum z_enumerate (l_cons (e_slice (e_v 1) o_no (o_some (e_neg e_int))) l_nil)) (g_tup rfl (gs_cons (g_n (i := 3) sc.nd) (gs_cons (g_n (i := 4) sc.nd) gs_nil))) (SMs.one (s_if (b_not (b_tru (e_meth (k := 5) (MOks.one (mok X_Listed_take.1 X_Listed_take.2 G_Listed_m_take (by decide) D_Listed_m_take.b len_Listed_m_take)) (hr.mono (by decide)) pass_def (e_v 2) (l_cons (e_bm PySem.F.plainAttrs_str PySem.F.slot_str_split PySem.F.type_str_split mt_split ok_split (e_v 4) (l_cons e_str l_nil)) l_nil)))) (SMs.one s_never) SMs.nil)))
    (SMs.cons (s_set (i := 5) sc.nd (e_tup (l_cons (c_tuple z_tuple (l_cons (e_fld fo_regions (e_v 2)) l_nil)) (l_cons (c_tuple z_tuple (l_cons (e_fld fo_rows (e_v 2)) l_nil)) l_nil))))
    (SMs.cons (s_if (b_of (w_or (b_cmp (or_neA hr) ok_ne (e_ix (hu_of hr) (e_v 1) (e_neg e_int)) e_str (nomark _)) (w_or1 (b_not (b_tru (e_fn G_is_code len_is_code (hr.mono (by decide)) (by rfl) D_is_code.g D_is_code.F.kp D_is_code.b (fun _ => Passes.at pass_def _) (l_cons (e_v 5) l_nil))))))) (SMs.one s_never) SMs.nil)
    (SMs.one (s_ret (e_v 5))))))))
theorem sc_law : FnScope ["script", "draws", "turn", "code", "one", "text"] ["script"] (defScope s_law) := ⟨rfl, rfl, rfl, by decide +kernel, rfl, by decide +kernel, by decide +kernel⟩
theorem ok_law {f_law : Addr} {fd_law : FuncData} {f__law_stream : Addr} {fd__law_stream : FuncData} {f__law_code : Addr} {fd__law_code : FuncData} {f__law_listing : Addr} {fd__law_listing : FuncData} {f_write_listing : Addr} {fd_write_listing : FuncData} {f_read_listing : Addr} {fd_read_listing : FuncData} {cA : Nat → Addr} (D_law : DefAt K mg "law" s_law ["script"] f_law fd_law) (D__law_stream : DefAt K mg "_law_stream" s__law_stream ["script", "most"] f__law_stream fd__law_stream) (D__law_code : DefAt K mg "_law_code" s__law_code ["draws"] f__law_code fd__law_code) (D__law_listing : DefAt K mg "_law_listing" s__law_listing ["code"] f__law_listing fd__law_listing) (D_write_listing : DefAt K mg "write_listing" s_write_listing ["code"] f_write_listing fd_write_listing) (D_read_listing : DefAt K mg "read_listing" s_read_listing ["text"] f_read_listing fd_read_listing) (G__law_stream : FnOk P w K mg base (L2.CX P w) 2 f__law_stream fd__law_stream ["script", "most"] (spM K 2 m__law_stream)) (G__law_code : FnOk P w K mg base (L2.CX P w) 5 f__law_code fd__law_code ["draws"] (spM K 1 m__law_code)) (G__law_listing : FnOk P w K mg base (L2.CX P w) 1 f__law_listing fd__law_listing ["code"] (spM K 1 m__law_listing)) (G_write_listing : FnOk P w K mg base (L2.CX P w) 1 f_write_listing fd_write_listing ["code"] (spM K 1 m_write_listing)) (G_read_listing : FnOk P w K mg base (L2.CX P w) 6 f_read_listing fd_read_listing ["text"] (spM K 1 (m_read_listing cA))) (z_range : mg "range" = none) : FnOk P w K mg base (L2.CX P w) 7 f_law fd_law ["script"] (spM K 1 (m_law cA)) := by
  have sc := sc_law
  refine fn_def (m := b_law cA) D_law.F sc rfl rfl fun cdv A outer s H E hr => ?_
  unfold b_law
  exact (SMs.cons (s_set (i := 1) sc.nd (e_fn G__law_stream len__law_stream (hr.mono (by decide)) (by rfl) D__law_stream.g D__law_stream.F.kp D__law_stream.b (fun _ => Passes.at pass_def _) (l_cons (e_v 0) (l_cons e_int l_nil))))
    (SMs.cons (s_for (passes_of rfl) rfl (i_rng1 z_range (l_cons e_int l_nil)) (g_n (i := 2) sc.nd) (SMs.cons (s_set (i := 3) sc.nd (e_fn G__law_code len__law_code (hr.mono (by decide)) (by rfl) D__law_code.g D__law_code.F.kp D__law_code.b (fun _ => Passes.at pass_def _) (l_cons (e_v 1) l_nil)))
    (SMs.one (s_for (passes_of rfl) rfl (i_it (e_lst (l_cons (e_v 3) (l_cons (e_tup (l_cons (e_tup l_nil) (l_cons (e_ix (hu_of hr) (e_v 3) e_int) l_nil))) (l_cons (e_tup (l_cons (e_ix (hu_of hr) (e_v 3) e_int) (l_cons (e_tup (l_cons (e_tup (l_cons e_str (l_cons (e_v 2) l_nil))) l_nil)) l_nil))) l_nil))))) (g_n (i := 4) sc.nd) (SMs.cons (s_set (i := 5) sc.nd (e_fn G__law_listing len__law_listing (hr.mono (by decide)) (by rfl) D__law_listing.g D__law_listing.F.kp D__law_listing.b (fun _ => Passes.at pass_def _) (l_cons (e_v 4) l_nil)))
    (SMs.one (s_if (b_of (w_or (b_cmp (or_neA hr) ok_ne (e_fn G_write_listing len_write_listing (hr.mono (by decide)) (by rfl) D_write_listing.g D_write_listing.F.kp D_write_listing.b (fun _ => Passes.at pass_def _) (l_cons (e_v 4) l_nil)) (e_v 5) (nomark _)) (w_or1 (b_cmp (or_neA hr) ok_ne (e_fn G_read_listing len_read_listing (hr.mono (by decide)) (by rfl) D_read_listing.g D_read_listing.F.kp D_read_listing.b (fun _ => Passes.at pass_def _) (l_cons (e_v 5) l_nil)) (e_v 4) (nomark _))))) (SMs.one (s_ret e_bl)) SMs.nil)))))))
    (SMs.one (s_ret e_bl))))
end
end GK17
set_option Elab.async false
set_option linter.all false
set_option maxRecDepth 100000
namespace GK17
open PySem L2 Ly GK10 TL
open PySem.Spec hiding Row
open PyProof.Rows hiding St
local macro_rules | `(tactic| simp_arith [$ls,*]) => `(tactic| simp only [Ly.line_le, Ly.atX_no, Ly.v_ok, Ly.v_bad, Ly.v_bind, Ly.k_bd, Ly.v_at, Ly.v_bin, Ly.k_bi, Ly.k_bi2, Ly.v_var, Ly.v_c, Ly.v_un, Ly.k_un, Ly.v_if, Ly.k_ife, Ly.v_and, Ly.k_and, Ly.k_and2, Ly.v_or, Ly.k_or, Ly.k_or2, Ly.v_tup, Ly.k_tup, Ly.v_lst, Ly.k_lst, Ly.v_call, Ly.k_ca, Ly.v_fn, Ly.k_fn, Ly.v_bm, Ly.k_bm, Ly.k_bm2, Ly.v_sl, Ly.k_sl, Ly.k_sl2, Ly.k_sl3, Ly.v_ixK, Ly.k_ixk, Ly.v_inK, Ly.k_ink, Ly.v_notinK, Ly.k_nink, Ly.v_getK2, Ly.k_gk2, Ly.k_gk, Ly.v_get2, Ly.k_g2, Ly.k_g22, Ly.k_g23, Ly.v_nil, Ly.v_cons, Ly.k_co, Ly.k_co2, Ly.v_no, Ly.v_some, Ly.k_so, Ly.k_cm, Ly.v_cmp, Ly.v_tru, Ly.k_tr, Ly.v_notB, Ly.k_no, Ly.v_andB, Ly.k_an, Ly.v_orB, Ly.k_orb, Ly.v_yes, Ly.v_inKB, Ly.k_inkB, Ly.v_notinKB, Ly.k_ninkB, Ly.v_set, Ly.k_st, Ly.v_expr, Ly.k_ex, Ly.v_ret, Ly.k_re, Ly.v_retN, Ly.v_pass, Ly.v_brk, Ly.v_cnt, Ly.v_seq, Ly.k_sq_nx, Ly.k_sq_rt, Ly.k_sq_bk, Ly.k_sq_ct, Ly.v_ifS, Ly.k_ifs, Ly.v_asg, Ly.k_as, Ly.k_as2, Ly.v_aug, Ly.k_au, Ly.v_for, Ly.k_fo, Ly.v_it, Ly.k_it, Ly.k_ij, Ly.v_rng1, Ly.v_rng2, Ly.v_enum, Ly.v_zip, Ly.v_ez, Ly.v_gN, Ly.v_gsN, Ly.v_gsC, Ly.k_gc, Ly.v_gT, Ly.v_gTw, Ly.v_gSb, Ly.k_gsb, Ly.k_gsb2, Ly.k_gsb3, Ly.k_en_rt, Ly.k_en_nx, Ly.k_tu_nx, Ly.k_tu_ct, Ly.k_tu_bk, Ly.k_tu_rt, Ly.v_lc, Ly.k_lc, Ly.v_augI, Ly.k_ag, Ly.k_ag2, Ly.k_ag3, Ly.k_ag4, Ly.k_ag5, Ly.v_del, Ly.k_dl, Ly.k_dl2, Ly.v_setd, Ly.v_pop2, Ly.k_d3, Ly.k_d32, Ly.k_d33, Ly.v_get1, Ly.k_g1, Ly.k_g12, Ly.v_rg1, Ly.k_rg, Ly.v_rg2, Ly.k_rg2, Ly.k_rg22, Ly.v_dicK, Ly.v_dicT, Ly.v_dc, Ly.k_dc, List.getElem?_cons_zero, List.getElem?_cons_succ, List.set_cons_zero, List.set_cons_succ, List.length_cons, List.length_nil, List.map_cons, List.map_nil, List.cons_append, List.nil_append, List.replicate, if_true, if_false, Bool.false_eq_true, Bool.not_true, Bool.not_false, Bool.true_and, Bool.false_and, decide_true, decide_false, decide_eq_true_eq, Nat.zero_add, Nat.reduceAdd, Nat.reduceLeDiff, true_and, and_true, $ls,*])
theorem is_codeL : GK17.m__law_code = GK10.m__law_code := rfl
theorem is_streamL : GK17.m__law_stream = mDef 2 4 (b_stream S_mix) := rfl
theorem is_forms : GK17.d_CODE_FORMS = GK10.d_CODE_FORMS := rfl
def digS : Str := "0123456789"
theorem s0S : (("0" : Str)) = tx [48] := by decide +kernel
theorem len_tx {cs : List Nat} {S : Hs} (hl : cs.length ≤ sizeLine) : bLen [.str (tx cs)] S = .ok (.int (cs.length : Int)) S := by simp [bLen, lenD, hl]
abbrev nS (n : Nat) : Str := Str.ofString (toString ((n : Nat) : Int))
theorem tl_nS (n : Nat) : tl (nS n) = numL n := tl_num n
theorem nS_tx (n : Nat) : nS n = tx (numL n) := ext_tl (tl_nS n)
theorem len10 {n : Nat} (h : n ≤ 4294967295) : (numL n).length ≤ 10 := numL_len (by decide) (by rw [show (10:Nat)^10 = 10000000000 by decide +kernel]; omega)
theorem no_zero : ∀ n : Nat, 0 < n → ∃ c r, numL n = c :: r ∧ c ≠ 48 := by
  intro n
  induction n using Nat.strongRecOn with
  | _ n ih =>
    intro h0
    by_cases h : n < 10
    · exact ⟨48 + n, [], numL_lt h, by omega⟩
    · obtain ⟨c, r, e, hc⟩ := ih (n / 10) (by omega) (by omega)
      exact ⟨c, r ++ [48 + n % 10], by rw [numL_step (by omega), e]; rfl, hc⟩
theorem digs {c : Nat} (h : 48 ≤ c ∧ c ≤ 57) : c ∈ digS.cps.toList := by
  have : ∀ k, k < 10 → (48 + k) ∈ digS.cps.toList := by decide +kernel
  have := this (c - 48) (by omega)
  rwa [show 48 + (c - 48) = c by omega] at this
section
variable {S : Hs} {Q : F → Hs → Prop}
theorem bInt_nS {n : Nat} (h : n ≤ 4294967295) : bInt [.str (nS n)] S = .ok (.int (n : Int)) S := by
  have h1 := len10 h
  have h2 : (nS n).length ≤ 640 := by rw [len_tl, tl_nS]; omega
  simp only [bInt, int_num (n := n) (by omega)]
  rw [if_pos h2]
theorem number_ok {n : Nat} (h : n ≤ 4294967295) : Wp NoX (m__number [.str (nS n)] S) fun v S' => v = nD n ∧ S' = S := by
  have h1 := len10 h
  have hbi := bInt_nS (S := S) h
  have hz : (numL n).length ≤ sizeLine := line_le (by omega)
  have hne := numL_ne n
  have hd := numL_digits n
  have hpos : 1 ≤ (numL n).length := by cases e : numL n with | nil => exact absurd e hne | cons a b => simp
  refine wp_def0 rfl ?_
  unfold b__number
  rw [nS_tx] at *
  have e1 : ∀ S, bLen [.str (tx (numL n))] S = .ok (.int ((numL n).length : Int)) S := fun S => len_tx hz
  have g1 : (1 : Int) ≤ ((numL n).length : Int) := by omega
  have g2 : ((numL n).length : Int) ≤ 10 := by omega
  have hz0 : ∃ c, oIx (.str (tx (numL n))) (.int 0) S = .ok (.str (tx [c])) S ∧ ((numL n).length > 1 → c ≠ 48) := by
    rcases Nat.eq_zero_or_pos n with rfl | h0
    · refine ⟨48, ?_, fun h => ?_⟩
      · rw [numL_lt (by decide)]; exact ix_tx (i := 0) rfl (line_le (by simp))
      · rw [numL_lt (by decide)] at h; simp at h
    · obtain ⟨c, r, e, hc⟩ := no_zero n h0
      refine ⟨c, ?_, fun _ => hc⟩
      rw [e] at hz ⊢
      exact ix_tx (i := 0) rfl hz
  obtain ⟨c, hc1, hc2⟩ := hz0
  have he : oEq (.str (tx [c])) (.str "0") S = .ok (.bl (decide (c = 48))) S := by
    rw [s0S, oEq_str]; simp
  have hl : ∀ o, Wp NoX (fLoop (.str (tx (numL n))) (gN 1) lb__number_0 0 [some (.str (tx (numL n))), o] S) fun r S' => S' = S ∧ ∃ o, r = .nx [some (.str (tx (numL n))), o] := fun o => by
    refine wp_fLoop (numL n).length (fun k l S' => S' = S ∧ ∃ o, l = [some (.str (tx (numL n))), o]) (fun l S' _ => ?_) (fun k l S' hk hI => ?_) (fun l S' hI => ?_) (numL n).length 0 _ S (by omega) ⟨rfl, o, rfl⟩
    · simp only [itGo]
      rw [← Array.getElem?_toList, tx_list, List.getElem?_eq_none (Nat.le_refl _)]; rfl
    · obtain ⟨rfl, o, rfl⟩ := hI
      refine ⟨.str (tx [(numL n)[k]]), ?_, ?_⟩
      · simp only [itGo]
        rw [← Array.getElem?_toList, tx_list, List.getElem?_eq_getElem hk]; rfl
      · have hin : oNotIn (.str (tx [(numL n)[k]])) d_DIGITS S' = .ok (.bl false) S' := by
          have : oNotIn (.str (tx [(numL n)[k]])) d_DIGITS S' = .ok (.bl (!decide ((numL n)[k] ∈ digS.cps.toList))) S' := rfl
          rw [this, decide_eq_true (digs (hd _ (List.getElem_mem hk)))]; rfl
        unfold lb__number_0
        simp_arith [hin]
        exact ⟨_, rfl⟩
    · obtain ⟨rfl, o, rfl⟩ := hI
      exact ⟨rfl, _, rfl⟩
  have hcond : ((numL n).length > 1 ∧ c = 48) = False := by simp; intro h1 h2; exact hc2 h1 h2
  by_cases h48 : c = 48
  · subst h48
    have g3 : ¬ (1 : Int) < ((numL n).length : Int) := by have := fun h => hc2 h rfl; omega
    simp_arith [v_chnB, k_cb, k_cb1, k_cb2t, k_cb3, e1, d_MOST_DIGITS, oLe_int, g1, g2, hc1, he, oGt_int, g3, oIt]
    refine (hl none).mono (fun _ _ _ _ h => h) ?_
    rintro r S' ⟨rfl, o, rfl⟩
    simp_arith [hbi]
  · simp_arith [v_chnB, k_cb, k_cb1, k_cb2t, k_cb3, e1, d_MOST_DIGITS, oLe_int, g1, g2, hc1, he, h48, oIt]
    refine (hl none).mono (fun _ _ _ _ h => h) ?_
    rintro r S' ⟨rfl, o, rfl⟩
    simp_arith [hbi]
end
end GK17
set_option Elab.async false
set_option linter.all false
set_option maxRecDepth 100000
namespace GK17
open PySem L2 Ly GK10 TL
open PySem.Spec hiding Row
open PyProof.Rows hiding St
def pS : D → Str
  | .str s => s
  | .int i => Str.ofString (toString i)
  | _ => Str.empty
def wOk (w : Str) : Prop := (∀ c ∈ tl w, c ≠ 32 ∧ c ≠ 10) ∧ w.length ≤ 10
def PartK (k : Str) (p : D) : Prop := (k = "sign" ∧ ∃ s ∈ signsL, p = .str s) ∨ (k ≠ "sign" ∧ ∃ n : Nat, n ≤ 4294967295 ∧ p = nD n)
def wordsB (w : Str) : Bool := w.cps.toList.all (fun c => !(c == 32) && !(c == 10)) && decide (w.length ≤ 10)
theorem wOk_of {w : Str} (h : wordsB w = true) : wOk w := by
  simp only [wordsB, Bool.and_eq_true, List.all_eq_true, Bool.not_eq_true', beq_eq_false_iff_ne, decide_eq_true_eq] at h
  exact ⟨h.1, h.2⟩
theorem words_all : ∀ s ∈ (["const", "op", "select", "load", "store", "out", "jump", "branch", "stop", "region"] : List Str) ++ signsL ++ (["public", "secret"] : List Str), wordsB s = true := by decide +kernel
theorem nS_len {n : Nat} (h : n ≤ 4294967295) : (nS n).length ≤ 10 := by rw [len_tl, tl_nS]; exact len10 h
theorem nS_ok {n : Nat} (h : n ≤ 4294967295) : wOk (nS n) := ⟨fun c hc => by
  rw [tl_nS] at hc
  have := numL_digits n c hc
  omega, nS_len h⟩
theorem wordR_ok (r : MRow) : wOk (wordR r) := wOk_of (words_all _ (by cases r <;> simp [wordR]))
theorem part_ok' {k : Str} {p : D} (h : PartK k p) : wOk (pS p) := by
  rcases h with ⟨_, s, hs, rfl⟩ | ⟨_, n, hn, rfl⟩
  · exact wOk_of (words_all _ (List.mem_append_left _ (List.mem_append_right _ hs)))
  · exact nS_ok hn
theorem partK_of {many : Nat} {k : Str} {p : D} (hm : many ≤ 100000) (h : partB many k p = true) : PartK k p := by
  unfold partB at h
  by_cases h1 : k = "sign"
  · rw [if_pos h1] at h
    cases p with
    | str s => exact .inl ⟨h1, s, by simpa [amD] using h, rfl⟩
    | _ => simp [amD] at h
  · rw [if_neg h1] at h
    have fin : ∀ lo hi : Int, 0 ≤ lo → hi ≤ 4294967295 → nmB lo hi p = true → PartK k p := fun lo hi h0 hh h => by
      cases p with
      | int i =>
        simp only [nmB, decide_eq_true_eq] at h
        obtain ⟨n, rfl⟩ := Int.eq_ofNat_of_zero_le (Int.le_trans h0 h.1)
        exact .inr ⟨h1, n, by omega, rfl⟩
      | _ => simp [nmB] at h
    by_cases h2 : k = "word"
    · rw [if_pos h2] at h; exact fin _ _ (by decide) (by decide) h
    · rw [if_neg h2] at h
      by_cases h3 : k = "base"
      · rw [if_pos h3] at h; exact fin _ _ (by decide) (by decide) h
      · rw [if_neg h3] at h
        by_cases h4 : k = "mask"
        · rw [if_pos h4] at h
          cases p with
          | int i =>
            simp only [mskB, Bool.and_eq_true, decide_eq_true_eq] at h
            obtain ⟨n, rfl⟩ := Int.eq_ofNat_of_zero_le h.1.1
            exact .inr ⟨h1, n, by omega, rfl⟩
          | _ => simp [mskB] at h
        · rw [if_neg h4] at h
          by_cases h5 : k = "target"
          · rw [if_pos h5] at h; exact fin _ _ (by decide) (by omega) h
          · rw [if_neg h5] at h; exact fin _ _ (by decide) (by decide) h
theorem partB_more {many m2 : Nat} {k : Str} {p : D} (hm : many ≤ m2) (h : partB many k p = true) : partB m2 k p = true := by
  unfold partB at h ⊢
  by_cases h1 : k = "sign"
  · rw [if_pos h1] at h ⊢; exact h
  · rw [if_neg h1] at h ⊢
    by_cases h2 : k = "word"
    · rw [if_pos h2] at h ⊢; exact h
    · rw [if_neg h2] at h ⊢
      by_cases h3 : k = "base"
      · rw [if_pos h3] at h ⊢; exact h
      · rw [if_neg h3] at h ⊢
        by_cases h4 : k = "mask"
        · rw [if_pos h4] at h ⊢; exact h
        · rw [if_neg h4] at h ⊢
          by_cases h5 : k = "target"
          · rw [if_pos h5] at h ⊢
            cases p with
            | int i => simp only [nmB, decide_eq_true_eq] at h ⊢; omega
            | _ => simp [nmB] at h
          · rw [if_neg h5] at h ⊢; exact h
theorem rowB_R {many : Nat} (r : MRow) : rowB many r.D = partsB many (fldR r) (ksR r) := by
  rw [D_R]
  simp only [rowB, look_R, (len_R r).1, decide_true, Bool.true_and]
theorem rowB_more {many m2 : Nat} {r : MRow} (hm : many ≤ m2) (h : rowB many r.D = true) : rowB m2 r.D = true := by
  rw [rowB_R] at h ⊢
  unfold partsB at h ⊢
  rw [List.all_eq_true] at h ⊢
  exact fun p hp => partB_more hm (h p hp)
def RowK (r : MRow) : Prop := ∀ p ∈ (fldR r).zip (ksR r), PartK p.2 p.1
theorem rowK_of {many : Nat} {r : MRow} (hm : many ≤ 100000) (h : rowB many r.D = true) : RowK r := by
  rw [rowB_R] at h
  unfold partsB at h
  rw [List.all_eq_true] at h
  exact fun p hp => partK_of hm (h p hp)
theorem RowK.fld {r : MRow} (h : RowK r) : ∀ p ∈ fldR r, ∃ k, PartK k p := fun p hp => by
  obtain ⟨i, hi⟩ := List.getElem?_of_mem hp
  have hl := (len_R r).1
  have hlt := (List.getElem?_eq_some_iff.mp hi).1
  refine ⟨(ksR r)[i], h (p, (ksR r)[i]) (List.mem_of_getElem? (i := i) ?_)⟩
  rw [List.getElem?_zip_eq_some]
  exact ⟨hi, List.getElem?_eq_getElem (by omega)⟩
structure GC (rs : List Rg) (rows : List MRow) : Prop where
  nr : rs.length ≤ 24
  nw : rows.length ≤ 24
  sz : ∀ r ∈ rs, 1 ≤ r.size ∧ r.size ≤ 4096 ∧ (r.label = "public" ∨ r.label = "secret")
  ba : Contig 0 rs
  bs : ∀ r ∈ rs, r.base ≤ 500000
  rw : ∀ r ∈ rows, rowB rows.length r.D = true
  cb : codeB (.tup [.tup (rs.map Rg.D), .tup (rows.map MRow.D)]) = true
  dt : Dt 24 3 (.tup [.tup (rs.map Rg.D), .tup (rows.map MRow.D)])
theorem regs_of : ∀ {rs : List Rg} {b : Nat}, regsB (b : Int) (rs.map Rg.D) = true → Contig b rs ∧ ∀ r ∈ rs, 1 ≤ r.size ∧ r.size ≤ 4096 ∧ (r.label = "public" ∨ r.label = "secret") ∧ r.base ≤ 500000
  | [], b, _ => ⟨trivial, by simp⟩
  | r :: rs, b, h => by
    rw [List.map_cons, regsB] at h
    cases e : regB (b : Int) r.D with
    | none => rw [e] at h; cases h
    | some b2 =>
      rw [e] at h
      simp only [Rg.D, regB] at e
      split at e
      · rename_i hc
        simp only [Option.some.injEq] at e
        have e2 : b2 = ((b + r.size : Nat) : Int) := by rw [← e]; simp
        simp only [Bool.and_eq_true, nmB, nD, decide_eq_true_eq, labB, amD, List.mem_cons, List.not_mem_nil, or_false] at hc
        rw [e2] at h
        obtain ⟨i1, i2⟩ := regs_of h
        refine ⟨⟨by omega, by omega, i1⟩, fun x hx => ?_⟩
        rcases List.mem_cons.mp hx with rfl | hx
        · exact ⟨by omega, by omega, hc.2, by omega⟩
        · exact i2 x hx
      · cases e
theorem GC.of {rs : List Rg} {rows : List MRow} (hc : codeB (.tup [.tup (rs.map Rg.D), .tup (rows.map MRow.D)]) = true) (hd : Dt 24 3 (.tup [.tup (rs.map Rg.D), .tup (rows.map MRow.D)])) : GC rs rows := by
  have h1 : rs.length ≤ 24 ∧ rows.length ≤ 24 := by
    have a := hd.part _ (List.mem_cons_self ..)
    have b := hd.part (.tup (rows.map MRow.D)) (by simp)
    constructor
    · cases a with | tup h _ => simpa using h
    · cases b with | tup h _ => simpa using h
  have hc' := hc
  simp only [codeB, Bool.and_eq_true, List.all_eq_true, List.length_map] at hc'
  obtain ⟨⟨⟨⟨_, c2⟩, _⟩, c4⟩, _⟩ := hc'
  obtain ⟨r1, r2⟩ := regs_of (b := 0) c2
  exact ⟨h1.1, h1.2, fun r hr => ⟨(r2 r hr).1, (r2 r hr).2.1, (r2 r hr).2.2.1⟩, r1, fun r hr => (r2 r hr).2.2.2, fun r hr => c4 _ (List.mem_map.mpr ⟨r, hr, rfl⟩), hc, hd⟩
def regW (r : Rg) : List Str := ["region", nS r.size, r.label]
def rowW (k : Nat) (r : MRow) : List Str := (nS k ++ ":") :: wordR r :: (fldR r).map pS
def lineT (ws : List Str) : List Nat := joinL [32] (ws.map tl)
def textT (wls : List (List Str)) : List Nat := (wls.map fun ws => lineT ws ++ [10]).flatten
def rowsW (rows : List MRow) : List (List Str) := rows.zipIdx.map fun p => rowW p.2 p.1
def allW (rs : List Rg) (rows : List MRow) : List (List Str) := rs.map regW ++ rowsW rows
theorem rowsW_snoc {a : List MRow} {x : MRow} : rowsW (a ++ [x]) = rowsW a ++ [rowW a.length x] := by
  unfold rowsW
  rw [List.zipIdx_append, List.map_append]; simp
theorem textT_snoc {a : List (List Str)} {x : List Str} : textT (a ++ [x]) = textT a ++ (lineT x ++ [10]) := by
  unfold textT; rw [List.map_append, List.flatten_append]; simp
theorem joinL_len (S : List Nat) : ∀ ps : List (List Nat), (joinL S ps).length ≤ (ps.map (fun p => p.length + S.length)).sum
  | [] => by simp [joinL]
  | [p] => by simp [joinL]
  | p :: q :: r => by
    have := joinL_len S (q :: r)
    simp only [joinL, List.length_append, List.map_cons, List.sum_cons] at this ⊢
    omega
theorem app_len (a b : Str) : (a ++ b).length = a.length + b.length := Array.size_append ..
theorem joinL_cons {S p : List Nat} : ∀ {ps : List (List Nat)}, joinL S (p :: ps) = p ++ (ps.map (S ++ ·)).flatten
  | [] => by simp [joinL]
  | q :: r => by
    rw [joinL, joinL_cons (ps := r)]
    simp
end GK17
set_option Elab.async false
set_option linter.all false
set_option maxRecDepth 100000
namespace GK17
open PySem L2 Ly GK10 TL
open PySem.Spec hiding Row
open PyProof.Rows hiding St
local macro_rules | `(tactic| simp_arith [$ls,*]) => `(tactic| simp only [Ly.line_le, Ly.atX_no, Ly.v_ok, Ly.v_bad, Ly.v_bind, Ly.k_bd, Ly.v_at, Ly.v_bin, Ly.k_bi, Ly.k_bi2, Ly.v_var, Ly.v_c, Ly.v_un, Ly.k_un, Ly.v_if, Ly.k_ife, Ly.v_and, Ly.k_and, Ly.k_and2, Ly.v_or, Ly.k_or, Ly.k_or2, Ly.v_tup, Ly.k_tup, Ly.v_lst, Ly.k_lst, Ly.v_call, Ly.k_ca, Ly.v_fn, Ly.k_fn, Ly.v_bm, Ly.k_bm, Ly.k_bm2, Ly.v_sl, Ly.k_sl, Ly.k_sl2, Ly.k_sl3, Ly.v_ixK, Ly.k_ixk, Ly.v_inK, Ly.k_ink, Ly.v_notinK, Ly.k_nink, Ly.v_getK2, Ly.k_gk2, Ly.k_gk, Ly.v_get2, Ly.k_g2, Ly.k_g22, Ly.k_g23, Ly.v_nil, Ly.v_cons, Ly.k_co, Ly.k_co2, Ly.v_no, Ly.v_some, Ly.k_so, Ly.k_cm, Ly.v_cmp, Ly.v_tru, Ly.k_tr, Ly.v_notB, Ly.k_no, Ly.v_andB, Ly.k_an, Ly.v_orB, Ly.k_orb, Ly.v_yes, Ly.v_inKB, Ly.k_inkB, Ly.v_notinKB, Ly.k_ninkB, Ly.v_set, Ly.k_st, Ly.v_expr, Ly.k_ex, Ly.v_ret, Ly.k_re, Ly.v_retN, Ly.v_pass, Ly.v_brk, Ly.v_cnt, Ly.v_seq, Ly.k_sq_nx, Ly.k_sq_rt, Ly.k_sq_bk, Ly.k_sq_ct, Ly.v_ifS, Ly.k_ifs, Ly.v_asg, Ly.k_as, Ly.k_as2, Ly.v_aug, Ly.k_au, Ly.v_for, Ly.k_fo, Ly.v_it, Ly.k_it, Ly.k_ij, Ly.v_rng1, Ly.v_rng2, Ly.v_enum, Ly.v_zip, Ly.v_ez, Ly.v_gN, Ly.v_gsN, Ly.v_gsC, Ly.k_gc, Ly.v_gT, Ly.v_gTw, Ly.v_gSb, Ly.k_gsb, Ly.k_gsb2, Ly.k_gsb3, Ly.k_en_rt, Ly.k_en_nx, Ly.k_tu_nx, Ly.k_tu_ct, Ly.k_tu_bk, Ly.k_tu_rt, Ly.v_lc, Ly.k_lc, Ly.v_augI, Ly.k_ag, Ly.k_ag2, Ly.k_ag3, Ly.k_ag4, Ly.k_ag5, Ly.v_del, Ly.k_dl, Ly.k_dl2, Ly.v_setd, Ly.v_pop2, Ly.k_d3, Ly.k_d32, Ly.k_d33, Ly.v_get1, Ly.k_g1, Ly.k_g12, Ly.v_rg1, Ly.k_rg, Ly.v_rg2, Ly.k_rg2, Ly.k_rg22, Ly.v_dicK, Ly.v_dicT, Ly.v_dc, Ly.k_dc, List.getElem?_cons_zero, List.getElem?_cons_succ, List.set_cons_zero, List.set_cons_succ, List.length_cons, List.length_nil, List.map_cons, List.map_nil, List.cons_append, List.nil_append, List.replicate, if_true, if_false, Bool.false_eq_true, Bool.not_true, Bool.not_false, Bool.true_and, Bool.false_and, decide_true, decide_false, decide_eq_true_eq, Nat.zero_add, Nat.reduceAdd, Nat.reduceLeDiff, true_and, and_true, $ls,*])
structure LW (ws : List Str) : Prop where
  w : ∀ w ∈ ws, w.length ≤ 11 ∧ ∀ c ∈ tl w, c ≠ 32 ∧ c ≠ 10
  n : ws.length ≤ 6
  ne : ws ≠ []
theorem colS : tl ((":" : Str)) = [58] ∧ ((":" : Str)).length = 1 := by decide +kernel
theorem spcS : tl ((" " : Str)) = [32] ∧ ((" " : Str)).length = 1 := by decide +kernel
theorem nlnS : tl (("\n" : Str)) = [10] ∧ (("\n" : Str)).length = 1 := by decide +kernel
theorem cosS : tl ((": " : Str)) = [58, 32] ∧ ((": " : Str)).length = 2 := by decide +kernel
theorem regS : tl (("region " : Str)) = tl (("region" : Str)) ++ [32] ∧ (("region " : Str)).length = 7 := by decide +kernel
theorem empS : tl (("" : Str)) = [] ∧ tl Str.empty = [] ∧ (("" : Str)).length = 0 ∧ Str.empty.length = 0 := by decide +kernel
theorem lab_len {s : Str} (h : s = "public" ∨ s = "secret") : wOk s := by
  rcases h with rfl | rfl <;> exact wOk_of (words_all _ (by simp))
theorem wOk.l {w : Str} (h : wOk w) : w.length ≤ 11 ∧ ∀ c ∈ tl w, c ≠ 32 ∧ c ≠ 10 := ⟨by have := h.2; omega, h.1⟩
theorem regW_ok {r : Rg} (h1 : r.size ≤ 4096) (h2 : r.label = "public" ∨ r.label = "secret") : LW (regW r) := by
  refine ⟨fun w hw => ?_, by simp [regW], by simp [regW]⟩
  simp only [regW, List.mem_cons, List.not_mem_nil, or_false] at hw
  rcases hw with rfl | rfl | rfl
  · exact (wOk_of (words_all _ (by simp))).l
  · exact (nS_ok (by omega)).l
  · exact (lab_len h2).l
theorem rowW_ok {r : MRow} (h : RowK r) {k : Nat} (hk : k ≤ 100000) : LW (rowW k r) := by
  refine ⟨fun w hw => ?_, by have := len_R r; simp [rowW]; omega, by simp [rowW]⟩
  simp only [rowW, List.mem_cons, List.mem_map] at hw
  rcases hw with rfl | rfl | ⟨p, hp, rfl⟩
  · have h1 := nS_ok (n := k) (by omega)
    refine ⟨by rw [app_len, colS.2]; have := h1.2; omega, fun c hc => ?_⟩
    rw [tl_append, colS.1] at hc
    rcases List.mem_append.mp hc with hc | hc
    · exact h1.1 c hc
    · simp at hc; omega
  · exact (wordR_ok r).l
  · obtain ⟨z, hz⟩ := h.fld p hp
    exact (part_ok' hz).l
theorem LW.len {ws : List Str} (h : LW ws) : (lineT ws).length ≤ 72 := by
  have h1 := joinL_len [32] (ws.map tl)
  have h2 : ∀ xs : List Str, (∀ w ∈ xs, w.length ≤ 11) → ((xs.map tl).map (fun p => p.length + [32].length)).sum ≤ 12 * xs.length := by
    intro xs
    induction xs with
    | nil => simp
    | cons x xs ih =>
      intro hx
      have a := ih fun w hw => hx w (List.mem_cons_of_mem _ hw)
      have b := hx x (List.mem_cons_self ..)
      rw [len_tl] at b
      simp only [List.map_cons, List.sum_cons, List.length_cons, List.length_nil] at a ⊢
      omega
  have h3 := h2 ws fun w hw => (h.w w hw).1
  have h4 := h.n
  unfold lineT
  omega
theorem textT_len {wls : List (List Str)} (h : ∀ ws ∈ wls, LW ws) : (textT wls).length ≤ 73 * wls.length := by
  induction wls with
  | nil => simp [textT]
  | cons a r ih =>
    have h1 := ih fun ws hw => h ws (List.mem_cons_of_mem _ hw)
    have h2 := (h a (List.mem_cons_self ..)).len
    unfold textT at h1 ⊢
    simp only [List.map_cons, List.flatten_cons, List.length_append, List.length_cons, List.length_nil] at h1 ⊢
    omega
theorem rowsW_mem {rows : List MRow} {ws : List Str} (h : ws ∈ rowsW rows) : ∃ k r, k < rows.length ∧ rows[k]? = some r ∧ ws = rowW k r := by
  unfold rowsW at h
  obtain ⟨p, hp, rfl⟩ := List.mem_map.mp h
  obtain ⟨i, hi⟩ := List.getElem?_of_mem hp
  rw [List.getElem?_zipIdx] at hi
  cases e : rows[i]? with
  | none => rw [e] at hi; cases hi
  | some r =>
    rw [e] at hi
    simp at hi
    subst hi
    exact ⟨i, r, (List.getElem?_eq_some_iff.mp e).1, e, rfl⟩
section
variable {rs : List Rg} {rows : List MRow} {S : Hs}
theorem GC.rk (g : GC rs rows) {r : MRow} (h : r ∈ rows) : RowK r := rowK_of (by have := g.nw; omega) (g.rw r h)
theorem GC.lw (g : GC rs rows) {a : List Rg} {b : List MRow} (ha : ∀ r ∈ a, r ∈ rs) (hb : ∀ r ∈ b, r ∈ rows) (hn : b.length ≤ 24) : ∀ ws ∈ a.map regW ++ rowsW b, LW ws := fun ws h => by
  rcases List.mem_append.mp h with h | h
  · obtain ⟨r, hr, rfl⟩ := List.mem_map.mp h
    have := g.sz r (ha r hr)
    exact regW_ok this.2.1 this.2.2
  · obtain ⟨k, r, hk, e, rfl⟩ := rowsW_mem h
    exact rowW_ok (g.rk (hb r (List.mem_of_getElem? e))) (by omega)
theorem GC.tlen (g : GC rs rows) {a : List Rg} {b : List MRow} (ha : ∀ r ∈ a, r ∈ rs) (hb : ∀ r ∈ b, r ∈ rows) (hna : a.length ≤ 24) (hn : b.length ≤ 24) {T : Str} (h : tl T = textT (a.map regW ++ rowsW b)) : T.length ≤ 4000 := by
  rw [len_tl, h]
  have := textT_len (g.lw ha hb hn)
  have h2 : (rowsW b).length = b.length := by simp [rowsW]
  rw [List.length_append, List.length_map, h2] at this
  omega
theorem wadd {X : XP} {a b : Str} {Q : D → Hs → Prop} (h : a.length + b.length ≤ 100000) (hQ : Q (.str (a ++ b)) S) : Wp X (oAdd (.str a) (.str b) S) Q := by
  simp only [oAdd, if_pos (show a.length + b.length ≤ sizeLine from line_le (by omega))]
  exact ⟨hQ⟩
theorem bStr_p {k : Str} {p : D} (h : PartK k p) : bStr [p] S = .ok (.str (pS p)) S := by
  rcases h with ⟨_, s, hs, rfl⟩ | ⟨_, n, hn, rfl⟩
  · rfl
  · have : ((n : Nat) : Int).natAbs.log2 < 1920 := by
      rw [Int.natAbs_natCast]
      rcases Nat.eq_zero_or_pos n with rfl | h0
      · decide
      · have := (Nat.log2_lt (by omega)).mpr (show n < 2 ^ 32 by rw [pow_big (n := 0)]; omega); omega
    simp only [bStr, if_pos this]; rfl
theorem bStr_n {n : Nat} (hn : n ≤ 4294967295) : bStr [nD n] S = .ok (.str (nS n)) S := bStr_p (k := "") (.inr ⟨by simp [ofString_inj], n, hn, rfl⟩)
def codeV (rs : List Rg) (rows : List MRow) : D := .tup [.tup (rs.map Rg.D), .tup (rows.map MRow.D)]
theorem listing_ok (g : GC rs rows) : Wp NoX (m__law_listing [codeV rs rows] S) fun v S' => S' = S ∧ ∃ T, v = .str T ∧ tl T = textT (allW rs rows) := by
  refine wp_def0 rfl ?_
  unfold b__law_listing
  have hnr := g.nr
  have hnw := g.nw
  simp_arith [codeV, tix0, oIt, -v_seq]
  rw [v_seq]
  simp_arith [-v_seq]
  rw [v_seq]
  simp_arith [codeV, tix0, oIt, -v_seq]
  refine wp_tupM Rg.D (xs := rs) (fun pre l S' => S' = S ∧ ∃ (T : Str) (o2 o3 o4 : Option D), l = [some (codeV rs rows), some (.str T), o2, o3, o4, none, none] ∧ tl T = textT (pre.map regW)) ⟨rfl, _, _, _, _, rfl, by simp [textT, empS.1]⟩ ?_ ?_
  · rintro pre r post l S' hsp ⟨rfl, T, o2, o3, o4, rfl, hT⟩
    have hr : r ∈ rs := by rw [hsp]; simp
    obtain ⟨s1, s2, s3⟩ := g.sz r hr
    have hT0 : T.length ≤ 4000 := by
      have hl : rs.length = pre.length + (post.length + 1) := by rw [hsp]; simp
      exact g.tlen (a := pre) (b := []) (fun x hx => by rw [hsp]; simp [hx]) (by simp) (by omega) (by simp) (by simpa [rowsW] using hT)
    have n1 := nS_len (n := r.size) (by omega)
    have n2 := (lab_len s3).2
    unfold lb__law_listing_0
    simp_arith [Rg.D, v_gT]
    refine wadd (by rw [regS.2]; omega) ?_
    simp_arith [bStr_n (n := r.size) (by omega)]
    refine wadd (by simp only [app_len, regS.2]; omega) ?_
    simp_arith []
    refine wadd (by simp only [app_len, regS.2, spcS.2]; omega) ?_
    simp_arith []
    refine wadd (by simp only [app_len, regS.2, spcS.2]; omega) ?_
    simp_arith []
    refine wadd (by simp only [app_len, regS.2, spcS.2, nlnS.2]; omega) ?_
    simp_arith []
    refine ⟨_, _, _, _, rfl, ?_⟩
    rw [List.map_append, List.map_cons, List.map_nil, textT_snoc, ← hT]
    simp only [tl_append, regS.1, spcS.1, nlnS.1, tl_nS, lineT, regW, List.map_cons, List.map_nil, joinL, List.append_assoc, List.cons_append, List.nil_append]
  · rintro l S' ⟨rfl, T, o2, o3, o4, rfl, hT⟩
    simp_arith [-v_seq]
    rw [v_seq]
    simp_arith [codeV, tix1, bLen_tup, List.length_map, rng1 (n := (rows.length : Int)) S' (by omega) (by omega), Int.toNat_natCast, -v_seq]
    refine wp_rng (fun k l S2 => S2 = S' ∧ k ≤ rows.length ∧ ∃ (T : Str) (o2 o3 o4 o5 o6 : Option D), l = [some (codeV rs rows), some (.str T), o2, o3, o4, o5, o6] ∧ tl T = textT (rs.map regW ++ rowsW (rows.take k))) ⟨rfl, by omega, _, _, _, _, _, _, rfl, by simpa [rowsW] using hT⟩ ?_ ?_
    · rintro k l S2 hk ⟨rfl, -, T, o2, o3, o4, o5, o6, rfl, hT⟩
      have hT0 : T.length ≤ 4000 := g.tlen (a := rs) (b := rows.take k) (fun x hx => hx) (fun x hx => List.mem_of_mem_take hx) hnr (by simp; omega) hT
      have hrow : rows[k]? = some rows[k] := List.getElem?_eq_getElem hk
      have hrk := g.rk (List.getElem_mem hk)
      have e0 : (0 : Int) + (k : Int) = ((k : Nat) : Int) := by omega
      have n1 := nS_len (n := k) (by omega)
      have ex : ∀ S, oIx (.tup (rows.map MRow.D)) (nD k) S = .ok rows[k].D S := fun S => oIx_tup (by rw [List.getElem?_map, hrow]; rfl)
      have hlR := len_R rows[k]
      unfold lb__law_listing_2
      rw [e0]
      simp_arith [-v_seq]
      rw [v_seq]
      simp_arith [bStr_n (n := k) (by omega), -v_seq]
      refine wadd (by omega) ?_
      simp_arith [-v_seq]
      refine wadd (by simp only [app_len, colS.2]; omega) ?_
      simp_arith [-v_seq]
      rw [v_seq]
      simp_arith [codeV, tix1, ex, D_R, oIt, -v_seq]
      refine wp_tup (fun pre l S3 => S3 = S2 ∧ ∃ (T' : Str) (o2 o3 o4 o6 : Option D), l = [some (codeV rs rows), some (.str T'), o2, o3, o4, some (nD k), o6] ∧ pre.length ≤ 5 ∧ T'.length ≤ T.length + 11 + 11 * pre.length ∧ tl T' = tl T ++ numL k ++ [58] ++ (pre.map fun p => 32 :: tl (pS p)).flatten) ⟨rfl, _, _, _, _, _, rfl, by simp, by simp only [app_len, colS.2, List.length_nil]; omega, by simp [tl_append, colS.1, tl_nS]⟩ ?_ ?_
      · rintro pre p post l S3 hsp ⟨rfl, T', q2, q3, q4, q6, rfl, hp5, hTl, hT'⟩
        have hpl : pre.length < 5 := by
          have := congrArg List.length hsp
          simp at this; omega
        have hpw : wOk (pS p) ∧ ∀ S, bStr [p] S = .ok (.str (pS p)) S := by
          have hm : p ∈ D.str (wordR rows[k]) :: fldR rows[k] := by rw [hsp]; simp
          rcases List.mem_cons.mp hm with rfl | hm
          · exact ⟨wordR_ok _, fun S => rfl⟩
          · obtain ⟨z, hz⟩ := hrk.fld p hm
            exact ⟨part_ok' hz, fun S => bStr_p hz⟩
        obtain ⟨hw, hbs⟩ := hpw
        have := hw.2
        unfold lb__law_listing_1
        simp_arith []
        refine wadd (by simp only [spcS.2]; omega) ?_
        simp_arith [hbs]
        refine wadd (by simp only [app_len, spcS.2]; omega) ?_
        simp_arith []
        refine ⟨_, _, _, _, _, rfl, by simp; omega, by simp only [app_len, spcS.2, List.length_append, List.length_singleton]; omega, ?_⟩
        rw [List.map_append, List.flatten_append]
        simp [tl_append, spcS.1, hT']
      · rintro l S3 ⟨rfl, T', q2, q3, q4, q6, rfl, hp5, hTl, hT'⟩
        simp_arith []
        refine wadd (by simp only [nlnS.2]; omega) ?_
        simp_arith []
        refine ⟨by omega, _, _, _, _, _, _, rfl, ?_⟩
        rw [take_at hrow, rowsW_snoc, ← List.append_assoc, textT_snoc, ← hT, tl_append, nlnS.1, hT']
        have hlk : (rows.take k).length = k := by simp; omega
        rw [hlk]
        simp [lineT, rowW, joinL_cons, tl_append, colS.1, tl_nS, pS, Function.comp_def]
    · rintro l S2 ⟨rfl, -, T, o2, o3, o4, o5, o6, rfl, hT⟩
      simp_arith []
      refine ⟨_, rfl, ?_⟩
      rw [hT, List.take_length]; rfl
end
end GK17
set_option Elab.async false
set_option linter.all false
set_option maxRecDepth 100000
namespace GK17
open PySem L2 Ly GK10 TL
open PySem.Spec hiding Row
open PyProof.Rows hiding St
local macro_rules | `(tactic| simp_arith [$ls,*]) => `(tactic| simp only [Ly.line_le, Ly.atX_no, Ly.v_ok, Ly.v_bad, Ly.v_bind, Ly.k_bd, Ly.v_at, Ly.v_bin, Ly.k_bi, Ly.k_bi2, Ly.v_var, Ly.v_c, Ly.v_un, Ly.k_un, Ly.v_if, Ly.k_ife, Ly.v_and, Ly.k_and, Ly.k_and2, Ly.v_or, Ly.k_or, Ly.k_or2, Ly.v_tup, Ly.k_tup, Ly.v_lst, Ly.k_lst, Ly.v_call, Ly.k_ca, Ly.v_fn, Ly.k_fn, Ly.v_bm, Ly.k_bm, Ly.k_bm2, Ly.v_sl, Ly.k_sl, Ly.k_sl2, Ly.k_sl3, Ly.v_ixK, Ly.k_ixk, Ly.v_inK, Ly.k_ink, Ly.v_notinK, Ly.k_nink, Ly.v_getK2, Ly.k_gk2, Ly.k_gk, Ly.v_get2, Ly.k_g2, Ly.k_g22, Ly.k_g23, Ly.v_nil, Ly.v_cons, Ly.k_co, Ly.k_co2, Ly.v_no, Ly.v_some, Ly.k_so, Ly.k_cm, Ly.v_cmp, Ly.v_tru, Ly.k_tr, Ly.v_notB, Ly.k_no, Ly.v_andB, Ly.k_an, Ly.v_orB, Ly.k_orb, Ly.v_yes, Ly.v_inKB, Ly.k_inkB, Ly.v_notinKB, Ly.k_ninkB, Ly.v_set, Ly.k_st, Ly.v_expr, Ly.k_ex, Ly.v_ret, Ly.k_re, Ly.v_retN, Ly.v_pass, Ly.v_brk, Ly.v_cnt, Ly.v_seq, Ly.k_sq_nx, Ly.k_sq_rt, Ly.k_sq_bk, Ly.k_sq_ct, Ly.v_ifS, Ly.k_ifs, Ly.v_asg, Ly.k_as, Ly.k_as2, Ly.v_aug, Ly.k_au, Ly.v_for, Ly.k_fo, Ly.v_it, Ly.k_it, Ly.k_ij, Ly.v_rng1, Ly.v_rng2, Ly.v_enum, Ly.v_zip, Ly.v_ez, Ly.v_gN, Ly.v_gsN, Ly.v_gsC, Ly.k_gc, Ly.v_gT, Ly.v_gTw, Ly.v_gSb, Ly.k_gsb, Ly.k_gsb2, Ly.k_gsb3, Ly.k_en_rt, Ly.k_en_nx, Ly.k_tu_nx, Ly.k_tu_ct, Ly.k_tu_bk, Ly.k_tu_rt, Ly.v_lc, Ly.k_lc, Ly.v_augI, Ly.k_ag, Ly.k_ag2, Ly.k_ag3, Ly.k_ag4, Ly.k_ag5, Ly.v_del, Ly.k_dl, Ly.k_dl2, Ly.v_setd, Ly.v_pop2, Ly.k_d3, Ly.k_d32, Ly.k_d33, Ly.v_get1, Ly.k_g1, Ly.k_g12, Ly.v_rg1, Ly.k_rg, Ly.v_rg2, Ly.k_rg2, Ly.k_rg22, Ly.v_dicK, Ly.v_dicT, Ly.v_dc, Ly.k_dc, List.getElem?_cons_zero, List.getElem?_cons_succ, List.set_cons_zero, List.set_cons_succ, List.length_cons, List.length_nil, List.map_cons, List.map_nil, List.cons_append, List.nil_append, List.replicate, if_true, if_false, Bool.false_eq_true, Bool.not_true, Bool.not_false, Bool.true_and, Bool.false_and, decide_true, decide_false, decide_eq_true_eq, Nat.zero_add, Nat.reduceAdd, Nat.reduceLeDiff, true_and, and_true, $ls,*])
section
variable {S : Hs}
theorem wp_enumA {X : XP} {s : Sq} {xs : List D} {gg : MG} {b : MS} {l : Ls} {Q : F → Hs → Prop} (Inv : Nat → Ls → Hs → Prop) (hat : ∀ k l S, Inv k l S → s.at S = some xs) (h0 : Inv 0 l S)
    (hs : ∀ k l S x, xs[k]? = some x → Inv k l S → Wp X (gg (.tup [.int k, x]) l S) fun l1 S1 => Wp X (b l1 S1) (tuK (Inv (k + 1)) Q)) (hd : ∀ l S, Inv xs.length l S → Q (.nx l) S) : Wp X (fLoop (.enum s) gg b 0 l S) Q := by
  refine wp_fLoop xs.length Inv (fun l S h => ?_) (fun k l S hk h => ?_) hd xs.length 0 l S (by omega) h0
  · simp [itGo, hat _ _ _ h]
  · have e1 : xs[k]? = some xs[k] := List.getElem?_eq_getElem hk
    exact ⟨.tup [.int k, xs[k]], by simp [itGo, hat _ _ _ h, e1]; omega, hs k l S _ e1 h⟩
theorem strsD_map : ∀ ys : List Str, strsD (ys.map D.str) = some ys
  | [] => rfl
  | y :: ys => by simp [strsD, strsD_map ys]
theorem oJoin_lst {q : Nat} {ys : List Str} {a : Str} (h : S[q]? = some (.lst (ys.map D.str))) (hl : (ys.map (·.length)).sum + ys.length * a.length ≤ 16777216) : oJoin (.str a) [.ref q] S = .ok (.str (Txt.join a ys)) S := by
  simp only [oJoin, seqD, h, Option.bind_some, strsD_map]
  rw [if_pos hl]
theorem sum_lens {ys : List Str} {n : Nat} (h : ∀ y ∈ ys, y.length ≤ n) : (ys.map (·.length)).sum ≤ n * ys.length := by
  induction ys with
  | nil => simp
  | cons y ys ih =>
    have a := ih fun x hx => h x (List.mem_cons_of_mem _ hx)
    have b := h y (List.mem_cons_self ..)
    simp only [List.map_cons, List.sum_cons, List.length_cons]
    rw [Nat.mul_succ]; omega
theorem joinL_nil : ∀ ps : List (List Nat), joinL [] ps = ps.flatten
  | [] => rfl
  | [p] => by simp [joinL]
  | p :: q :: r => by rw [joinL, joinL_nil (q :: r)]; simp
variable {rs : List Rg} {rows : List MRow}
def regStr (r : Rg) : Str := Str.empty ++ ("region " : Str) ++ nS r.size ++ (" " : Str) ++ r.label ++ ("\n" : Str)
theorem tl_regStr (r : Rg) : tl (regStr r) = lineT (regW r) ++ [10] := by
  unfold regStr
  simp only [tl_append, regS.1, spcS.1, nlnS.1, empS.2.1, tl_nS, lineT, regW, List.map_cons, List.map_nil, joinL, List.append_assoc, List.cons_append, List.nil_append]
theorem write_ok (g : GC rs rows) : Wp NoX (m_write_listing [codeV rs rows] S) fun v S' => Kp [] S S' ∧ ∃ T, v = .str T ∧ tl T = textT (allW rs rows) := by
  refine wp_def0 rfl ?_
  unfold b_write_listing
  have hnr := g.nr
  have hnw := g.nw
  rw [v_seq]
  simp_arith [codeV, tix0, oIt, wipeL, -v_seq]
  refine lc_pure Rg.D (xs := rs) (fun r => some (.str (regStr r))) (fun S' _ k _ => by simp [itGo]) (by omega) (fun r hr S' hS' => ?_) (fun S' h1 h2 => ?_)
  · obtain ⟨s1, s2, s3⟩ := g.sz r hr
    have n1 := nS_len (n := r.size) (by omega)
    have n2 := (lab_len s3).2
    have hlog : ((r.size : Nat) : Int).natAbs.log2 < 1920 := by
      rw [Int.natAbs_natCast]
      have := (Nat.log2_lt (by omega)).mpr (show r.size < 2 ^ 32 by rw [pow_big (n := 0)]; omega); omega
    refine ⟨[some (codeV rs rows), none, none, none, some (nD r.base), some (nD r.size), some (.str r.label), none], rfl, ?_⟩
    have l0 : r.label.length ≤ sizeLine := line_le (by omega)
    have l1 : (Str.empty ++ ("region " : Str)).length ≤ sizeLine := line_le (by simp only [app_len, empS.2.2.2, regS.2]; omega)
    have l2 : (Str.empty ++ ("region " : Str) ++ nS r.size).length ≤ sizeLine := line_le (by simp only [app_len, empS.2.2.2, regS.2]; omega)
    have l3 : (Str.empty ++ ("region " : Str) ++ nS r.size ++ (" " : Str)).length ≤ sizeLine := line_le (by simp only [app_len, empS.2.2.2, regS.2, spcS.2]; omega)
    have l4 : (Str.empty ++ ("region " : Str) ++ nS r.size ++ (" " : Str) ++ r.label).length ≤ sizeLine := line_le (by simp only [app_len, empS.2.2.2, regS.2, spcS.2]; omega)
    have l5 : (Str.empty ++ ("region " : Str) ++ nS r.size ++ (" " : Str) ++ r.label ++ ("\n" : Str)).length ≤ sizeLine := line_le (by simp only [app_len, empS.2.2.2, regS.2, spcS.2, nlnS.2]; omega)
    simp_arith [v_js, k_js, v_js0, v_fmt, k_fm, k_fmI, hlog, l0, l1, l2, l3, l4, l5]
    exact ⟨Kp.refl, Kp.refl, rfl⟩
  · rw [List.filterMap_eq_map'] at h1
    have h1' : S'[S.length]? = some (.lst ((rs.map regStr).map D.str)) := by rw [h1, List.map_map]; rfl
    simp_arith [-v_seq]
    rw [v_seq]
    simp_arith [codeV, tix1, oEnum, sqOf, -v_seq]
    refine wp_enumA (fun k l S2 => k ≤ rows.length ∧ (∃ (o2 o3 o4 o5 o6 o7 : Option D), l = [some (codeV rs rows), some (.ref S.length), o2, o3, o4, o5, o6, o7]) ∧ Kp [] S S2 ∧ ∃ ys : List Str, S2[S.length]? = some (.lst (ys.map D.str)) ∧ ys.map tl = (rs.map regW ++ rowsW (rows.take k)).map (fun ws => lineT ws ++ [10])) (fun _ _ _ _ => rfl) ⟨by omega, ⟨_, _, _, _, _, _, rfl⟩, h2, _, h1', by rw [List.map_map]; simp [rowsW, tl_regStr, Function.comp_def]⟩ ?_ ?_
    · rintro k l S2 x hx ⟨-, ⟨o2, o3, o4, o5, o6, o7, rfl⟩, hK, ys, hys, hyt⟩
      have hk : k < rows.length := by simpa using (List.getElem?_eq_some_iff.mp hx).1
      have hrow : rows[k]? = some rows[k] := List.getElem?_eq_getElem hk
      have ex : x = rows[k].D := by rw [List.getElem?_map, hrow] at hx; exact (Option.some.inj hx).symm
      subst ex
      have hrk := g.rk (List.getElem_mem hk)
      have hlR := len_R rows[k]
      have n1 := nS_len (n := k) (by omega)
      have hlog : ((k : Nat) : Int).natAbs.log2 < 1920 := by
        rw [Int.natAbs_natCast]
        rcases Nat.eq_zero_or_pos k with rfl | h0
        · decide
        · have := (Nat.log2_lt (by omega)).mpr (show k < 2 ^ 32 by rw [pow_big (n := 0)]; omega); omega
      have l1 : (Str.empty ++ nS k).length ≤ sizeLine := line_le (by simp only [app_len, empS.2.2.2]; omega)
      have l2 : (Str.empty ++ nS k ++ (": " : Str)).length ≤ sizeLine := line_le (by simp only [app_len, empS.2.2.2, cosS.2]; omega)
      have hyl : ys.length ≤ 48 := by
        have e1 := congrArg List.length hyt
        have e2 : (rowsW (rows.take k)).length ≤ 24 := by simp [rowsW]; omega
        simp only [List.length_map, List.length_append] at e1; omega
      have hyq : S.length < S2.length := Real.lt hys
      unfold lb_write_listing_0
      simp_arith [v_gT, hasTy_lst hys, v_js, k_js, v_js0, v_fmt, k_fmI, hlog, l1, l2, D_R, oIt, wipe1, hasTy_str]
      refine lc_pure (fun p : D => p) (xs := D.str (wordR rows[k]) :: fldR rows[k]) (fun p => some (.str (pS p))) (fun S' _ k _ => by simp [itGo]) (by simp; omega) (fun p hp S' hS' => ?_) (fun S3 h3 hK3 => ?_)
      · have hbs : ∀ S, bStr [p] S = .ok (.str (pS p)) S := by
          rcases List.mem_cons.mp hp with rfl | hm
          · exact fun S => rfl
          · obtain ⟨z, hz⟩ := hrk.fld p hm
            exact fun S => bStr_p hz
        refine ⟨_, rfl, ?_⟩
        simp_arith [hbs]
        exact ⟨Kp.refl, Kp.refl⟩
      · rw [List.filterMap_eq_map'] at h3
        have h3' : S3[S2.length]? = some (.lst ((wordR rows[k] :: (fldR rows[k]).map pS).map D.str)) := by rw [h3]; simp [pS, Function.comp_def]
        have hw10 : ∀ y ∈ wordR rows[k] :: (fldR rows[k]).map pS, y.length ≤ 10 := fun y hy => by
          rcases List.mem_cons.mp hy with rfl | hy
          · exact (wordR_ok _).2
          · obtain ⟨p, hp, rfl⟩ := List.mem_map.mp hy
            obtain ⟨z, hz⟩ := hrk.fld p hp
            exact (part_ok' hz).2
        have hsum := sum_lens hw10
        have hlen5 : (wordR rows[k] :: (fldR rows[k]).map pS).length ≤ 5 := by simp; omega
        have ej := oJoin_lst (a := " ") h3' (by rw [spcS.2]; omega)
        have hjt : tl (Txt.join (" " : Str) (wordR rows[k] :: (fldR rows[k]).map pS)) = joinL [32] ((wordR rows[k] :: (fldR rows[k]).map pS).map tl) := by rw [join_eq, tl_join, spcS.1]
        have hjl : (Txt.join (" " : Str) (wordR rows[k] :: (fldR rows[k]).map pS)).length ≤ 100 := by
          rw [len_tl, hjt]
          have a := joinL_len [32] ((wordR rows[k] :: (fldR rows[k]).map pS).map tl)
          have b : (((wordR rows[k] :: (fldR rows[k]).map pS).map tl).map (fun p => p.length + [32].length)).sum ≤ 11 * (wordR rows[k] :: (fldR rows[k]).map pS).length := by
            generalize wordR rows[k] :: (fldR rows[k]).map pS = zs at hw10
            clear hlen5 hsum ej hjt h3' a
            induction zs with
            | nil => simp
            | cons z zs ih =>
              have b1 := ih fun y hy => hw10 y (List.mem_cons_of_mem _ hy)
              have b2 := hw10 z (List.mem_cons_self ..)
              rw [len_tl] at b2
              simp only [List.map_cons, List.sum_cons, List.length_cons, List.length_nil] at b1 ⊢
              omega
          omega
        simp_arith [ej]
        have n1' : (Str.ofString (toString ((k : Nat) : Int))).length ≤ 10 := n1
        refine wadd (by simp only [app_len, empS.2.2.2, cosS.2]; omega) ?_
        simp_arith []
        refine wadd (by simp only [app_len, empS.2.2.2, cosS.2, nlnS.2]; omega) ?_
        have hys3 := hK3.get hys (by simp)
        simp_arith [oAppend_lst hys3 (by simp only [List.length_map]; exact line_big (by omega))]
        refine ⟨by omega, ⟨_, _, _, _, _, _, rfl⟩, (hK.trans hK3).setNew (Nat.le_refl _), ys ++ [Str.empty ++ nS k ++ (": " : Str) ++ Txt.join (" " : Str) (wordR rows[k] :: (fldR rows[k]).map pS) ++ ("\n" : Str)], by rw [get_put hys3, List.map_append]; rfl, ?_⟩
        rw [take_at hrow, rowsW_snoc, ← List.append_assoc, List.map_append, List.map_append, hyt]
        have hlk : (rows.take k).length = k := by simp; omega
        rw [hlk]
        simp only [List.map_cons, List.map_nil, tl_append, hjt, empS.2.1, cosS.1, nlnS.1, tl_nS, lineT, rowW, joinL_cons, colS.1, List.map_map, List.nil_append]
        simp [Function.comp_def]
    · rintro l S2 ⟨-, ⟨o2, o3, o4, o5, o6, o7, rfl⟩, hK, ys, hys, hyt⟩
      rw [List.length_map, List.take_length] at hyt
      have hyl : ys.length ≤ 48 := by
        have e1 := congrArg List.length hyt
        have e2 : (rowsW rows).length ≤ 24 := by simp [rowsW]; omega
        simp only [List.length_map, List.length_append] at e1; omega
      have hyy : ∀ y ∈ ys, y.length ≤ 73 := fun y hy => by
        have : tl y ∈ ys.map tl := List.mem_map.mpr ⟨y, hy, rfl⟩
        rw [hyt] at this
        obtain ⟨ws, hws, e⟩ := List.mem_map.mp this
        have := (g.lw (a := rs) (b := rows) (fun _ h => h) (fun _ h => h) hnw ws hws).len
        rw [len_tl, ← e]; simp; omega
      have hsum := sum_lens hyy
      have ej := oJoin_lst (a := "") hys (by rw [empS.2.2.1]; omega)
      simp_arith [hasTy_str, ej]
      refine ⟨hK, _, rfl, ?_⟩
      rw [join_eq, tl_join, empS.1, joinL_nil, hyt]; rfl
end
end GK17
set_option Elab.async false
set_option linter.all false
set_option maxRecDepth 100000
namespace GK17
open PySem L2 Ly GK10 TL
open PySem.Spec hiding Row
open PyProof.Rows hiding St
local macro_rules | `(tactic| simp_arith [$ls,*]) => `(tactic| simp only [Ly.line_le, Ly.atX_no, Ly.v_ok, Ly.v_bad, Ly.v_bind, Ly.k_bd, Ly.v_at, Ly.v_bin, Ly.k_bi, Ly.k_bi2, Ly.v_var, Ly.v_c, Ly.v_un, Ly.k_un, Ly.v_if, Ly.k_ife, Ly.v_and, Ly.k_and, Ly.k_and2, Ly.v_or, Ly.k_or, Ly.k_or2, Ly.v_tup, Ly.k_tup, Ly.v_lst, Ly.k_lst, Ly.v_call, Ly.k_ca, Ly.v_fn, Ly.k_fn, Ly.v_bm, Ly.k_bm, Ly.k_bm2, Ly.v_sl, Ly.k_sl, Ly.k_sl2, Ly.k_sl3, Ly.v_ixK, Ly.k_ixk, Ly.v_inK, Ly.k_ink, Ly.v_notinK, Ly.k_nink, Ly.v_getK2, Ly.k_gk2, Ly.k_gk, Ly.v_get2, Ly.k_g2, Ly.k_g22, Ly.k_g23, Ly.v_nil, Ly.v_cons, Ly.k_co, Ly.k_co2, Ly.v_no, Ly.v_some, Ly.k_so, Ly.k_cm, Ly.v_cmp, Ly.v_tru, Ly.k_tr, Ly.v_notB, Ly.k_no, Ly.v_andB, Ly.k_an, Ly.v_orB, Ly.k_orb, Ly.v_yes, Ly.v_inKB, Ly.k_inkB, Ly.v_notinKB, Ly.k_ninkB, Ly.v_set, Ly.k_st, Ly.v_expr, Ly.k_ex, Ly.v_ret, Ly.k_re, Ly.v_retN, Ly.v_pass, Ly.v_brk, Ly.v_cnt, Ly.v_seq, Ly.k_sq_nx, Ly.k_sq_rt, Ly.k_sq_bk, Ly.k_sq_ct, Ly.v_ifS, Ly.k_ifs, Ly.v_asg, Ly.k_as, Ly.k_as2, Ly.v_aug, Ly.k_au, Ly.v_for, Ly.k_fo, Ly.v_it, Ly.k_it, Ly.k_ij, Ly.v_rng1, Ly.v_rng2, Ly.v_enum, Ly.v_zip, Ly.v_ez, Ly.v_gN, Ly.v_gsN, Ly.v_gsC, Ly.k_gc, Ly.v_gT, Ly.v_gTw, Ly.v_gSb, Ly.k_gsb, Ly.k_gsb2, Ly.k_gsb3, Ly.k_en_rt, Ly.k_en_nx, Ly.k_tu_nx, Ly.k_tu_ct, Ly.k_tu_bk, Ly.k_tu_rt, Ly.v_lc, Ly.k_lc, Ly.v_augI, Ly.k_ag, Ly.k_ag2, Ly.k_ag3, Ly.k_ag4, Ly.k_ag5, Ly.v_del, Ly.k_dl, Ly.k_dl2, Ly.v_setd, Ly.v_pop2, Ly.k_d3, Ly.k_d32, Ly.k_d33, Ly.v_get1, Ly.k_g1, Ly.k_g12, Ly.v_rg1, Ly.k_rg, Ly.v_rg2, Ly.k_rg2, Ly.k_rg22, Ly.v_dicK, Ly.v_dicT, Ly.v_dc, Ly.k_dc, List.getElem?_cons_zero, List.getElem?_cons_succ, List.set_cons_zero, List.set_cons_succ, List.length_cons, List.length_nil, List.map_cons, List.map_nil, List.cons_append, List.nil_append, List.replicate, if_true, if_false, Bool.false_eq_true, Bool.not_true, Bool.not_false, Bool.true_and, Bool.false_and, decide_true, decide_false, decide_eq_true_eq, Nat.zero_add, Nat.reduceAdd, Nat.reduceLeDiff, true_and, and_true, $ls,*])
section
variable {S S' S0 : Hs} {cA : Nat → Addr} {C : Addr} {q qr qw b w : Nat} {pre : List Rg} {rws : List MRow} {B : List Nat}
structure LA (C : Addr) (S : Hs) (q qr qw b : Nat) (pre : List Rg) (rws : List MRow) : Prop where
  i : S[q]? = some (.ins C [("regions", .ref qr), ("base", nD b), ("rows", .ref qw)])
  r : S[qr]? = some (.lst (pre.map Rg.D))
  w : S[qw]? = some (.lst (rws.map MRow.D))
  n1 : q ≠ qr
  n2 : q ≠ qw
  n3 : qr ≠ qw
theorem LA.kp (h : LA C S q qr qw b pre rws) (k : Kp B S S') (h1 : q ∉ B) (h2 : qr ∉ B) (h3 : qw ∉ B) : LA C S' q qr qw b pre rws := ⟨k.get h.i h1, k.get h.r h2, k.get h.w h3, h.n1, h.n2, h.n3⟩
theorem part_okN {z : Str} {p : D} (h : PartK z p) : Wp NoX (m__part [.str (pS p), .str z] S) fun v S' => v = p ∧ S' = S := by
  refine wp_def0 rfl ?_
  unfold b__part
  rcases h with ⟨rfl, s, hs, rfl⟩ | ⟨hz, n, hn, rfl⟩
  · simp_arith [oEq_str]; rfl
  · simp_arith [oEq_str, hz]
    refine (number_ok hn).mono (fun _ _ _ _ h => h) ?_
    rintro _ S' ⟨rfl, rfl⟩
    exact ⟨rfl, rfl⟩
theorem tru_lst {i : Nat} {xs : List D} (h : S[i]? = some (.lst xs)) : oTru (.ref i) S = .ok (!xs.isEmpty) S := by simp [oTru, tru, h]
theorem take_reg (h : LA (cA 0) S q qr qw b pre []) {r : Rg} (hw : S[w]? = some (.lst ((regW r).map D.str))) (hp : pre.length ≤ 100) (hb : b ≤ 500000) (hrb : r.base = b) (s1 : 1 ≤ r.size) (s2 : r.size ≤ 4096) (s3 : r.label = "public" ∨ r.label = "secret") (hwq : w ≠ q ∧ w ≠ qr) :
    Wp NoX (m_Listed_m_take_region cA [.ref q, .ref w] S) fun v S' => v = .bl true ∧ LA (cA 0) S' q qr qw (b + r.size) (pre ++ [r]) [] ∧ Kp [q, qr] S S' := by
  refine wp_def0 rfl ?_
  unfold b_Listed_m_take_region
  have hwd : S[w]? = some (.lst [.str "region", .str (nS r.size), .str r.label]) := hw
  have x1 : oIx (.ref w) (.int 1) S = .ok (.str (nS r.size)) S := oIx_lst hwd (by simp) (by simp) (by simp)
  have x2 : ∀ S', S'[w]? = some (.lst [.str "region", .str (nS r.size), .str r.label]) → oIx (.ref w) (.int 2) S' = .ok (.str r.label) S' := fun S' h => oIx_lst h (by simp) (by simp) (by simp)
  have hpl : ¬ ((pre.map Rg.D).length : Int) = 1000 := by simp; omega
  have hb' : ¬ (500000 : Int) < (b : Int) := by omega
  have g1 : (1 : Int) ≤ (r.size : Int) := by omega
  have g2 : (r.size : Int) ≤ 4096 := by omega
  have hlab : labB (.str r.label) = true := by simp [labB, amD, s3]
  have hls : PyData.strOk r.label = true := by rcases s3 with e | e <;> rw [e] <;> decide +kernel
  rw [v_seq]
  simp_arith [Ly.v_fld, Ly.v_meth, Ly.k_me2, Ly.v_make, Ly.k_mk, Ly.v_fldset, Ly.k_fs, Ly.v_fldaug, Ly.k_fa2, Ly.look1, List.mem_cons, List.not_mem_nil, or_false, true_or, or_true, bLen_lst hwd, oNe_int, k_fl h.i, List.lookup, beq_lit, String.reduceBEq, tru_lst h.w, List.isEmpty_nil, bLen_lst h.r, oEq_int, d_MOST_REGIONS, hpl, oGt_int, d_GREATEST_BASE, hb', show (((3 : Nat) : Int) = 3) = True from by simp, -v_seq]
  rw [v_seq]
  simp_arith [Ly.v_fld, Ly.v_meth, Ly.k_me2, Ly.v_make, Ly.k_mk, Ly.v_fldset, Ly.k_fs, Ly.v_fldaug, Ly.k_fa2, Ly.look1, List.mem_cons, List.not_mem_nil, or_false, true_or, or_true, x1, -v_seq]
  refine Wp.call (number_ok (n := r.size) (by omega)) ?_
  rintro _ S ⟨rfl, rfl⟩
  simp_arith [Ly.v_fld, Ly.v_meth, Ly.k_me2, Ly.v_make, Ly.k_mk, Ly.v_fldset, Ly.k_fs, Ly.v_fldaug, Ly.k_fa2, Ly.look1, List.mem_cons, List.not_mem_nil, or_false, true_or, or_true, -v_seq]
  rw [v_seq]
  simp_arith [Ly.v_fld, Ly.v_meth, Ly.k_me2, Ly.v_make, Ly.k_mk, Ly.v_fldset, Ly.k_fs, Ly.v_fldaug, Ly.k_fa2, Ly.look1, List.mem_cons, List.not_mem_nil, or_false, true_or, or_true, v_chnB, k_cb, k_cb1, k_cb2t, k_cb3, oLe_int, g1, g2, d_GREATEST_SIZE, x2 _ hwd, -v_seq]
  refine Wp.call (show Wp NoX (m_is_label [.str r.label] S) _ from isLab_ok (m := 10) (n := 1) (.str hls)) ?_
  rintro _ S ⟨rfl, rfl⟩
  have o1 := get_put (u := O.lst (pre.map Rg.D ++ [.tup [nD b, nD r.size, .str r.label]])) h.r
  have i1 := get_set_ne (o' := O.lst (pre.map Rg.D ++ [.tup [nD b, nD r.size, .str r.label]])) h.i h.n1
  have w1 := get_set_ne (o' := O.lst (pre.map Rg.D ++ [.tup [nD b, nD r.size, .str r.label]])) h.w h.n3.symm
  have k1 : Kp [q, qr] S (S.set qr (.lst (pre.map Rg.D ++ [.tup [nD b, nD r.size, .str r.label]]))) := Kp.set (by simp)
  simp_arith [Ly.v_fld, Ly.v_meth, Ly.k_me2, Ly.v_make, Ly.k_mk, Ly.v_fldset, Ly.k_fs, Ly.v_fldaug, Ly.k_fa2, Ly.look1, List.mem_cons, List.not_mem_nil, or_false, true_or, or_true, hlab, tb, -v_seq]
  rw [v_seq]
  simp_arith [Ly.v_fld, Ly.v_meth, Ly.k_me2, Ly.v_make, Ly.k_mk, Ly.v_fldset, Ly.k_fs, Ly.v_fldaug, Ly.k_fa2, Ly.look1, List.mem_cons, List.not_mem_nil, or_false, true_or, or_true, k_fl h.i, List.lookup, beq_lit, String.reduceBEq, hasTy_lst h.r, x2 _ hwd, oAppend_lst h.r (by simp only [List.length_map]; exact line_big (by omega)), -v_seq]
  generalize S.set qr (.lst (pre.map Rg.D ++ [.tup [nD b, nD r.size, .str r.label]])) = S1 at *
  rw [v_seq]
  simp_arith [Ly.v_fld, Ly.v_meth, Ly.k_me2, Ly.v_make, Ly.k_mk, Ly.v_fldset, Ly.k_fs, Ly.v_fldaug, Ly.k_fa2, Ly.look1, List.mem_cons, List.not_mem_nil, or_false, true_or, or_true, k_fa i1, List.lookup, beq_lit, String.reduceBEq, oIAdd, k_fa3 i1, List.length_cons, List.length_nil, Nat.reduceLT, Nat.reduceAdd, putD, ofString_inj, String.reduceEq]
  have eb : ((b : Int) + (r.size : Int)) = ((b + r.size : Nat) : Int) := by omega
  rw [eb]
  refine ⟨⟨get_put i1, ?_, get_set_ne w1 (Ne.symm h.n2), h.n1, h.n2, h.n3⟩, k1.setIn (by simp)⟩
  rw [get_set_ne o1 (Ne.symm h.n1)]
  simp [Rg.D, hrb]
theorem w0_eq {k : Nat} : Str.empty ++ nS k ++ (":" : Str) = nS k ++ (":" : Str) := ext_tl (by simp only [tl_append, empS.2.1, List.nil_append])
theorem take_row (h : LA (cA 0) S q qr qw b pre rws) {r : MRow} (hr : RowK r) {many : Nat} (hrb : rowB many r.D = true) (hmany : many ≤ 100000) (hd : Dt 24 3 r.D) (hw : S[w]? = some (.lst ((rowW rws.length r).map D.str))) (hp : rws.length ≤ 100) (hwq : w ≠ q ∧ w ≠ qw) :
    Wp NoX (m_Listed_m_take cA [.ref q, .ref w] S) fun v S' => v = .bl true ∧ LA (cA 0) S' q qr qw b pre (rws ++ [r]) ∧ Kp [q, qr, qw] S S' := by
  refine wp_def0 rfl ?_
  unfold b_Listed_m_take
  have hlR := len_R r
  have hwd : S[w]? = some (.lst (.str (nS rws.length ++ (":" : Str)) :: .str (wordR r) :: ((fldR r).map pS).map D.str)) := by simpa [rowW] using hw
  have x0 : ∀ S', S'[w]? = some (.lst (.str (nS rws.length ++ (":" : Str)) :: .str (wordR r) :: ((fldR r).map pS).map D.str)) → oIx (.ref w) (.int 0) S' = .ok (.str (nS rws.length ++ (":" : Str))) S' := fun S' h => oIx_lst h (by simp) (by simp; omega) (by simp)
  have x1 : ∀ S', S'[w]? = some (.lst (.str (nS rws.length ++ (":" : Str)) :: .str (wordR r) :: ((fldR r).map pS).map D.str)) → oIx (.ref w) (.int 1) S' = .ok (.str (wordR r)) S' := fun S' h => oIx_lst h (by simp) (by simp; omega) (by simp)
  have hnr : nS rws.length ++ (":" : Str) ≠ ("region" : Str) := fun e => by
    have e1 := congrArg tl e
    have : (58 : Nat) ∈ tl (("region" : Str)) := by rw [← e1, tl_append, colS.1]; simp
    revert this; decide +kernel
  have hlog : ((rws.length : Nat) : Int).natAbs.log2 < 1920 := by
    rw [Int.natAbs_natCast]
    rcases Nat.eq_zero_or_pos rws.length with e | h0
    · rw [e]; decide
    · have := (Nat.log2_lt (by omega)).mpr (show rws.length < 2 ^ 32 by rw [pow_big (n := 0)]; omega); omega
  have n1 := nS_len (n := rws.length) (by omega)
  have l1 : (Str.empty ++ nS rws.length).length ≤ sizeLine := line_le (by simp only [app_len, empS.2.2.2]; omega)
  have l2 : (Str.empty ++ nS rws.length ++ (":" : Str)).length ≤ sizeLine := line_le (by simp only [app_len, empS.2.2.2, colS.2]; omega)
  have l3 : (nS rws.length ++ (":" : Str)).length ≤ sizeLine := line_le (by simp only [app_len, colS.2]; omega)
  have c1 : ¬ ((rws.length : Nat) : Int) = 100000 := by omega
  have elen : ∀ S', S'[w]? = some (.lst (.str (nS rws.length ++ (":" : Str)) :: .str (wordR r) :: ((fldR r).map pS).map D.str)) → bLen [.ref w] S' = .ok (.int (((fldR r).length + 2 : Nat) : Int)) S' := fun S' h => by rw [bLen_lst h]; simp; omega
  have c2 : ¬ (((fldR r).length + 2 : Nat) : Int) < 2 := by omega
  have hlk : d_CODE_FORMS.lookup (wordR r) = some (.wt ((ksR r).map D.str)) := by
    rw [is_forms, forms_look, look_R]; rfl
  rw [v_seq]
  simp_arith [Ly.v_fld, Ly.v_meth, Ly.k_me2, Ly.v_make, Ly.k_mk, Ly.v_fldset, Ly.k_fs, Ly.v_fldaug, Ly.k_fa2, Ly.look1, List.mem_cons, List.not_mem_nil, or_false, true_or, or_true, x0 _ hwd, oEq_str, hnr, -v_seq]
  rw [v_seq]
  simp_arith [Ly.v_fld, Ly.v_meth, Ly.k_me2, Ly.v_make, Ly.k_mk, Ly.v_fldset, Ly.k_fs, Ly.v_fldaug, Ly.k_fa2, Ly.look1, List.mem_cons, List.not_mem_nil, or_false, true_or, or_true, k_fl h.i, List.lookup, beq_lit, String.reduceBEq, bLen_lst h.w, List.length_map, -v_seq]
  rw [v_seq]
  simp_arith [Ly.v_fld, Ly.v_meth, Ly.k_me2, Ly.v_make, Ly.k_mk, Ly.v_fldset, Ly.k_fs, Ly.v_fldaug, Ly.k_fa2, Ly.look1, List.mem_cons, List.not_mem_nil, or_false, true_or, or_true, oEq_int, d_MOST_ROWS, c1, x0 _ hwd, v_js, k_js, v_js0, v_fmt, k_fmI, hlog, l1, l2, oNe_str, w0_eq, elen _ hwd, oLt_int, c2, x1 _ hwd, hlk, Option.isSome, -v_seq]
  rw [v_seq]
  simp_arith [Ly.v_fld, Ly.v_meth, Ly.k_me2, Ly.v_make, Ly.k_mk, Ly.v_fldset, Ly.k_fs, Ly.v_fldaug, Ly.k_fa2, Ly.look1, List.mem_cons, List.not_mem_nil, or_false, true_or, or_true, x1 _ hwd, hlk, -v_seq]
  rw [v_seq]
  have ez : oZip [.ref S.length, .wt ((ksR r).map D.str)] (S ++ [O.lst (((fldR r).map pS).map D.str)]) = .ok (.zip (.l S.length) (.t ((ksR r).map D.str))) (S ++ [O.lst (((fldR r).map pS).map D.str)]) := by
    have : seqAt (S ++ [O.lst (((fldR r).map pS).map D.str)]) S.length = some (((fldR r).map pS).map D.str) := seqAt_lst get_end
    simp only [oZip, sqOf, this, Option.map_some]
  simp_arith [Ly.v_fld, Ly.v_meth, Ly.k_me2, Ly.v_make, Ly.k_mk, Ly.v_fldset, Ly.k_fs, Ly.v_fldaug, Ly.k_fa2, Ly.look1, List.mem_cons, List.not_mem_nil, or_false, true_or, or_true, x1 _ hwd, oSl_lst hwd, cut2, ez, wipeL, -v_seq]
  refine ⟨l3, ?_⟩
  have hg2 : ∀ S', Kp [] (S ++ [O.lst (((fldR r).map pS).map D.str)]) S' → seqAt S' S.length = some (((fldR r).map pS).map D.str) := fun S' k => seqAt_lst (k.get get_end (by simp))
  refine lc_pure (S := S ++ [O.lst (((fldR r).map pS).map D.str)]) (fun k : Nat => .tup [(((fldR r).map pS).map D.str).getD k .non, ((ksR r).map D.str).getD k .non]) (xs := List.range (fldR r).length) (fun k => some ((fldR r).getD k .non)) (fun S' hS' k hk => ?_) (by simp; omega) (fun k hk S' hS' => ?_) (fun S' h1 h2 => ?_)
  · simp only [List.length_range] at hk
    simp only [itGo, Sq.at, hg2 S' hS', List.length_map]
    rw [if_pos ⟨hk, by omega⟩]
    by_cases hk2 : k < (fldR r).length
    · simp [List.getD, List.getElem?_range hk2, List.getElem?_eq_getElem hk2, List.getElem?_eq_getElem (show k < (ksR r).length by omega)]
    · have : k = (fldR r).length := by omega
      subst this
      simp [List.getElem?_eq_none (show (fldR r).length ≤ (fldR r).length by omega)]
  · have hk2 : k < (fldR r).length := by simpa using hk
    have hk3 : k < (ksR r).length := by omega
    have ea : (((fldR r).map pS).map D.str).getD k .non = .str (pS (fldR r)[k]) := by simp [List.getD, List.getElem?_eq_getElem hk2]
    have ep : ((ksR r).map D.str).getD k .non = .str (ksR r)[k] := by simp [List.getD, List.getElem?_eq_getElem hk3]
    have el : (fldR r).getD k .non = (fldR r)[k] := by simp [List.getD, List.getElem?_eq_getElem hk2]
    simp only [ea, ep, el]
    have hpk : PartK (ksR r)[k] (fldR r)[k] := hr ((fldR r)[k], (ksR r)[k]) (List.mem_of_getElem? (i := k) (by rw [List.getElem?_zip_eq_some]; exact ⟨List.getElem?_eq_getElem hk2, List.getElem?_eq_getElem hk3⟩))
    refine ⟨[some (.ref q), some (.ref w), some (nD rws.length), some (.wt ((ksR r).map D.str)), none, some (.str (pS (fldR r)[k])), some (.str (ksR r)[k])], rfl, ?_⟩
    simp_arith [Ly.v_fld, Ly.v_meth, Ly.k_me2, Ly.v_make, Ly.k_mk, Ly.v_fldset, Ly.k_fs, Ly.v_fldaug, Ly.k_fa2, Ly.look1, List.mem_cons, List.not_mem_nil, or_false, true_or, or_true]
    refine ⟨Kp.refl, ?_⟩
    refine (part_okN hpk).mono (fun _ _ _ _ h => h) ?_
    rintro _ S2 ⟨rfl, rfl⟩
    exact ⟨Kp.refl, rfl⟩
  · have e1 : (List.range (fldR r).length).filterMap (fun k => some ((fldR r).getD k .non)) = fldR r := by
      rw [List.filterMap_eq_map']
      refine List.ext_getElem? fun j => ?_
      by_cases hj : j < (fldR r).length
      · simp [List.getElem?_range hj, List.getD, List.getElem?_eq_getElem hj]
      · rw [List.getElem?_eq_none (by simp; omega), List.getElem?_eq_none (by omega)]
    rw [e1] at h1
    have k2 : Kp [] S S' := Kp.new.trans h2
    have hL := h.kp k2 (by simp) (by simp) (by simp)
    have hwS := k2.get hwd (by simp)
    have lt5 : [D.str (wordR r)].length + (fldR r).length ≤ sizeLine := line_le (by simp; omega)
    have c3 : (((fldR r).length + 2 : Nat) : Int) = ((ksR r).length : Int) + 2 := by omega
    have eadd : ∀ S, oAdd (.tup [.str (wordR r)]) (.tup (fldR r)) S = .ok r.D S := fun S => by
      rw [D_R]; simp only [oAdd]; rw [if_pos lt5]; rfl
    have ewt : ∀ S, bLen [.wt ((ksR r).map D.str)] S = .ok (.int ((ksR r).length : Int)) S := fun S => by simp [bLen, lenD]
    simp_arith [Ly.v_fld, Ly.v_meth, Ly.k_me2, Ly.v_make, Ly.k_mk, Ly.v_fldset, Ly.k_fs, Ly.v_fldaug, Ly.k_fa2, Ly.look1, List.mem_cons, List.not_mem_nil, or_false, true_or, or_true, bTuple_lst h1, eadd, -v_seq]
    rw [v_seq]
    simp_arith [Ly.v_fld, Ly.v_meth, Ly.k_me2, Ly.v_make, Ly.k_mk, Ly.v_fldset, Ly.k_fs, Ly.v_fldaug, Ly.k_fa2, Ly.look1, List.mem_cons, List.not_mem_nil, or_false, true_or, or_true, elen _ hwS, ewt, oAdd_int, oNe_int, c3, -v_seq]
    rw [v_seq]
    simp_arith [Ly.v_fld, Ly.v_meth, Ly.k_me2, Ly.v_make, Ly.k_mk, Ly.v_fldset, Ly.k_fs, Ly.v_fldaug, Ly.k_fa2, Ly.look1, List.mem_cons, List.not_mem_nil, or_false, true_or, or_true, k_fl hL.i, List.lookup, beq_lit, String.reduceBEq, hasTy_lst hL.w, oAppend_lst hL.w (by simp only [List.length_map]; exact line_big (by omega)), -v_seq]
    refine Wp.call (show Wp NoX (m_is_row [r.D, nD 100000] _) _ from row_okB hd) ?_
    rintro _ S2 ⟨rfl, rfl⟩
    have c4 : ((rws.length : Nat) : Int) < 100000 - 1 := by omega
    simp_arith [Ly.v_fld, Ly.v_meth, Ly.k_me2, Ly.v_make, Ly.k_mk, Ly.v_fldset, Ly.k_fs, Ly.v_fldaug, Ly.k_fa2, Ly.look1, List.mem_cons, List.not_mem_nil, or_false, true_or, or_true, rowB_more (show many ≤ 100000 from hmany) hrb, tb, oSub_int, oLt_int, c4]
    refine ⟨⟨get_set_ne hL.i h.n2, get_set_ne hL.r h.n3, by rw [get_put hL.w]; simp, h.n1, h.n2, h.n3⟩, (k2.sub (by simp)).setIn (by simp)⟩
end
end GK17
set_option Elab.async false
set_option linter.all false
set_option maxRecDepth 100000
namespace GK17
open PySem L2 Ly GK10 TL
open PySem.Spec hiding Row
open PyProof.Rows hiding St
local macro_rules | `(tactic| simp_arith [$ls,*]) => `(tactic| simp only [Ly.line_le, Ly.atX_no, Ly.v_ok, Ly.v_bad, Ly.v_bind, Ly.k_bd, Ly.v_at, Ly.v_bin, Ly.k_bi, Ly.k_bi2, Ly.v_var, Ly.v_c, Ly.v_un, Ly.k_un, Ly.v_if, Ly.k_ife, Ly.v_and, Ly.k_and, Ly.k_and2, Ly.v_or, Ly.k_or, Ly.k_or2, Ly.v_tup, Ly.k_tup, Ly.v_lst, Ly.k_lst, Ly.v_call, Ly.k_ca, Ly.v_fn, Ly.k_fn, Ly.v_bm, Ly.k_bm, Ly.k_bm2, Ly.v_sl, Ly.k_sl, Ly.k_sl2, Ly.k_sl3, Ly.v_ixK, Ly.k_ixk, Ly.v_inK, Ly.k_ink, Ly.v_notinK, Ly.k_nink, Ly.v_getK2, Ly.k_gk2, Ly.k_gk, Ly.v_get2, Ly.k_g2, Ly.k_g22, Ly.k_g23, Ly.v_nil, Ly.v_cons, Ly.k_co, Ly.k_co2, Ly.v_no, Ly.v_some, Ly.k_so, Ly.k_cm, Ly.v_cmp, Ly.v_tru, Ly.k_tr, Ly.v_notB, Ly.k_no, Ly.v_andB, Ly.k_an, Ly.v_orB, Ly.k_orb, Ly.v_yes, Ly.v_inKB, Ly.k_inkB, Ly.v_notinKB, Ly.k_ninkB, Ly.v_set, Ly.k_st, Ly.v_expr, Ly.k_ex, Ly.v_ret, Ly.k_re, Ly.v_retN, Ly.v_pass, Ly.v_brk, Ly.v_cnt, Ly.v_seq, Ly.k_sq_nx, Ly.k_sq_rt, Ly.k_sq_bk, Ly.k_sq_ct, Ly.v_ifS, Ly.k_ifs, Ly.v_asg, Ly.k_as, Ly.k_as2, Ly.v_aug, Ly.k_au, Ly.v_for, Ly.k_fo, Ly.v_it, Ly.k_it, Ly.k_ij, Ly.v_rng1, Ly.v_rng2, Ly.v_enum, Ly.v_zip, Ly.v_ez, Ly.v_gN, Ly.v_gsN, Ly.v_gsC, Ly.k_gc, Ly.v_gT, Ly.v_gTw, Ly.v_gSb, Ly.k_gsb, Ly.k_gsb2, Ly.k_gsb3, Ly.k_en_rt, Ly.k_en_nx, Ly.k_tu_nx, Ly.k_tu_ct, Ly.k_tu_bk, Ly.k_tu_rt, Ly.v_lc, Ly.k_lc, Ly.v_augI, Ly.k_ag, Ly.k_ag2, Ly.k_ag3, Ly.k_ag4, Ly.k_ag5, Ly.v_del, Ly.k_dl, Ly.k_dl2, Ly.v_setd, Ly.v_pop2, Ly.k_d3, Ly.k_d32, Ly.k_d33, Ly.v_get1, Ly.k_g1, Ly.k_g12, Ly.v_rg1, Ly.k_rg, Ly.v_rg2, Ly.k_rg2, Ly.k_rg22, Ly.v_dicK, Ly.v_dicT, Ly.v_dc, Ly.k_dc, List.getElem?_cons_zero, List.getElem?_cons_succ, List.set_cons_zero, List.set_cons_succ, List.length_cons, List.length_nil, List.map_cons, List.map_nil, List.cons_append, List.nil_append, List.replicate, if_true, if_false, Bool.false_eq_true, Bool.not_true, Bool.not_false, Bool.true_and, Bool.false_and, decide_true, decide_false, decide_eq_true_eq, Nat.zero_add, Nat.reduceAdd, Nat.reduceLeDiff, true_and, and_true, $ls,*])
section
variable {S S' S0 : Hs} {cA : Nat → Addr} {C : Addr} {q qr qw b w : Nat} {pre : List Rg} {rws : List MRow} {B : List Nat} {rs : List Rg} {rows : List MRow}
theorem take_regT (h : LA (cA 0) S q qr qw b pre []) {r : Rg} (hw : S[w]? = some (.lst ((regW r).map D.str))) (hp : pre.length ≤ 100) (hb : b ≤ 500000) (hrb : r.base = b) (s1 : 1 ≤ r.size) (s2 : r.size ≤ 4096) (s3 : r.label = "public" ∨ r.label = "secret") (hwq : w ≠ q ∧ w ≠ qr) :
    Wp NoX (m_Listed_m_take cA [.ref q, .ref w] S) fun v S' => v = .bl true ∧ LA (cA 0) S' q qr qw (b + r.size) (pre ++ [r]) [] ∧ Kp [q, qr] S S' := by
  refine wp_def0 rfl ?_
  unfold b_Listed_m_take
  have hwd : S[w]? = some (.lst [.str "region", .str (nS r.size), .str r.label]) := hw
  have x0 : oIx (.ref w) (.int 0) S = .ok (.str "region") S := oIx_lst hwd (by simp) (by simp) (by simp)
  rw [v_seq]
  simp_arith [Ly.v_fld, Ly.v_meth, Ly.k_me2, Ly.v_make, Ly.k_mk, Ly.v_fldset, Ly.k_fs, Ly.v_fldaug, Ly.k_fa2, Ly.look1, List.mem_cons, List.not_mem_nil, or_false, true_or, or_true, x0, oEq_str, k_me h.i, List.lookup, beq_self_eq_true, beq_lit, String.reduceBEq, -v_seq]
  exact take_reg h hw hp hb hrb s1 s2 s3 hwq
theorem initL (h : S[q]? = some (.ins (cA 0) [])) : Wp NoX (m_Listed_m___init__ cA [.ref q] S) fun v S' => v = .non ∧ LA (cA 0) S' q S.length (S.length + 1) 0 [] [] ∧ Kp [q] S S' := by
  refine wp_def0 rfl ?_
  unfold b_Listed_m___init__
  have hq := Real.lt h
  have i1 : (S ++ [O.lst []])[q]? = some (.ins (cA 0) []) := Kp.get (A := []) Kp.new h (by simp)
  rw [v_seq]
  simp_arith [Ly.v_fld, Ly.v_meth, Ly.k_me2, Ly.v_make, Ly.k_mk, Ly.v_fldset, Ly.k_fs, Ly.v_fldaug, Ly.k_fa2, Ly.look1, List.mem_cons, List.not_mem_nil, or_false, true_or, or_true, k_fs, k_fs2 i1, putD, List.length_nil, Nat.reduceLT, -v_seq]
  have o1 := get_put (u := O.ins (cA 0) [("regions", .ref S.length)]) i1
  have r1 : ((S ++ [O.lst []]).set q (O.ins (cA 0) [("regions", .ref S.length)]))[S.length]? = some (.lst []) := by rw [List.getElem?_set_ne (by omega)]; exact get_end
  have K1 : Kp [q] S ((S ++ [O.lst []]).set q (O.ins (cA 0) [("regions", .ref S.length)])) := Kp.new.setIn (by simp)
  have n1 : ((S ++ [O.lst []]).set q (O.ins (cA 0) [("regions", .ref S.length)])).length = S.length + 1 := by simp
  generalize (S ++ [O.lst []]).set q (O.ins (cA 0) [("regions", .ref S.length)]) = S1 at *
  rw [v_seq]
  simp_arith [Ly.v_fld, Ly.v_meth, Ly.k_me2, Ly.v_make, Ly.k_mk, Ly.v_fldset, Ly.k_fs, Ly.v_fldaug, Ly.k_fa2, Ly.look1, List.mem_cons, List.not_mem_nil, or_false, true_or, or_true, k_fs, k_fs2 o1, putD, ofString_inj, String.reduceEq, List.length_cons, List.length_nil, Nat.reduceLT, Nat.reduceAdd, -v_seq]
  have o2 := get_put (u := O.ins (cA 0) [("regions", .ref S.length), ("base", .int 0)]) o1
  have r2 := get_set_ne (o' := O.ins (cA 0) [("regions", .ref S.length), ("base", .int 0)]) r1 (show S.length ≠ q by omega)
  have K2 : Kp [q] S (S1.set q (O.ins (cA 0) [("regions", .ref S.length), ("base", .int 0)])) := K1.setIn (by simp)
  have n2 : (S1.set q (O.ins (cA 0) [("regions", .ref S.length), ("base", .int 0)])).length = S.length + 1 := by simp [n1]
  generalize S1.set q (O.ins (cA 0) [("regions", .ref S.length), ("base", .int 0)]) = S2 at *
  have i3 : (S2 ++ [O.lst []])[q]? = _ := Kp.get (A := []) Kp.new o2 (by simp)
  simp_arith [Ly.v_fld, Ly.v_meth, Ly.k_me2, Ly.v_make, Ly.k_mk, Ly.v_fldset, Ly.k_fs, Ly.v_fldaug, Ly.k_fa2, Ly.look1, List.mem_cons, List.not_mem_nil, or_false, true_or, or_true, k_fs, k_fs2 i3, putD, ofString_inj, String.reduceEq, List.length_cons, List.length_nil, Nat.reduceLT, Nat.reduceAdd]
  refine ⟨⟨?_, ?_, ?_, by omega, by omega, by omega⟩, K2.app.setIn (by simp)⟩
  · rw [get_put i3, n2]; rfl
  · rw [List.getElem?_set_ne (by omega)]; exact Kp.get (A := []) Kp.new r2 (by simp)
  · rw [List.getElem?_set_ne (by omega), ← n2]; exact get_end
theorem contig_at : ∀ {rs : List Rg} {b k : Nat} {r : Rg}, Contig b rs → rs[k]? = some r → r.base = b + sizes (rs.take k)
  | x :: rs, b, 0, r, h, e => by
    simp at e; subst e
    simpa [sizes] using h.1
  | x :: rs, b, k + 1, r, h, e => by
    have := contig_at h.2.2 (show rs[k]? = some r by simpa using e)
    simp only [sizes, List.take_succ_cons, List.map_cons, List.sum_cons] at this ⊢
    omega
def lineS (ws : List Str) : Str := Txt.join (" " : Str) ws
theorem tl_lineS (ws : List Str) : tl (lineS ws) = lineT ws := by unfold lineS lineT; rw [join_eq, tl_join, spcS.1]
theorem split_line {ws : List Str} (h : LW ws) : Txt.split (lineS ws) (" " : Str) = ws :=
  split_join (s := 32) (S := []) spcS.1 (by decide +kernel) h.ne fun p hp hm => ((h.w p hp).2 32 hm).1 rfl
theorem joinL_end (xs : List (List Nat)) : joinL [10] (xs ++ [[]]) = (xs.map (· ++ [10])).flatten := by
  induction xs with
  | nil => rfl
  | cons x xs ih =>
    cases xs with
    | nil => simp [joinL]
    | cons y ys =>
      show x ++ ([10] ++ joinL [10] ((y :: ys) ++ [[]])) = _
      rw [ih]; simp
theorem mem_joinL {c : Nat} {S : List Nat} : ∀ {ps : List (List Nat)}, c ∈ joinL S ps → c ∈ S ∨ ∃ p ∈ ps, c ∈ p
  | [], h => by cases h
  | [p], h => .inr ⟨p, by simp, h⟩
  | p :: q :: r, h => by
    rcases List.mem_append.mp h with h | h
    · exact .inr ⟨p, by simp, h⟩
    · rcases List.mem_append.mp h with h | h
      · exact .inl h
      · rcases mem_joinL h with h | ⟨p', h1, h2⟩
        · exact .inl h
        · exact .inr ⟨p', List.mem_cons_of_mem _ h1, h2⟩
theorem line_no {ws : List Str} (h : LW ws) : (10 : Nat) ∉ tl (lineS ws) := fun hm => by
  rw [tl_lineS] at hm
  rcases mem_joinL hm with h1 | ⟨p, hp, h2⟩
  · simp at h1
  · obtain ⟨w, hw, rfl⟩ := List.mem_map.mp hp
    exact ((h.w w hw).2 10 h2).2 rfl
theorem split_text {T : Str} {wls : List (List Str)} (hT : tl T = textT wls) (h : ∀ ws ∈ wls, LW ws) : Txt.split T ("\n" : Str) = wls.map lineS ++ [("" : Str)] := by
  have e : T = Txt.join ("\n" : Str) (wls.map lineS ++ [("" : Str)]) := by
    refine ext_tl ?_
    rw [hT, join_eq, tl_join, nlnS.1, List.map_append, List.map_cons, List.map_nil, empS.1, joinL_end, List.map_map, List.map_map]
    unfold textT
    congr 1
    refine List.map_congr_left fun ws _ => ?_
    simp [tl_lineS]
  rw [e]
  refine split_join (s := 10) (S := []) nlnS.1 (by decide +kernel) (by simp) fun p hp => ?_
  rcases List.mem_append.mp hp with hp | hp
  · obtain ⟨ws, hws, rfl⟩ := List.mem_map.mp hp
    exact line_no (h ws hws)
  · simp only [List.mem_singleton] at hp
    subst hp
    rw [empS.1]; simp
end
end GK17
set_option Elab.async false
set_option linter.all false
set_option maxRecDepth 100000
namespace GK17
open PySem L2 Ly GK10 TL
open PySem.Spec hiding Row
open PyProof.Rows hiding St
local macro_rules | `(tactic| simp_arith [$ls,*]) => `(tactic| simp only [Ly.line_le, Ly.atX_no, Ly.v_ok, Ly.v_bad, Ly.v_bind, Ly.k_bd, Ly.v_at, Ly.v_bin, Ly.k_bi, Ly.k_bi2, Ly.v_var, Ly.v_c, Ly.v_un, Ly.k_un, Ly.v_if, Ly.k_ife, Ly.v_and, Ly.k_and, Ly.k_and2, Ly.v_or, Ly.k_or, Ly.k_or2, Ly.v_tup, Ly.k_tup, Ly.v_lst, Ly.k_lst, Ly.v_call, Ly.k_ca, Ly.v_fn, Ly.k_fn, Ly.v_bm, Ly.k_bm, Ly.k_bm2, Ly.v_sl, Ly.k_sl, Ly.k_sl2, Ly.k_sl3, Ly.v_ixK, Ly.k_ixk, Ly.v_inK, Ly.k_ink, Ly.v_notinK, Ly.k_nink, Ly.v_getK2, Ly.k_gk2, Ly.k_gk, Ly.v_get2, Ly.k_g2, Ly.k_g22, Ly.k_g23, Ly.v_nil, Ly.v_cons, Ly.k_co, Ly.k_co2, Ly.v_no, Ly.v_some, Ly.k_so, Ly.k_cm, Ly.v_cmp, Ly.v_tru, Ly.k_tr, Ly.v_notB, Ly.k_no, Ly.v_andB, Ly.k_an, Ly.v_orB, Ly.k_orb, Ly.v_yes, Ly.v_inKB, Ly.k_inkB, Ly.v_notinKB, Ly.k_ninkB, Ly.v_set, Ly.k_st, Ly.v_expr, Ly.k_ex, Ly.v_ret, Ly.k_re, Ly.v_retN, Ly.v_pass, Ly.v_brk, Ly.v_cnt, Ly.v_seq, Ly.k_sq_nx, Ly.k_sq_rt, Ly.k_sq_bk, Ly.k_sq_ct, Ly.v_ifS, Ly.k_ifs, Ly.v_asg, Ly.k_as, Ly.k_as2, Ly.v_aug, Ly.k_au, Ly.v_for, Ly.k_fo, Ly.v_it, Ly.k_it, Ly.k_ij, Ly.v_rng1, Ly.v_rng2, Ly.v_enum, Ly.v_zip, Ly.v_ez, Ly.v_gN, Ly.v_gsN, Ly.v_gsC, Ly.k_gc, Ly.v_gT, Ly.v_gTw, Ly.v_gSb, Ly.k_gsb, Ly.k_gsb2, Ly.k_gsb3, Ly.k_en_rt, Ly.k_en_nx, Ly.k_tu_nx, Ly.k_tu_ct, Ly.k_tu_bk, Ly.k_tu_rt, Ly.v_lc, Ly.k_lc, Ly.v_augI, Ly.k_ag, Ly.k_ag2, Ly.k_ag3, Ly.k_ag4, Ly.k_ag5, Ly.v_del, Ly.k_dl, Ly.k_dl2, Ly.v_setd, Ly.v_pop2, Ly.k_d3, Ly.k_d32, Ly.k_d33, Ly.v_get1, Ly.k_g1, Ly.k_g12, Ly.v_rg1, Ly.k_rg, Ly.v_rg2, Ly.k_rg2, Ly.k_rg22, Ly.v_dicK, Ly.v_dicT, Ly.v_dc, Ly.k_dc, List.getElem?_cons_zero, List.getElem?_cons_succ, List.set_cons_zero, List.set_cons_succ, List.length_cons, List.length_nil, List.map_cons, List.map_nil, List.cons_append, List.nil_append, List.replicate, if_true, if_false, Bool.false_eq_true, Bool.not_true, Bool.not_false, Bool.true_and, Bool.false_and, decide_true, decide_false, decide_eq_true_eq, Nat.zero_add, Nat.reduceAdd, Nat.reduceLeDiff, true_and, and_true, $ls,*])
section
variable {S S' S0 : Hs} {cA : Nat → Addr} {rs : List Rg} {rows : List MRow}
theorem allW_lt (hk : k < rs.length) : (allW rs rows)[k]? = some (regW rs[k]) := by
  unfold allW
  rw [List.getElem?_append_left (by simpa using hk)]; simp [List.getElem?_eq_getElem hk]
theorem allW_ge (hk : ¬ k < rs.length) (hk2 : k - rs.length < rows.length) : (allW rs rows)[k]? = some (rowW (k - rs.length) rows[k - rs.length]) := by
  unfold allW rowsW
  rw [List.getElem?_append_right (by simp; omega)]
  simp [List.getElem?_eq_getElem hk2]
theorem allW_len : (allW rs rows).length = rs.length + rows.length := by simp [allW, rowsW]
theorem read_ok (g : GC rs rows) {T : Str} (hT : tl T = textT (allW rs rows)) : Wp NoX (m_read_listing cA [.str T] S) fun v S' => v = codeV rs rows ∧ Kp [] S S' := by
  refine wp_def0 rfl ?_
  unfold b_read_listing
  have hnr := g.nr
  have hnw := g.nw
  have hLW : ∀ ws ∈ allW rs rows, LW ws := g.lw (fun _ h => h) (fun _ h => h) hnw
  have hTl : T.length ≤ 4000 := g.tlen (a := rs) (b := rows) (fun _ h => h) (fun _ h => h) hnr hnw hT
  have hsp := split_text hT hLW
  have es : oSplit (.str T) [.str "\n"] S = .ok (.ref S.length) (S ++ [.lst (((allW rs rows).map lineS ++ [("" : Str)]).map D.str)]) := by
    simp only [oSplit, hsp]
    rw [if_pos ⟨by rw [nlnS.2]; rfl, line_le (by omega)⟩]
  rw [v_seq]
  simp_arith [Ly.v_fld, Ly.v_meth, Ly.k_me2, Ly.v_make, Ly.k_mk, Ly.v_fldset, Ly.k_fs, Ly.v_fldaug, Ly.k_fa2, Ly.look1, List.mem_cons, List.not_mem_nil, or_false, true_or, or_true, hasTy_str, es, -v_seq]
  have g1 : (S ++ [O.lst (((allW rs rows).map lineS ++ [("" : Str)]).map D.str)])[S.length]? = some (.lst (((allW rs rows).map lineS ++ [("" : Str)]).map D.str)) := get_end
  have K1 : Kp [] S (S ++ [O.lst (((allW rs rows).map lineS ++ [("" : Str)]).map D.str)]) := Kp.new
  have n1 : (S ++ [O.lst (((allW rs rows).map lineS ++ [("" : Str)]).map D.str)]).length = S.length + 1 := by simp
  generalize S ++ [O.lst (((allW rs rows).map lineS ++ [("" : Str)]).map D.str)] = S1 at *
  rw [v_seq]
  simp_arith [Ly.v_fld, Ly.v_meth, Ly.k_me2, Ly.v_make, Ly.k_mk, Ly.v_fldset, Ly.k_fs, Ly.v_fldaug, Ly.k_fa2, Ly.look1, List.mem_cons, List.not_mem_nil, or_false, true_or, or_true, -v_seq]
  refine Wp.call (initL (cA := cA) (q := S1.length) get_end) ?_
  rintro _ S2 ⟨rfl, hL, k2⟩
  refine ⟨rfl, ?_⟩
  have n2 := k2.le
  simp only [List.length_append, List.length_singleton] at n2
  have g2 : S2[S.length]? = some (.lst (((allW rs rows).map lineS ++ [("" : Str)]).map D.str)) := k2.get (by rw [List.getElem?_append_left (by omega)]; exact g1) (by simp; omega)
  have K2 : Kp [] S S2 := K1.trans (Kp.new.after k2 (by intro i hi hl; simp at hi; omega))
  have ecut : Ly.cutD ((((allW rs rows).map lineS ++ [("" : Str)])).map D.str) none (some (-1)) = ((allW rs rows).map lineS).map D.str := by
    rw [List.map_append]; exact cut_neg
  have g3 : (S2 ++ [O.lst (((allW rs rows).map lineS).map D.str)])[S2.length]? = some (.lst (((allW rs rows).map lineS).map D.str)) := get_end
  have een : oEnum [.ref S2.length] (S2 ++ [O.lst (((allW rs rows).map lineS).map D.str)]) = .ok (.enum (.l S2.length)) (S2 ++ [O.lst (((allW rs rows).map lineS).map D.str)]) := by
    simp only [oEnum, sqOf, seqAt_lst g3, Option.map_some]
  have hlq := hL.i
  have lq1 := Real.lt hL.i
  have lq2 := Real.lt hL.r
  have lq3 := Real.lt hL.w
  simp only [List.length_append, List.length_singleton] at hL lq2 lq3
  rw [v_seq]
  simp_arith [Ly.v_fld, Ly.v_meth, Ly.k_me2, Ly.v_make, Ly.k_mk, Ly.v_fldset, Ly.k_fs, Ly.v_fldaug, Ly.k_fa2, Ly.look1, List.mem_cons, List.not_mem_nil, or_false, true_or, or_true, oSl_lst g2, show ∀ S, oNeg (.int 1) S = .ok (.int (-1)) S from fun _ => rfl, ecut, een, -v_seq]
  refine wp_enumA (xs := ((allW rs rows).map lineS).map D.str) (fun k l S3 => k ≤ rs.length + rows.length ∧ (∃ o3 o4 o5, l = [some (.str T), some (.ref S.length), some (.ref S1.length), o3, o4, o5]) ∧ LA (cA 0) S3 S1.length (S1.length + 1) (S1.length + 1 + 1) (sizes (rs.take k)) (rs.take k) (rows.take (k - rs.length)) ∧ S3[S2.length]? = some (.lst (((allW rs rows).map lineS).map D.str)) ∧ S3[S.length]? = some (.lst (((allW rs rows).map lineS ++ [("" : Str)]).map D.str)) ∧ Kp [] S S3)
    (fun k l S3 h => seqAt_lst h.2.2.2.1) ⟨by omega, ⟨_, _, _, rfl⟩, by simpa [sizes] using hL.kp (B := []) Kp.new (by simp) (by simp) (by simp), g3, Kp.get (A := []) Kp.new g2 (by simp), K2.app⟩ ?_ ?_
  · rintro k l S3 x hx ⟨-, ⟨o3, o4, o5, rfl⟩, hL3, hl3, hs3, hK3⟩
    have hk : k < rs.length + rows.length := by
      have := (List.getElem?_eq_some_iff.mp hx).1
      simpa [allW_len] using this
    have hws : ∃ ws, (allW rs rows)[k]? = some ws ∧ x = .str (lineS ws) := by
      rw [List.getElem?_map, List.getElem?_map] at hx
      cases e : (allW rs rows)[k]? with
      | none => rw [e] at hx; cases hx
      | some ws => rw [e] at hx; exact ⟨ws, rfl, (Option.some.inj hx).symm⟩
    obtain ⟨ws, hwk, rfl⟩ := hws
    have hlw := hLW ws (List.mem_of_getElem? hwk)
    have hll : (lineS ws).length ≤ 72 := by rw [len_tl, tl_lineS]; exact hlw.len
    have esp : oSplit (.str (lineS ws)) [.str " "] S3 = .ok (.ref S3.length) (S3 ++ [.lst (ws.map D.str)]) := by
      simp only [oSplit, split_line hlw]
      rw [if_pos ⟨by rw [spcS.2]; rfl, line_le (by omega)⟩]
    have hw3 : (S3 ++ [O.lst (ws.map D.str)])[S3.length]? = some (.lst (ws.map D.str)) := get_end
    have hL4 : LA (cA 0) (S3 ++ [O.lst (ws.map D.str)]) S1.length (S1.length + 1) (S1.length + 1 + 1) (sizes (rs.take k)) (rs.take k) (rows.take (k - rs.length)) := hL3.kp (B := []) Kp.new (by simp) (by simp) (by simp)
    have a1 := Real.lt hL3.i
    have a2 := Real.lt hL3.r
    have a3 := Real.lt hL3.w
    have a4 := Real.lt hl3
    have fin : ∀ (v : D) S5, v = .bl true → LA (cA 0) S5 S1.length (S1.length + 1) (S1.length + 1 + 1) (sizes (rs.take (k + 1))) (rs.take (k + 1)) (rows.take (k + 1 - rs.length)) → Kp [S1.length, S1.length + 1, S1.length + 1 + 1] (S3 ++ [O.lst (ws.map D.str)]) S5 → LA (cA 0) S5 S1.length (S1.length + 1) (S1.length + 1 + 1) (sizes (rs.take (k + 1))) (rs.take (k + 1)) (rows.take (k + 1 - rs.length)) ∧ S5[S2.length]? = some (.lst (((allW rs rows).map lineS).map D.str)) ∧ S5[S.length]? = some (.lst (((allW rs rows).map lineS ++ [("" : Str)]).map D.str)) ∧ Kp [] S S5 := fun v S5 _ h5 k5 => by
      have k6 : Kp [S1.length, S1.length + 1, S1.length + 1 + 1] S3 S5 := Kp.new.trans k5
      refine ⟨h5, k6.get hl3 (by simp; omega), k6.get hs3 (by simp; omega), hK3.after k6 ?_⟩
      intro i hi hl
      simp only [List.mem_cons, List.not_mem_nil, or_false] at hi
      omega
    unfold lb_read_listing_0
    simp_arith [Ly.v_fld, Ly.v_meth, Ly.k_me2, Ly.v_make, Ly.k_mk, Ly.v_fldset, Ly.k_fs, Ly.v_fldaug, Ly.k_fa2, Ly.look1, List.mem_cons, List.not_mem_nil, or_false, true_or, or_true, v_gT, k_me hL3.i, List.lookup, beq_self_eq_true, beq_lit, String.reduceBEq, hasTy_str, esp]
    by_cases hkr : k < rs.length
    · have hwe : ws = regW rs[k] := by rw [allW_lt hkr] at hwk; exact (Option.some.inj hwk).symm
      subst hwe
      have hr : rs[k]? = some rs[k] := List.getElem?_eq_getElem hkr
      obtain ⟨s1, s2, s3⟩ := g.sz _ (List.getElem_mem hkr)
      have hbase := contig_at g.ba hr
      rw [Nat.zero_add] at hbase
      have hb5 := g.bs _ (List.getElem_mem hkr)
      have e0 : k - rs.length = 0 := by omega
      have e1 : k + 1 - rs.length = 0 := by omega
      rw [e0, List.take_zero] at hL4
      refine Wp.call (take_regT hL4 hw3 (by simp; omega) (by omega) hbase s1 s2 s3 (by omega)) ?_
      rintro _ S5 ⟨rfl, h5, k5⟩
      simp_arith [Ly.v_fld, Ly.v_meth, Ly.k_me2, Ly.v_make, Ly.k_mk, Ly.v_fldset, Ly.k_fs, Ly.v_fldaug, Ly.k_fa2, Ly.look1, List.mem_cons, List.not_mem_nil, or_false, true_or, or_true, tb]
      refine ⟨by omega, ⟨_, _, _, rfl⟩, fin _ S5 rfl ?_ (k5.sub (by intro i hi _; simp at hi ⊢; omega))⟩
      rw [e1, List.take_zero, take_at hr]
      have : sizes (rs.take k ++ [rs[k]]) = sizes (rs.take k) + rs[k].size := by
        unfold sizes; rw [List.map_append, List.sum_append]; simp only [List.map_cons, List.map_nil, List.sum_cons, List.sum_nil, Nat.add_zero]
      rw [this]; exact h5
    · have hk2 : k - rs.length < rows.length := by omega
      have hwe : ws = rowW (k - rs.length) rows[k - rs.length] := by rw [allW_ge hkr hk2] at hwk; exact (Option.some.inj hwk).symm
      subst hwe
      have hr : rows[k - rs.length]? = some rows[k - rs.length] := List.getElem?_eq_getElem hk2
      have hmem := List.getElem_mem hk2
      have hdt : Dt 24 3 (rows[k - rs.length]).D := by
        have a := (g.dt.part (.tup (rows.map MRow.D)) (by simp)).part (rows[k - rs.length]).D (List.mem_map.mpr ⟨_, hmem, rfl⟩)
        exact a.up (Nat.le_refl _) (by omega)
      have hlt : (rows.take (k - rs.length)).length = k - rs.length := by simp; omega
      refine Wp.call (take_row hL4 (r := rows[k - rs.length]) (g.rk hmem) (g.rw _ hmem) (by omega) hdt (by rw [hlt]; exact hw3) (by omega) (by omega)) ?_
      rintro _ S5 ⟨rfl, h5, k5⟩
      simp_arith [Ly.v_fld, Ly.v_meth, Ly.k_me2, Ly.v_make, Ly.k_mk, Ly.v_fldset, Ly.k_fs, Ly.v_fldaug, Ly.k_fa2, Ly.look1, List.mem_cons, List.not_mem_nil, or_false, true_or, or_true, tb]
      refine ⟨by omega, ⟨_, _, _, rfl⟩, fin _ S5 rfl ?_ k5⟩
      have e1 : k + 1 - rs.length = (k - rs.length) + 1 := by omega
      rw [e1, take_at hr, List.take_of_length_le (show rs.length ≤ k + 1 by omega)]
      rw [List.take_of_length_le (show rs.length ≤ k by omega)] at h5
      exact h5
  · rintro l S3 ⟨-, ⟨o3, o4, o5, rfl⟩, hL3, hl3, hs3, hK3⟩
    rw [List.length_map, List.length_map, allW_len, List.take_of_length_le (show rs.length ≤ rs.length + rows.length by omega), List.take_of_length_le (show rows.length ≤ rs.length + rows.length - rs.length by omega)] at hL3
    have elast : oIx (.ref S.length) (.int (-1)) S3 = .ok (.str "") S3 := by
      have hseq : seqD (.ref S.length) S3 = some (((allW rs rows).map lineS).map D.str ++ [.str ""]) := by simp [seqD, hs3]
      refine oIx_at hseq ?_
      have h2 : (-1 + ((((allW rs rows).map lineS).map D.str).length + 1 : Int)).toNat = (((allW rs rows).map lineS).map D.str).length := by omega
      have h3 : (0 : Int) ≤ -1 + (((((allW rs rows).map lineS).map D.str).length : Int) + 1) := by omega
      have h4 : (1 : Int) ≤ ((((allW rs rows).map lineS).map D.str).length : Int) + 1 := by omega
      generalize ((allW rs rows).map lineS).map D.str = zs at *
      simp [L2.atI, L2.ixN, h2, h3, h4]
    simp_arith [Ly.v_fld, Ly.v_meth, Ly.k_me2, Ly.v_make, Ly.k_mk, Ly.v_fldset, Ly.k_fs, Ly.v_fldaug, Ly.k_fa2, Ly.look1, List.mem_cons, List.not_mem_nil, or_false, true_or, or_true, -v_seq]
    rw [v_seq]
    simp_arith [Ly.v_fld, Ly.v_meth, Ly.k_me2, Ly.v_make, Ly.k_mk, Ly.v_fldset, Ly.k_fs, Ly.v_fldaug, Ly.k_fa2, Ly.look1, List.mem_cons, List.not_mem_nil, or_false, true_or, or_true, k_fl hL3.i, List.lookup, beq_lit, String.reduceBEq, bTuple_lst hL3.r, bTuple_lst hL3.w, -v_seq]
    rw [v_seq]
    simp_arith [Ly.v_fld, Ly.v_meth, Ly.k_me2, Ly.v_make, Ly.k_mk, Ly.v_fldset, Ly.k_fs, Ly.v_fldaug, Ly.k_fa2, Ly.look1, List.mem_cons, List.not_mem_nil, or_false, true_or, or_true, show ∀ S, oNeg (.int 1) S = .ok (.int (-1)) S from fun _ => rfl, elast, oNe_str, -v_seq]
    refine Wp.call (show Wp NoX (m_is_code [codeV rs rows] S3) _ from code_okB g.dt (by omega)) ?_
    rintro _ S4 ⟨rfl, rfl⟩
    have hcb : codeB (codeV rs rows) = true := g.cb
    simp_arith [Ly.v_fld, Ly.v_meth, Ly.k_me2, Ly.v_make, Ly.k_mk, Ly.v_fldset, Ly.k_fs, Ly.v_fldaug, Ly.k_fa2, Ly.look1, List.mem_cons, List.not_mem_nil, or_false, true_or, or_true, hcb, tb]
    exact ⟨rfl, hK3⟩
theorem codeV_same (g : GC rs rows) : oNe (codeV rs rows) (codeV rs rows) S = .ok (.bl false) S := by
  obtain ⟨p, d⟩ := g.dt.plain
  have hp : D.plains [.tup (rs.map Rg.D), .tup (rows.map MRow.D)] = true := by simpa [D.plain] using p
  have hd : PyData.depthAll (D.toPs [.tup (rs.map Rg.D), .tup (rows.map MRow.D)]) ≤ 30 := by
    simp only [D.toP, PyData.depth] at d; omega
  have : cEqD (codeV rs rows) (codeV rs rows) S = some true := cEqD_same rfl (pd_tup hp hd).1 (pd_tup hp hd).1 (pd_tup (S := S) hp hd).2
  simp [oNe, this]
theorem one_ok (g : GC rs rows) {x y z v : D} {o5 : Option D} : Wp NoX (lb_law_0 cA [some x, some y, some z, some v, some (codeV rs rows), o5] S) fun f S' => (∃ o5, f = .nx [some x, some y, some z, some v, some (codeV rs rows), o5]) ∧ Kp [] S S' := by
  unfold lb_law_0
  rw [v_seq]
  simp_arith [-v_seq]
  refine Wp.call (listing_ok g) ?_
  rintro _ S1 ⟨rfl, T, rfl, hT⟩
  simp_arith []
  refine Wp.call (write_ok g) ?_
  rintro _ S2 ⟨k2, T', rfl, hT'⟩
  have e : T' = T := ext_tl (hT'.trans hT.symm)
  subst e
  simp_arith [oNe_str]
  refine Wp.call (read_ok g hT) ?_
  rintro _ S3 ⟨rfl, k3⟩
  simp_arith [codeV_same g]
  exact ⟨⟨_, rfl⟩, k2.trans k3⟩
theorem GC.noRegs (g : GC rs rows) : GC [] rows := by
  refine GC.of ?_ ?_
  · have := g.cb
    simp only [codeB, Bool.and_eq_true] at this ⊢
    obtain ⟨⟨⟨⟨_, _⟩, c3⟩, c4⟩, c5⟩ := this
    exact ⟨⟨⟨⟨by simp, by rfl⟩, c3⟩, c4⟩, c5⟩
  · have := g.dt
    refine Dt.tup (xs := [.tup (([] : List Rg).map Rg.D), .tup (rows.map MRow.D)]) (by simp) fun x hx => ?_
    simp only [List.mem_cons, List.not_mem_nil, or_false] at hx
    rcases hx with rfl | rfl
    · exact .tup (by simp) (by simp)
    · cases this with | tup _ hh => exact hh (.tup (rows.map MRow.D)) (by simp)
theorem GC.stop (g : GC rs rows) {t : Nat} (ht : t < 16) : GC rs [.stop t] := by
  have hr : rowB 1 (MRow.stop t).D = true := by
    rw [rowB_R]
    simp [partsB, fldR, ksR, partB, ofString_inj, nmB, nD]; omega
  refine GC.of ?_ ?_
  · have := g.cb
    simp only [codeB, Bool.and_eq_true] at this ⊢
    obtain ⟨⟨⟨⟨c1, c2⟩, c3⟩, c4⟩, c5⟩ := this
    refine ⟨⟨⟨⟨c1, c2⟩, by simp⟩, ?_⟩, ?_⟩
    · simpa using hr
    · simp [MRow.D, endB, amD]
  · have := g.dt
    refine Dt.tup (xs := [.tup (rs.map Rg.D), .tup ([MRow.stop t].map MRow.D)]) (by simp) fun x hx => ?_
    · simp only [List.mem_cons, List.not_mem_nil, or_false] at hx
      rcases hx with rfl | rfl
      · cases this with | tup _ hh => exact hh (.tup (rs.map Rg.D)) (by simp)
      · refine .tup (by simp) fun y hy => ?_
        simp only [List.map_cons, List.map_nil, List.mem_cons, List.not_mem_nil, or_false] at hy
        subst hy
        exact .tup (by simp) fun z hz => by
          simp only [List.mem_cons, List.not_mem_nil, or_false] at hz
          rcases hz with rfl | rfl
          · exact .str (by decide +kernel)
          · exact .int _
end
theorem law_true (cA : Nat → Addr) : LawTrue (m_law cA) := by
  intro ns x S hn _ _ _ _ hx _
  have main : Wp NoX (m_law cA [x] S) fun v S' => v = .bl true := by
    refine wp_def0 rfl ?_
    unfold b_law
    obtain ⟨row, hr, e1⟩ := stream_true (most := 400) hx hn (by decide)
    have hd1 : DrwS (S ++ [.lst (row.map D.int), drawsO S.length 0 row.length]) (S.length + 1) S.length := ⟨row, row.length, 0, by simp, by simp, by omega, by omega⟩
    simp_arith [is_streamL, e1, -v_for]
    generalize S ++ [.lst (row.map D.int), drawsO S.length 0 row.length] = S1 at hd1
    generalize S.length + 1 = i at *
    generalize S.length = j at *
    simp_arith [rng1 (n := 3) S1 (by decide) (by decide)]
    refine wp_rng (fun k l S' => (∃ o2 o3 o4 o5 : Option D, l = [some x, some (.ref i), o2, o3, o4, o5]) ∧ DrwS S' i j) ⟨⟨_, _, _, _, rfl⟩, hd1⟩ ?_ ?_
    · rintro k l S2 hk ⟨⟨o2, o3, o4, o5, rfl⟩, d2⟩
      have e0 : (0 : Int) + (k : Int) = ((k : Nat) : Int) := by omega
      have hk3 : k < 3 := hk
      unfold lb_law_1
      rw [e0]
      simp_arith [is_codeL]
      refine Wp.call (code_draw d2) ?_
      rintro _ S3 ⟨⟨rs, rows, rfl, hB, hD⟩, d3, k3⟩
      have g := GC.of hB hD
      have g2 := g.noRegs
      have g3 := g.stop (t := k) (by omega)
      have ec : D.tup [D.tup (rs.map Rg.D), D.tup (rows.map MRow.D)] = codeV rs rows := rfl
      have x1 : ∀ S, oIx (codeV rs rows) (.int 1) S = .ok (.tup (rows.map MRow.D)) S := fun S => tix1
      have x0 : ∀ S, oIx (codeV rs rows) (.int 0) S = .ok (.tup (rs.map Rg.D)) S := fun S => tix0
      rw [ec]
      have ei : oIt (.ref S3.length) (S3 ++ [O.lst [codeV rs rows, codeV [] rows, codeV rs [.stop k]]]) = .ok (.lst S3.length) (S3 ++ [O.lst [codeV rs rows, codeV [] rows, codeV rs [.stop k]]]) := oIt_lst get_end
      have eL : O.lst [codeV rs rows, .tup [.tup [], .tup (rows.map MRow.D)], .tup [.tup (rs.map Rg.D), .tup [.tup [.str "stop", nD k]]]] = .lst [codeV rs rows, codeV [] rows, codeV rs [.stop k]] := rfl
      simp_arith [x1, x0, eL, ei]
      have d4 : DrwS (S3 ++ [O.lst [codeV rs rows, codeV [] rows, codeV rs [.stop k]]]) i j := d3.new
      have hi := d3.lt
      refine wp_lst (ds := [codeV rs rows, codeV [] rows, codeV rs [.stop k]]) (fun pre l S' => (∃ o4 o5 : Option D, l = [some x, some (.ref i), some (nD k), some (codeV rs rows), o4, o5]) ∧ Kp [] (S3 ++ [O.lst [codeV rs rows, codeV [] rows, codeV rs [.stop k]]]) S') (fun _ _ S' h => seqAt_lst (h.2.get get_end (by simp))) ⟨⟨_, _, rfl⟩, Kp.refl⟩ ?_ ?_
      · rintro pre c post l S4 hsp ⟨⟨o4, o5, rfl⟩, hK⟩
        have hc : ∃ rs' rows', GC rs' rows' ∧ c = codeV rs' rows' := by
          have hm : c ∈ [codeV rs rows, codeV [] rows, codeV rs [.stop k]] := by rw [hsp]; simp
          simp only [List.mem_cons, List.not_mem_nil, or_false] at hm
          rcases hm with rfl | rfl | rfl
          · exact ⟨_, _, g, rfl⟩
          · exact ⟨_, _, g2, rfl⟩
          · exact ⟨_, _, g3, rfl⟩
        obtain ⟨rs', rows', gc, rfl⟩ := hc
        simp_arith []
        refine (one_ok gc).mono (fun _ _ _ _ h => h) ?_
        rintro f S5 ⟨⟨o5, rfl⟩, k5⟩
        exact ⟨⟨_, _, rfl⟩, hK.trans k5⟩
      · rintro l S4 ⟨⟨o4, o5, rfl⟩, hK⟩
        exact ⟨⟨_, _, _, _, rfl⟩, d4.kp0 hK⟩
    · rintro l S2 ⟨⟨o2, o3, o4, o5, rfl⟩, d2⟩
      simp_arith []
  obtain ⟨v, S', e, rfl⟩ := main.ex
  exact ⟨S', e⟩
end GK17
set_option Elab.async false
set_option linter.all false
set_option maxRecDepth 100000
set_option maxHeartbeats 4000000
namespace GK17
open PySem PySem.Spec L2 Ly
open PyProof.Rows hiding St
theorem all_mk {l : PySem.W.OpenLaw} {w : World} {K : PySem.W.Frag} {h : Heap} {mg : Str → Option Value} {fa : Addr} (X : K.In h) (G : h.Ns mainGlobals mg) (hfa : mg "law" = some (.ref fa))
    {k_Listed : Addr} {f__law_mix : Addr} {od__law_mix an__law_mix : Option Addr} {sl__law_mix : Array (Option Value)} {oc__law_mix kV__law_mix dc__law_mix pm__law_mix cd__law_mix ct__law_mix : Value} {f__law_stream : Addr} {od__law_stream an__law_stream : Option Addr} {sl__law_stream : Array (Option Value)} {oc__law_stream kV__law_stream dc__law_stream pm__law_stream cd__law_stream ct__law_stream : Value} {f__law_pick : Addr} {od__law_pick an__law_pick : Option Addr} {sl__law_pick : Array (Option Value)} {oc__law_pick kV__law_pick dc__law_pick pm__law_pick cd__law_pick ct__law_pick : Value} {f__law_place : Addr} {od__law_place an__law_place : Option Addr} {sl__law_place : Array (Option Value)} {oc__law_place kV__law_place dc__law_place pm__law_place cd__law_place ct__law_place : Value} {f__law_reg : Addr} {od__law_reg an__law_reg : Option Addr} {sl__law_reg : Array (Option Value)} {oc__law_reg kV__law_reg dc__law_reg pm__law_reg cd__law_reg ct__law_reg : Value} {f__law_row : Addr} {od__law_row an__law_row : Option Addr} {sl__law_row : Array (Option Value)} {oc__law_row kV__law_row dc__law_row pm__law_row cd__law_row ct__law_row : Value} {f__law_code : Addr} {od__law_code an__law_code : Option Addr} {sl__law_code : Array (Option Value)} {oc__law_code kV__law_code dc__law_code pm__law_code cd__law_code ct__law_code : Value} {f__law_listing : Addr} {od__law_listing an__law_listing : Option Addr} {sl__law_listing : Array (Option Value)} {oc__law_listing kV__law_listing dc__law_listing pm__law_listing cd__law_listing ct__law_listing : Value} {f_write_listing : Addr} {od_write_listing an_write_listing : Option Addr} {sl_write_listing : Array (Option Value)} {oc_write_listing kV_write_listing dc_write_listing pm_write_listing cd_write_listing ct_write_listing : Value} {f_Listed_m___init__ : Addr} {od_Listed_m___init__ an_Listed_m___init__ : Option Addr} {sl_Listed_m___init__ : Array (Option Value)} {oc_Listed_m___init__ kV_Listed_m___init__ dc_Listed_m___init__ pm_Listed_m___init__ cd_Listed_m___init__ ct_Listed_m___init__ : Value} {f__number : Addr} {od__number an__number : Option Addr} {sl__number : Array (Option Value)} {oc__number kV__number dc__number pm__number cd__number ct__number : Value} {f_is_label : Addr} {od_is_label an_is_label : Option Addr} {sl_is_label : Array (Option Value)} {oc_is_label kV_is_label dc_is_label pm_is_label cd_is_label ct_is_label : Value} {f_Listed_m_take_region : Addr} {od_Listed_m_take_region an_Listed_m_take_region : Option Addr} {sl_Listed_m_take_region : Array (Option Value)} {oc_Listed_m_take_region kV_Listed_m_take_region dc_Listed_m_take_region pm_Listed_m_take_region cd_Listed_m_take_region ct_Listed_m_take_region : Value} {f_is_number : Addr} {od_is_number an_is_number : Option Addr} {sl_is_number : Array (Option Value)} {oc_is_number kV_is_number dc_is_number pm_is_number cd_is_number ct_is_number : Value} {f_is_mask : Addr} {od_is_mask an_is_mask : Option Addr} {sl_is_mask : Array (Option Value)} {oc_is_mask kV_is_mask dc_is_mask pm_is_mask cd_is_mask ct_is_mask : Value} {f__is_part : Addr} {od__is_part an__is_part : Option Addr} {sl__is_part : Array (Option Value)} {oc__is_part kV__is_part dc__is_part pm__is_part cd__is_part ct__is_part : Value} {f_is_row : Addr} {od_is_row an_is_row : Option Addr} {sl_is_row : Array (Option Value)} {oc_is_row kV_is_row dc_is_row pm_is_row cd_is_row ct_is_row : Value} {f__part : Addr} {od__part an__part : Option Addr} {sl__part : Array (Option Value)} {oc__part kV__part dc__part pm__part cd__part ct__part : Value} {f_Listed_m_take : Addr} {od_Listed_m_take an_Listed_m_take : Option Addr} {sl_Listed_m_take : Array (Option Value)} {oc_Listed_m_take kV_Listed_m_take dc_Listed_m_take pm_Listed_m_take cd_Listed_m_take ct_Listed_m_take : Value} {f__are_regions : Addr} {od__are_regions an__are_regions : Option Addr} {sl__are_regions : Array (Option Value)} {oc__are_regions kV__are_regions dc__are_regions pm__are_regions cd__are_regions ct__are_regions : Value} {f_is_code : Addr} {od_is_code an_is_code : Option Addr} {sl_is_code : Array (Option Value)} {oc_is_code kV_is_code dc_is_code pm_is_code cd_is_code ct_is_code : Value} {f_read_listing : Addr} {od_read_listing an_read_listing : Option Addr} {sl_read_listing : Array (Option Value)} {oc_read_listing kV_read_listing dc_read_listing pm_read_listing cd_read_listing ct_read_listing : Value} {f_law : Addr} {od_law an_law : Option Addr} {sl_law : Array (Option Value)} {oc_law kV_law dc_law pm_law cd_law ct_law : Value} {u_MOST_DIGITS : Value} {u_DIGITS : Value} {u_MOST_REGIONS : Value} {u_GREATEST_BASE : Value} {u_GREATEST_SIZE : Value} {ad_SIGNS : Addr} {cd_SIGNS : Option Addr} {n_SIGNS : Nat} {sl_SIGNS : Array (Option Value)} {its_SIGNS : Array Value} {u_GREATEST_WORD : Value} {u_REGISTERS : Value} {ad_CODE_FORMS : Addr} {n_CODE_FORMS : Nat} {es_CODE_FORMS : Array DictEntry} {ad_CODE_FORMS_0 : Addr} {oad_CODE_FORMS_0 : Option Addr} {nad_CODE_FORMS_0 : Nat} {sad_CODE_FORMS_0 : Array (Option Value)} {iad_CODE_FORMS_0 : Array Value} {ad_CODE_FORMS_1 : Addr} {oad_CODE_FORMS_1 : Option Addr} {nad_CODE_FORMS_1 : Nat} {sad_CODE_FORMS_1 : Array (Option Value)} {iad_CODE_FORMS_1 : Array Value} {ad_CODE_FORMS_2 : Addr} {oad_CODE_FORMS_2 : Option Addr} {nad_CODE_FORMS_2 : Nat} {sad_CODE_FORMS_2 : Array (Option Value)} {iad_CODE_FORMS_2 : Array Value} {ad_CODE_FORMS_3 : Addr} {oad_CODE_FORMS_3 : Option Addr} {nad_CODE_FORMS_3 : Nat} {sad_CODE_FORMS_3 : Array (Option Value)} {iad_CODE_FORMS_3 : Array Value} {ad_CODE_FORMS_4 : Addr} {oad_CODE_FORMS_4 : Option Addr} {nad_CODE_FORMS_4 : Nat} {sad_CODE_FORMS_4 : Array (Option Value)} {iad_CODE_FORMS_4 : Array Value} {ad_CODE_FORMS_5 : Addr} {oad_CODE_FORMS_5 : Option Addr} {nad_CODE_FORMS_5 : Nat} {sad_CODE_FORMS_5 : Array (Option Value)} {iad_CODE_FORMS_5 : Array Value} {ad_CODE_FORMS_6 : Addr} {oad_CODE_FORMS_6 : Option Addr} {nad_CODE_FORMS_6 : Nat} {sad_CODE_FORMS_6 : Array (Option Value)} {iad_CODE_FORMS_6 : Array Value} {ad_CODE_FORMS_7 : Addr} {oad_CODE_FORMS_7 : Option Addr} {nad_CODE_FORMS_7 : Nat} {sad_CODE_FORMS_7 : Array (Option Value)} {iad_CODE_FORMS_7 : Array Value} {ad_CODE_FORMS_8 : Addr} {oad_CODE_FORMS_8 : Option Addr} {nad_CODE_FORMS_8 : Nat} {sad_CODE_FORMS_8 : Array (Option Value)} {iad_CODE_FORMS_8 : Array Value} {u_MOST_ROWS : Value}
    (a_Listed : PySem.W.nsIn K mainGlobals "Listed" = some (some (.ref k_Listed)))
    (q1_Listed : PySem.W.plainGet K k_Listed Str.empty = true)
    (q2_Listed : PySem.W.hasDictIn K k_Listed = true)
    (q3_Listed : PySem.W.plainOver K k_Listed = true)
    (q4_Listed : PySem.W.findIn K (.ref k_Listed) "__setattr__" = some (some (.builtin "object.__setattr__")))
    (a__law_mix : PySem.W.nsIn K mainGlobals "_law_mix" = some (some (.ref f__law_mix)))
    (l__law_mix : K.lookup f__law_mix = some ⟨oc__law_mix, od__law_mix, .func (PySem.W.fnOf "_law_mix" "_law_mix" (defArgs s__law_mix) (defBody s__law_mix) (defScope s__law_mix) .none kV__law_mix dc__law_mix pm__law_mix an__law_mix cd__law_mix ct__law_mix), sl__law_mix⟩)
    (c__law_mix : PySem.W.codeIn K cd__law_mix "_law_mix" = true)
    (k__law_mix : PySem.W.keepIn K (.ref f__law_mix) = true)
    (a__law_stream : PySem.W.nsIn K mainGlobals "_law_stream" = some (some (.ref f__law_stream)))
    (l__law_stream : K.lookup f__law_stream = some ⟨oc__law_stream, od__law_stream, .func (PySem.W.fnOf "_law_stream" "_law_stream" (defArgs s__law_stream) (defBody s__law_stream) (defScope s__law_stream) .none kV__law_stream dc__law_stream pm__law_stream an__law_stream cd__law_stream ct__law_stream), sl__law_stream⟩)
    (c__law_stream : PySem.W.codeIn K cd__law_stream "_law_stream" = true)
    (k__law_stream : PySem.W.keepIn K (.ref f__law_stream) = true)
    (a__law_pick : PySem.W.nsIn K mainGlobals "_law_pick" = some (some (.ref f__law_pick)))
    (l__law_pick : K.lookup f__law_pick = some ⟨oc__law_pick, od__law_pick, .func (PySem.W.fnOf "_law_pick" "_law_pick" (defArgs s__law_pick) (defBody s__law_pick) (defScope s__law_pick) .none kV__law_pick dc__law_pick pm__law_pick an__law_pick cd__law_pick ct__law_pick), sl__law_pick⟩)
    (c__law_pick : PySem.W.codeIn K cd__law_pick "_law_pick" = true)
    (k__law_pick : PySem.W.keepIn K (.ref f__law_pick) = true)
    (a__law_place : PySem.W.nsIn K mainGlobals "_law_place" = some (some (.ref f__law_place)))
    (l__law_place : K.lookup f__law_place = some ⟨oc__law_place, od__law_place, .func (PySem.W.fnOf "_law_place" "_law_place" (defArgs s__law_place) (defBody s__law_place) (defScope s__law_place) .none kV__law_place dc__law_place pm__law_place an__law_place cd__law_place ct__law_place), sl__law_place⟩)
    (c__law_place : PySem.W.codeIn K cd__law_place "_law_place" = true)
    (k__law_place : PySem.W.keepIn K (.ref f__law_place) = true)
    (a__law_reg : PySem.W.nsIn K mainGlobals "_law_reg" = some (some (.ref f__law_reg)))
    (l__law_reg : K.lookup f__law_reg = some ⟨oc__law_reg, od__law_reg, .func (PySem.W.fnOf "_law_reg" "_law_reg" (defArgs s__law_reg) (defBody s__law_reg) (defScope s__law_reg) .none kV__law_reg dc__law_reg pm__law_reg an__law_reg cd__law_reg ct__law_reg), sl__law_reg⟩)
    (c__law_reg : PySem.W.codeIn K cd__law_reg "_law_reg" = true)
    (k__law_reg : PySem.W.keepIn K (.ref f__law_reg) = true)
    (a__law_row : PySem.W.nsIn K mainGlobals "_law_row" = some (some (.ref f__law_row)))
    (l__law_row : K.lookup f__law_row = some ⟨oc__law_row, od__law_row, .func (PySem.W.fnOf "_law_row" "_law_row" (defArgs s__law_row) (defBody s__law_row) (defScope s__law_row) .none kV__law_row dc__law_row pm__law_row an__law_row cd__law_row ct__law_row), sl__law_row⟩)
    (c__law_row : PySem.W.codeIn K cd__law_row "_law_row" = true)
    (k__law_row : PySem.W.keepIn K (.ref f__law_row) = true)
    (a__law_code : PySem.W.nsIn K mainGlobals "_law_code" = some (some (.ref f__law_code)))
    (l__law_code : K.lookup f__law_code = some ⟨oc__law_code, od__law_code, .func (PySem.W.fnOf "_law_code" "_law_code" (defArgs s__law_code) (defBody s__law_code) (defScope s__law_code) .none kV__law_code dc__law_code pm__law_code an__law_code cd__law_code ct__law_code), sl__law_code⟩)
    (c__law_code : PySem.W.codeIn K cd__law_code "_law_code" = true)
    (k__law_code : PySem.W.keepIn K (.ref f__law_code) = true)
    (a__law_listing : PySem.W.nsIn K mainGlobals "_law_listing" = some (some (.ref f__law_listing)))
    (l__law_listing : K.lookup f__law_listing = some ⟨oc__law_listing, od__law_listing, .func (PySem.W.fnOf "_law_listing" "_law_listing" (defArgs s__law_listing) (defBody s__law_listing) (defScope s__law_listing) .none kV__law_listing dc__law_listing pm__law_listing an__law_listing cd__law_listing ct__law_listing), sl__law_listing⟩)
    (c__law_listing : PySem.W.codeIn K cd__law_listing "_law_listing" = true)
    (k__law_listing : PySem.W.keepIn K (.ref f__law_listing) = true)
    (a_write_listing : PySem.W.nsIn K mainGlobals "write_listing" = some (some (.ref f_write_listing)))
    (l_write_listing : K.lookup f_write_listing = some ⟨oc_write_listing, od_write_listing, .func (PySem.W.fnOf "write_listing" "write_listing" (defArgs s_write_listing) (defBody s_write_listing) (defScope s_write_listing) .none kV_write_listing dc_write_listing pm_write_listing an_write_listing cd_write_listing ct_write_listing), sl_write_listing⟩)
    (c_write_listing : PySem.W.codeIn K cd_write_listing "write_listing" = true)
    (k_write_listing : PySem.W.keepIn K (.ref f_write_listing) = true)
    (a_Listed_m___init__ : PySem.W.findIn K (.ref k_Listed) "__init__" = some (some (.ref f_Listed_m___init__)))
    (l_Listed_m___init__ : K.lookup f_Listed_m___init__ = some ⟨oc_Listed_m___init__, od_Listed_m___init__, .func (PySem.W.fnOf "__init__" "Listed.__init__" (defArgs s_Listed_m___init__) (defBody s_Listed_m___init__) (defScope s_Listed_m___init__) .none kV_Listed_m___init__ dc_Listed_m___init__ pm_Listed_m___init__ an_Listed_m___init__ cd_Listed_m___init__ ct_Listed_m___init__), sl_Listed_m___init__⟩)
    (c_Listed_m___init__ : PySem.W.codeIn K cd_Listed_m___init__ "Listed.__init__" = true)
    (k_Listed_m___init__ : PySem.W.keepIn K (.ref f_Listed_m___init__) = true)
    (i_Listed_m___init__ : PySem.W.isFn K (.ref f_Listed_m___init__) = true)
    (a__number : PySem.W.nsIn K mainGlobals "_number" = some (some (.ref f__number)))
    (l__number : K.lookup f__number = some ⟨oc__number, od__number, .func (PySem.W.fnOf "_number" "_number" (defArgs s__number) (defBody s__number) (defScope s__number) .none kV__number dc__number pm__number an__number cd__number ct__number), sl__number⟩)
    (c__number : PySem.W.codeIn K cd__number "_number" = true)
    (k__number : PySem.W.keepIn K (.ref f__number) = true)
    (a_is_label : PySem.W.nsIn K mainGlobals "is_label" = some (some (.ref f_is_label)))
    (l_is_label : K.lookup f_is_label = some ⟨oc_is_label, od_is_label, .func (PySem.W.fnOf "is_label" "is_label" (defArgs s_is_label) (defBody s_is_label) (defScope s_is_label) .none kV_is_label dc_is_label pm_is_label an_is_label cd_is_label ct_is_label), sl_is_label⟩)
    (c_is_label : PySem.W.codeIn K cd_is_label "is_label" = true)
    (k_is_label : PySem.W.keepIn K (.ref f_is_label) = true)
    (a_Listed_m_take_region : PySem.W.findIn K (.ref k_Listed) "take_region" = some (some (.ref f_Listed_m_take_region)))
    (l_Listed_m_take_region : K.lookup f_Listed_m_take_region = some ⟨oc_Listed_m_take_region, od_Listed_m_take_region, .func (PySem.W.fnOf "take_region" "Listed.take_region" (defArgs s_Listed_m_take_region) (defBody s_Listed_m_take_region) (defScope s_Listed_m_take_region) .none kV_Listed_m_take_region dc_Listed_m_take_region pm_Listed_m_take_region an_Listed_m_take_region cd_Listed_m_take_region ct_Listed_m_take_region), sl_Listed_m_take_region⟩)
    (c_Listed_m_take_region : PySem.W.codeIn K cd_Listed_m_take_region "Listed.take_region" = true)
    (k_Listed_m_take_region : PySem.W.keepIn K (.ref f_Listed_m_take_region) = true)
    (i_Listed_m_take_region : PySem.W.isFn K (.ref f_Listed_m_take_region) = true)
    (a_is_number : PySem.W.nsIn K mainGlobals "is_number" = some (some (.ref f_is_number)))
    (l_is_number : K.lookup f_is_number = some ⟨oc_is_number, od_is_number, .func (PySem.W.fnOf "is_number" "is_number" (defArgs s_is_number) (defBody s_is_number) (defScope s_is_number) .none kV_is_number dc_is_number pm_is_number an_is_number cd_is_number ct_is_number), sl_is_number⟩)
    (c_is_number : PySem.W.codeIn K cd_is_number "is_number" = true)
    (k_is_number : PySem.W.keepIn K (.ref f_is_number) = true)
    (a_is_mask : PySem.W.nsIn K mainGlobals "is_mask" = some (some (.ref f_is_mask)))
    (l_is_mask : K.lookup f_is_mask = some ⟨oc_is_mask, od_is_mask, .func (PySem.W.fnOf "is_mask" "is_mask" (defArgs s_is_mask) (defBody s_is_mask) (defScope s_is_mask) .none kV_is_mask dc_is_mask pm_is_mask an_is_mask cd_is_mask ct_is_mask), sl_is_mask⟩)
    (c_is_mask : PySem.W.codeIn K cd_is_mask "is_mask" = true)
    (k_is_mask : PySem.W.keepIn K (.ref f_is_mask) = true)
    (a__is_part : PySem.W.nsIn K mainGlobals "_is_part" = some (some (.ref f__is_part)))
    (l__is_part : K.lookup f__is_part = some ⟨oc__is_part, od__is_part, .func (PySem.W.fnOf "_is_part" "_is_part" (defArgs s__is_part) (defBody s__is_part) (defScope s__is_part) .none kV__is_part dc__is_part pm__is_part an__is_part cd__is_part ct__is_part), sl__is_part⟩)
    (c__is_part : PySem.W.codeIn K cd__is_part "_is_part" = true)
    (k__is_part : PySem.W.keepIn K (.ref f__is_part) = true)
    (a_is_row : PySem.W.nsIn K mainGlobals "is_row" = some (some (.ref f_is_row)))
    (l_is_row : K.lookup f_is_row = some ⟨oc_is_row, od_is_row, .func (PySem.W.fnOf "is_row" "is_row" (defArgs s_is_row) (defBody s_is_row) (defScope s_is_row) .none kV_is_row dc_is_row pm_is_row an_is_row cd_is_row ct_is_row), sl_is_row⟩)
    (c_is_row : PySem.W.codeIn K cd_is_row "is_row" = true)
    (k_is_row : PySem.W.keepIn K (.ref f_is_row) = true)
    (a__part : PySem.W.nsIn K mainGlobals "_part" = some (some (.ref f__part)))
    (l__part : K.lookup f__part = some ⟨oc__part, od__part, .func (PySem.W.fnOf "_part" "_part" (defArgs s__part) (defBody s__part) (defScope s__part) .none kV__part dc__part pm__part an__part cd__part ct__part), sl__part⟩)
    (c__part : PySem.W.codeIn K cd__part "_part" = true)
    (k__part : PySem.W.keepIn K (.ref f__part) = true)
    (a_Listed_m_take : PySem.W.findIn K (.ref k_Listed) "take" = some (some (.ref f_Listed_m_take)))
    (l_Listed_m_take : K.lookup f_Listed_m_take = some ⟨oc_Listed_m_take, od_Listed_m_take, .func (PySem.W.fnOf "take" "Listed.take" (defArgs s_Listed_m_take) (defBody s_Listed_m_take) (defScope s_Listed_m_take) .none kV_Listed_m_take dc_Listed_m_take pm_Listed_m_take an_Listed_m_take cd_Listed_m_take ct_Listed_m_take), sl_Listed_m_take⟩)
    (c_Listed_m_take : PySem.W.codeIn K cd_Listed_m_take "Listed.take" = true)
    (k_Listed_m_take : PySem.W.keepIn K (.ref f_Listed_m_take) = true)
    (i_Listed_m_take : PySem.W.isFn K (.ref f_Listed_m_take) = true)
    (a__are_regions : PySem.W.nsIn K mainGlobals "_are_regions" = some (some (.ref f__are_regions)))
    (l__are_regions : K.lookup f__are_regions = some ⟨oc__are_regions, od__are_regions, .func (PySem.W.fnOf "_are_regions" "_are_regions" (defArgs s__are_regions) (defBody s__are_regions) (defScope s__are_regions) .none kV__are_regions dc__are_regions pm__are_regions an__are_regions cd__are_regions ct__are_regions), sl__are_regions⟩)
    (c__are_regions : PySem.W.codeIn K cd__are_regions "_are_regions" = true)
    (k__are_regions : PySem.W.keepIn K (.ref f__are_regions) = true)
    (a_is_code : PySem.W.nsIn K mainGlobals "is_code" = some (some (.ref f_is_code)))
    (l_is_code : K.lookup f_is_code = some ⟨oc_is_code, od_is_code, .func (PySem.W.fnOf "is_code" "is_code" (defArgs s_is_code) (defBody s_is_code) (defScope s_is_code) .none kV_is_code dc_is_code pm_is_code an_is_code cd_is_code ct_is_code), sl_is_code⟩)
    (c_is_code : PySem.W.codeIn K cd_is_code "is_code" = true)
    (k_is_code : PySem.W.keepIn K (.ref f_is_code) = true)
    (a_read_listing : PySem.W.nsIn K mainGlobals "read_listing" = some (some (.ref f_read_listing)))
    (l_read_listing : K.lookup f_read_listing = some ⟨oc_read_listing, od_read_listing, .func (PySem.W.fnOf "read_listing" "read_listing" (defArgs s_read_listing) (defBody s_read_listing) (defScope s_read_listing) .none kV_read_listing dc_read_listing pm_read_listing an_read_listing cd_read_listing ct_read_listing), sl_read_listing⟩)
    (c_read_listing : PySem.W.codeIn K cd_read_listing "read_listing" = true)
    (k_read_listing : PySem.W.keepIn K (.ref f_read_listing) = true)
    (a_law : PySem.W.nsIn K mainGlobals "law" = some (some (.ref f_law)))
    (l_law : K.lookup f_law = some ⟨oc_law, od_law, .func (PySem.W.fnOf "law" "law" (defArgs s_law) (defBody s_law) (defScope s_law) .none kV_law dc_law pm_law an_law cd_law ct_law), sl_law⟩)
    (c_law : PySem.W.codeIn K cd_law "law" = true)
    (k_law : PySem.W.keepIn K (.ref f_law) = true)
    (n_Listed_regions : PySem.W.findIn K (.ref k_Listed) "regions" = some none)
    (n_Listed_base : PySem.W.findIn K (.ref k_Listed) "base" = some none)
    (n_Listed_rows : PySem.W.findIn K (.ref k_Listed) "rows" = some none)
    (x_Listed_take_region : PySem.W.findIn K (.ref k_Listed) "take_region" = some (some (.ref f_Listed_m_take_region)))
    (q5_Listed : PySem.W.makesIn K k_Listed = true)
    (q6_Listed : PySem.W.findIn K (.ref k_Listed) "__init__" = some (some (.ref f_Listed_m___init__)))
    (q7_Listed : PySem.W.keepIn K (.ref k_Listed) = true)
    (x_Listed_take : PySem.W.findIn K (.ref k_Listed) "take" = some (some (.ref f_Listed_m_take)))
    (a_MOST_DIGITS : PySem.W.nsIn K mainGlobals "MOST_DIGITS" = some (some u_MOST_DIGITS))
    (t_MOST_DIGITS : absV u_MOST_DIGITS = some (.int 10))
    (a_DIGITS : PySem.W.nsIn K mainGlobals "DIGITS" = some (some u_DIGITS))
    (t_DIGITS : absV u_DIGITS = some (.str "0123456789"))
    (a_MOST_REGIONS : PySem.W.nsIn K mainGlobals "MOST_REGIONS" = some (some u_MOST_REGIONS))
    (t_MOST_REGIONS : absV u_MOST_REGIONS = some (.int 1000))
    (a_GREATEST_BASE : PySem.W.nsIn K mainGlobals "GREATEST_BASE" = some (some u_GREATEST_BASE))
    (t_GREATEST_BASE : absV u_GREATEST_BASE = some (.int 500000))
    (a_GREATEST_SIZE : PySem.W.nsIn K mainGlobals "GREATEST_SIZE" = some (some u_GREATEST_SIZE))
    (t_GREATEST_SIZE : absV u_GREATEST_SIZE = some (.int 4096))
    (a_SIGNS : PySem.W.nsIn K mainGlobals "SIGNS" = some (some (.ref ad_SIGNS)))
    (l_SIGNS : K.lookup ad_SIGNS = some ⟨.type "tuple", cd_SIGNS, .seq its_SIGNS n_SIGNS, sl_SIGNS⟩)
    (t_SIGNS : its_SIGNS.toList.map absV = ([.str "+", .str "-", .str "*", .str "&", .str "|", .str "^", .str "<<", .str ">>", .str "==", .str "<", .str "<=", .str "div", .str "mod"] : List D).map flatC)
    (a_GREATEST_WORD : PySem.W.nsIn K mainGlobals "GREATEST_WORD" = some (some u_GREATEST_WORD))
    (t_GREATEST_WORD : absV u_GREATEST_WORD = some (.int 4294967295))
    (a_REGISTERS : PySem.W.nsIn K mainGlobals "REGISTERS" = some (some u_REGISTERS))
    (t_REGISTERS : absV u_REGISTERS = some (.int 16))
    (a_CODE_FORMS : PySem.W.nsIn K mainGlobals "CODE_FORMS" = some (some (.ref ad_CODE_FORMS)))
    (l_CODE_FORMS : K.lookup ad_CODE_FORMS = some ⟨.type "dict", none, .dict es_CODE_FORMS n_CODE_FORMS, #[]⟩)
    (t_wCODE_FORMS : (ad_CODE_FORMS == sysModules) = false)
    (t_kCODE_FORMS : es_CODE_FORMS.toList.map He.keyOf = He.keysIn w.params ["const", "op", "select", "load", "store", "out", "jump", "branch", "stop"])
    (t_vCODE_FORMS : es_CODE_FORMS.toList.map (·.val) = [.ref ad_CODE_FORMS_0, .ref ad_CODE_FORMS_1, .ref ad_CODE_FORMS_2, .ref ad_CODE_FORMS_3, .ref ad_CODE_FORMS_4, .ref ad_CODE_FORMS_5, .ref ad_CODE_FORMS_6, .ref ad_CODE_FORMS_7, .ref ad_CODE_FORMS_8])
    (l_ad_CODE_FORMS_0 : K.lookup ad_CODE_FORMS_0 = some ⟨.type "tuple", oad_CODE_FORMS_0, .seq iad_CODE_FORMS_0 nad_CODE_FORMS_0, sad_CODE_FORMS_0⟩)
    (t_ad_CODE_FORMS_0 : iad_CODE_FORMS_0.toList.map absV = ([.str "write", .str "word"] : List D).map flatC)
    (l_ad_CODE_FORMS_1 : K.lookup ad_CODE_FORMS_1 = some ⟨.type "tuple", oad_CODE_FORMS_1, .seq iad_CODE_FORMS_1 nad_CODE_FORMS_1, sad_CODE_FORMS_1⟩)
    (t_ad_CODE_FORMS_1 : iad_CODE_FORMS_1.toList.map absV = ([.str "sign", .str "write", .str "read", .str "read"] : List D).map flatC)
    (l_ad_CODE_FORMS_2 : K.lookup ad_CODE_FORMS_2 = some ⟨.type "tuple", oad_CODE_FORMS_2, .seq iad_CODE_FORMS_2 nad_CODE_FORMS_2, sad_CODE_FORMS_2⟩)
    (t_ad_CODE_FORMS_2 : iad_CODE_FORMS_2.toList.map absV = ([.str "write", .str "read", .str "read", .str "read"] : List D).map flatC)
    (l_ad_CODE_FORMS_3 : K.lookup ad_CODE_FORMS_3 = some ⟨.type "tuple", oad_CODE_FORMS_3, .seq iad_CODE_FORMS_3 nad_CODE_FORMS_3, sad_CODE_FORMS_3⟩)
    (t_ad_CODE_FORMS_3 : iad_CODE_FORMS_3.toList.map absV = ([.str "write", .str "read", .str "base", .str "mask"] : List D).map flatC)
    (l_ad_CODE_FORMS_4 : K.lookup ad_CODE_FORMS_4 = some ⟨.type "tuple", oad_CODE_FORMS_4, .seq iad_CODE_FORMS_4 nad_CODE_FORMS_4, sad_CODE_FORMS_4⟩)
    (t_ad_CODE_FORMS_4 : iad_CODE_FORMS_4.toList.map absV = ([.str "read", .str "base", .str "mask", .str "read"] : List D).map flatC)
    (l_ad_CODE_FORMS_5 : K.lookup ad_CODE_FORMS_5 = some ⟨.type "tuple", oad_CODE_FORMS_5, .seq iad_CODE_FORMS_5 nad_CODE_FORMS_5, sad_CODE_FORMS_5⟩)
    (t_ad_CODE_FORMS_5 : iad_CODE_FORMS_5.toList.map absV = ([.str "read"] : List D).map flatC)
    (l_ad_CODE_FORMS_6 : K.lookup ad_CODE_FORMS_6 = some ⟨.type "tuple", oad_CODE_FORMS_6, .seq iad_CODE_FORMS_6 nad_CODE_FORMS_6, sad_CODE_FORMS_6⟩)
    (t_ad_CODE_FORMS_6 : iad_CODE_FORMS_6.toList.map absV = ([.str "target"] : List D).map flatC)
    (l_ad_CODE_FORMS_7 : K.lookup ad_CODE_FORMS_7 = some ⟨.type "tuple", oad_CODE_FORMS_7, .seq iad_CODE_FORMS_7 nad_CODE_FORMS_7, sad_CODE_FORMS_7⟩)
    (t_ad_CODE_FORMS_7 : iad_CODE_FORMS_7.toList.map absV = ([.str "read", .str "target"] : List D).map flatC)
    (l_ad_CODE_FORMS_8 : K.lookup ad_CODE_FORMS_8 = some ⟨.type "tuple", oad_CODE_FORMS_8, .seq iad_CODE_FORMS_8 nad_CODE_FORMS_8, sad_CODE_FORMS_8⟩)
    (t_ad_CODE_FORMS_8 : iad_CODE_FORMS_8.toList.map absV = ([.str "read"] : List D).map flatC)
    (a_MOST_ROWS : PySem.W.nsIn K mainGlobals "MOST_ROWS" = some (some u_MOST_ROWS))
    (t_MOST_ROWS : absV u_MOST_ROWS = some (.int 100000))
    (z_int : PySem.W.nsIn K mainGlobals "int" = some none)
    (z_range : PySem.W.nsIn K mainGlobals "range" = some none)
    (z_min : PySem.W.nsIn K mainGlobals "min" = some none)
    (z_len : PySem.W.nsIn K mainGlobals "len" = some none)
    (z_tuple : PySem.W.nsIn K mainGlobals "tuple" = some none)
    (z_str : PySem.W.nsIn K mainGlobals "str" = some none)
    (z_enumerate : PySem.W.nsIn K mainGlobals "enumerate" = some none)
    (z_isinstance : PySem.W.nsIn K mainGlobals "isinstance" = some none)
    (z_bool : PySem.W.nsIn K mainGlobals "bool" = some none)
    (z_zip : PySem.W.nsIn K mainGlobals "zip" = some none) :
    ∃ fd : FuncData, (∀ (s : Shared) (v : Value), BindsTo s fd ⟨[v], []⟩ [("script", v)]) ∧ ∀ base : Heap, K.In base → base.Ns mainGlobals mg → FnOk l.prog w K mg base (L2.CX l.prog w) 7 fa fd ["script"] (spX K 1 (fun cA => m_law cA)) := by
  have e := hfa.symm.trans (PySem.W.mg_of X G a_law)
  cases e
  have F__law_mix := fun_mk (st := s__law_mix) l__law_mix c__law_mix k__law_mix
  have D__law_mix : DefAt K mg "_law_mix" s__law_mix ["cell", "k"] _ _ := ⟨F__law_mix, PySem.W.mg_of X G a__law_mix, F__law_mix.binds fun _ _ _ _ _ _ us hl => match us, hl with | [_, _], _ => rfl⟩
  have F__law_stream := fun_mk (st := s__law_stream) l__law_stream c__law_stream k__law_stream
  have D__law_stream : DefAt K mg "_law_stream" s__law_stream ["script", "most"] _ _ := ⟨F__law_stream, PySem.W.mg_of X G a__law_stream, F__law_stream.binds fun _ _ _ _ _ _ us hl => match us, hl with | [_, _], _ => rfl⟩
  have F__law_pick := fun_mk (st := s__law_pick) l__law_pick c__law_pick k__law_pick
  have D__law_pick : DefAt K mg "_law_pick" s__law_pick ["draws", "many"] _ _ := ⟨F__law_pick, PySem.W.mg_of X G a__law_pick, F__law_pick.binds fun _ _ _ _ _ _ us hl => match us, hl with | [_, _], _ => rfl⟩
  have F__law_place := fun_mk (st := s__law_place) l__law_place c__law_place k__law_place
  have D__law_place : DefAt K mg "_law_place" s__law_place ["draws"] _ _ := ⟨F__law_place, PySem.W.mg_of X G a__law_place, F__law_place.binds fun _ _ _ _ _ _ us hl => match us, hl with | [_], _ => rfl⟩
  have F__law_reg := fun_mk (st := s__law_reg) l__law_reg c__law_reg k__law_reg
  have D__law_reg : DefAt K mg "_law_reg" s__law_reg ["draws"] _ _ := ⟨F__law_reg, PySem.W.mg_of X G a__law_reg, F__law_reg.binds fun _ _ _ _ _ _ us hl => match us, hl with | [_], _ => rfl⟩
  have F__law_row := fun_mk (st := s__law_row) l__law_row c__law_row k__law_row
  have D__law_row : DefAt K mg "_law_row" s__law_row ["draws", "many"] _ _ := ⟨F__law_row, PySem.W.mg_of X G a__law_row, F__law_row.binds fun _ _ _ _ _ _ us hl => match us, hl with | [_, _], _ => rfl⟩
  have F__law_code := fun_mk (st := s__law_code) l__law_code c__law_code k__law_code
  have D__law_code : DefAt K mg "_law_code" s__law_code ["draws"] _ _ := ⟨F__law_code, PySem.W.mg_of X G a__law_code, F__law_code.binds fun _ _ _ _ _ _ us hl => match us, hl with | [_], _ => rfl⟩
  have F__law_listing := fun_mk (st := s__law_listing) l__law_listing c__law_listing k__law_listing
  have D__law_listing : DefAt K mg "_law_listing" s__law_listing ["code"] _ _ := ⟨F__law_listing, PySem.W.mg_of X G a__law_listing, F__law_listing.binds fun _ _ _ _ _ _ us hl => match us, hl with | [_], _ => rfl⟩
  have F_write_listing := fun_mk (st := s_write_listing) l_write_listing c_write_listing k_write_listing
  have D_write_listing : DefAt K mg "write_listing" s_write_listing ["code"] _ _ := ⟨F_write_listing, PySem.W.mg_of X G a_write_listing, F_write_listing.binds fun _ _ _ _ _ _ us hl => match us, hl with | [_], _ => rfl⟩
  have F_Listed_m___init__ := fun_mk (st := s_Listed_m___init__) l_Listed_m___init__ c_Listed_m___init__ k_Listed_m___init__
  have D_Listed_m___init__ : MetAt K "__init__" "Listed.__init__" s_Listed_m___init__ ["self"] _ _ := ⟨F_Listed_m___init__, F_Listed_m___init__.binds fun _ _ _ _ _ _ us hl => match us, hl with | [_], _ => rfl⟩
  have F__number := fun_mk (st := s__number) l__number c__number k__number
  have D__number : DefAt K mg "_number" s__number ["word"] _ _ := ⟨F__number, PySem.W.mg_of X G a__number, F__number.binds fun _ _ _ _ _ _ us hl => match us, hl with | [_], _ => rfl⟩
  have F_is_label := fun_mk (st := s_is_label) l_is_label c_is_label k_is_label
  have D_is_label : DefAt K mg "is_label" s_is_label ["thing"] _ _ := ⟨F_is_label, PySem.W.mg_of X G a_is_label, F_is_label.binds fun _ _ _ _ _ _ us hl => match us, hl with | [_], _ => rfl⟩
  have F_Listed_m_take_region := fun_mk (st := s_Listed_m_take_region) l_Listed_m_take_region c_Listed_m_take_region k_Listed_m_take_region
  have D_Listed_m_take_region : MetAt K "take_region" "Listed.take_region" s_Listed_m_take_region ["self", "words"] _ _ := ⟨F_Listed_m_take_region, F_Listed_m_take_region.binds fun _ _ _ _ _ _ us hl => match us, hl with | [_, _], _ => rfl⟩
  have F_is_number := fun_mk (st := s_is_number) l_is_number c_is_number k_is_number
  have D_is_number : DefAt K mg "is_number" s_is_number ["thing", "least", "most"] _ _ := ⟨F_is_number, PySem.W.mg_of X G a_is_number, F_is_number.binds fun _ _ _ _ _ _ us hl => match us, hl with | [_, _, _], _ => rfl⟩
  have F_is_mask := fun_mk (st := s_is_mask) l_is_mask c_is_mask k_is_mask
  have D_is_mask : DefAt K mg "is_mask" s_is_mask ["thing"] _ _ := ⟨F_is_mask, PySem.W.mg_of X G a_is_mask, F_is_mask.binds fun _ _ _ _ _ _ us hl => match us, hl with | [_], _ => rfl⟩
  have F__is_part := fun_mk (st := s__is_part) l__is_part c__is_part k__is_part
  have D__is_part : DefAt K mg "_is_part" s__is_part ["thing", "kind", "count"] _ _ := ⟨F__is_part, PySem.W.mg_of X G a__is_part, F__is_part.binds fun _ _ _ _ _ _ us hl => match us, hl with | [_, _, _], _ => rfl⟩
  have F_is_row := fun_mk (st := s_is_row) l_is_row c_is_row k_is_row
  have D_is_row : DefAt K mg "is_row" s_is_row ["thing", "count"] _ _ := ⟨F_is_row, PySem.W.mg_of X G a_is_row, F_is_row.binds fun _ _ _ _ _ _ us hl => match us, hl with | [_, _], _ => rfl⟩
  have F__part := fun_mk (st := s__part) l__part c__part k__part
  have D__part : DefAt K mg "_part" s__part ["word", "kind"] _ _ := ⟨F__part, PySem.W.mg_of X G a__part, F__part.binds fun _ _ _ _ _ _ us hl => match us, hl with | [_, _], _ => rfl⟩
  have F_Listed_m_take := fun_mk (st := s_Listed_m_take) l_Listed_m_take c_Listed_m_take k_Listed_m_take
  have D_Listed_m_take : MetAt K "take" "Listed.take" s_Listed_m_take ["self", "words"] _ _ := ⟨F_Listed_m_take, F_Listed_m_take.binds fun _ _ _ _ _ _ us hl => match us, hl with | [_, _], _ => rfl⟩
  have F__are_regions := fun_mk (st := s__are_regions) l__are_regions c__are_regions k__are_regions
  have D__are_regions : DefAt K mg "_are_regions" s__are_regions ["thing"] _ _ := ⟨F__are_regions, PySem.W.mg_of X G a__are_regions, F__are_regions.binds fun _ _ _ _ _ _ us hl => match us, hl with | [_], _ => rfl⟩
  have F_is_code := fun_mk (st := s_is_code) l_is_code c_is_code k_is_code
  have D_is_code : DefAt K mg "is_code" s_is_code ["thing"] _ _ := ⟨F_is_code, PySem.W.mg_of X G a_is_code, F_is_code.binds fun _ _ _ _ _ _ us hl => match us, hl with | [_], _ => rfl⟩
  have F_read_listing := fun_mk (st := s_read_listing) l_read_listing c_read_listing k_read_listing
  have D_read_listing : DefAt K mg "read_listing" s_read_listing ["text"] _ _ := ⟨F_read_listing, PySem.W.mg_of X G a_read_listing, F_read_listing.binds fun _ _ _ _ _ _ us hl => match us, hl with | [_], _ => rfl⟩
  have F_law := fun_mk (st := s_law) l_law c_law k_law
  have D_law : DefAt K mg "law" s_law ["script"] _ _ := ⟨F_law, PySem.W.mg_of X G a_law, F_law.binds fun _ _ _ _ _ _ us hl => match us, hl with | [_], _ => rfl⟩
  have C_Listed : Cls K k_Listed := ⟨q1_Listed, q2_Listed, q3_Listed, q4_Listed⟩
  have fo_regions : FOk K [k_Listed] "regions" := fun C h => by
    simp only [List.mem_cons, List.not_mem_nil, or_false] at h
    rcases h with rfl
    · exact ⟨C_Listed, n_Listed_regions⟩
  have fo_base : FOk K [k_Listed] "base" := fun C h => by
    simp only [List.mem_cons, List.not_mem_nil, or_false] at h
    rcases h with rfl
    · exact ⟨C_Listed, n_Listed_base⟩
  have fo_rows : FOk K [k_Listed] "rows" := fun C h => by
    simp only [List.mem_cons, List.not_mem_nil, or_false] at h
    rcases h with rfl
    · exact ⟨C_Listed, n_Listed_rows⟩
  have X_Listed_take_region : Cls K k_Listed ∧ Meth K k_Listed "take_region" f_Listed_m_take_region := ⟨C_Listed, x_Listed_take_region, i_Listed_m_take_region, k_Listed_m_take_region⟩
  have N_Listed : mg "Listed" = some (.ref k_Listed) := PySem.W.mg_of X G a_Listed
  have M_Listed : Mk K k_Listed f_Listed_m___init__ := ⟨q5_Listed, q6_Listed, i_Listed_m___init__, q7_Listed⟩
  have X_Listed_take : Cls K k_Listed ∧ Meth K k_Listed "take" f_Listed_m_take := ⟨C_Listed, x_Listed_take, i_Listed_m_take, k_Listed_m_take⟩
  have g_MOST_DIGITS : GV K mg "MOST_DIGITS" d_MOST_DIGITS := gv_int (PySem.W.mg_of X G a_MOST_DIGITS) t_MOST_DIGITS
  have g_DIGITS : GV K mg "DIGITS" d_DIGITS := gv_str (PySem.W.mg_of X G a_DIGITS) t_DIGITS
  have g_MOST_REGIONS : GV K mg "MOST_REGIONS" d_MOST_REGIONS := gv_int (PySem.W.mg_of X G a_MOST_REGIONS) t_MOST_REGIONS
  have g_GREATEST_BASE : GV K mg "GREATEST_BASE" d_GREATEST_BASE := gv_int (PySem.W.mg_of X G a_GREATEST_BASE) t_GREATEST_BASE
  have g_GREATEST_SIZE : GV K mg "GREATEST_SIZE" d_GREATEST_SIZE := gv_int (PySem.W.mg_of X G a_GREATEST_SIZE) t_GREATEST_SIZE
  have g_SIGNS : GV K mg "SIGNS" d_SIGNS := gv_flats (PySem.W.mg_of X G a_SIGNS) l_SIGNS t_SIGNS
  have g_GREATEST_WORD : GV K mg "GREATEST_WORD" d_GREATEST_WORD := gv_int (PySem.W.mg_of X G a_GREATEST_WORD) t_GREATEST_WORD
  have g_REGISTERS : GV K mg "REGISTERS" d_REGISTERS := gv_int (PySem.W.mg_of X G a_REGISTERS) t_REGISTERS
  have g_CODE_FORMS : KD K w mg "CODE_FORMS" d_CODE_FORMS := kd_mk (PySem.W.mg_of X G a_CODE_FORMS) l_CODE_FORMS t_wCODE_FORMS t_kCODE_FORMS (t_vCODE_FORMS ▸ (KVs.cons (kv_flats l_ad_CODE_FORMS_0 t_ad_CODE_FORMS_0) (KVs.cons (kv_flats l_ad_CODE_FORMS_1 t_ad_CODE_FORMS_1) (KVs.cons (kv_flats l_ad_CODE_FORMS_2 t_ad_CODE_FORMS_2) (KVs.cons (kv_flats l_ad_CODE_FORMS_3 t_ad_CODE_FORMS_3) (KVs.cons (kv_flats l_ad_CODE_FORMS_4 t_ad_CODE_FORMS_4) (KVs.cons (kv_flats l_ad_CODE_FORMS_5 t_ad_CODE_FORMS_5) (KVs.cons (kv_flats l_ad_CODE_FORMS_6 t_ad_CODE_FORMS_6) (KVs.cons (kv_flats l_ad_CODE_FORMS_7 t_ad_CODE_FORMS_7) (KVs.cons (kv_flats l_ad_CODE_FORMS_8 t_ad_CODE_FORMS_8) KVs.nil))))))))))
  have g_MOST_ROWS : GV K mg "MOST_ROWS" d_MOST_ROWS := gv_int (PySem.W.mg_of X G a_MOST_ROWS) t_MOST_ROWS
  refine ⟨PySem.W.fnOf "law" "law" (defArgs s_law) (defBody s_law) (defScope s_law) .none kV_law dc_law pm_law an_law cd_law ct_law, fun s v => .of_eq rfl, fun base _ _ => ?_⟩
  have G__law_mix := (ok__law_mix (P := l.prog) (w := w) (mg := mg) (base := base) D__law_mix (PySem.W.mg_none_of X G z_int)).imp fun vs H Q E h => spM_fine fine_mix h
  have G__law_stream := (ok__law_stream (P := l.prog) (w := w) (mg := mg) (base := base) D__law_stream D__law_mix G__law_mix (PySem.W.mg_none_of X G z_range) (PySem.W.mg_none_of X G z_min) (PySem.W.mg_none_of X G z_len) (PySem.W.mg_none_of X G z_int))
  have G__law_pick := (ok__law_pick (P := l.prog) (w := w) (mg := mg) (base := base) D__law_pick D__law_mix G__law_mix (PySem.W.mg_none_of X G z_len) (PySem.W.mg_none_of X G z_int)).imp fun vs H Q E h => spM_fine fine_pick h
  have G__law_place := (ok__law_place (P := l.prog) (w := w) (mg := mg) (base := base) D__law_place D__law_pick G__law_pick)
  have G__law_reg := (ok__law_reg (P := l.prog) (w := w) (mg := mg) (base := base) D__law_reg D__law_pick G__law_pick)
  have G__law_row := (ok__law_row (P := l.prog) (w := w) (mg := mg) (base := base) D__law_row D__law_pick D__law_place D__law_reg G__law_pick G__law_place G__law_reg)
  have G__law_code := (ok__law_code (P := l.prog) (w := w) (mg := mg) (base := base) D__law_code D__law_pick D__law_row D__law_reg G__law_pick G__law_row G__law_reg (PySem.W.mg_none_of X G z_range) (PySem.W.mg_none_of X G z_tuple))
  have G__law_listing := (ok__law_listing (P := l.prog) (w := w) (mg := mg) (base := base) D__law_listing (PySem.W.mg_none_of X G z_str) (PySem.W.mg_none_of X G z_range) (PySem.W.mg_none_of X G z_len))
  have G_write_listing := (ok_write_listing (P := l.prog) (w := w) (mg := mg) (base := base) D_write_listing (PySem.W.mg_none_of X G z_enumerate) (PySem.W.mg_none_of X G z_str))
  have G_Listed_m___init__ := (ok_Listed_m___init__ (P := l.prog) (w := w) (mg := mg) (base := base) (cA := fun i => ([k_Listed] : List Addr).getD i 0) D_Listed_m___init__ fo_regions fo_base fo_rows)
  have G__number := (ok__number (P := l.prog) (w := w) (mg := mg) (base := base) D__number g_MOST_DIGITS g_DIGITS (PySem.W.mg_none_of X G z_len) (PySem.W.mg_none_of X G z_int))
  have G_is_label := (ok_is_label (P := l.prog) (w := w) (mg := mg) (base := base) D_is_label (PySem.W.mg_none_of X G z_isinstance) (PySem.W.mg_none_of X G z_str))
  have G_Listed_m_take_region := (ok_Listed_m_take_region (P := l.prog) (w := w) (mg := mg) (base := base) (cA := fun i => ([k_Listed] : List Addr).getD i 0) D_Listed_m_take_region D__number D_is_label G__number G_is_label g_MOST_REGIONS g_GREATEST_BASE g_GREATEST_SIZE (PySem.W.mg_none_of X G z_len) fo_rows fo_regions fo_base)
  have G_is_number := (ok_is_number (P := l.prog) (w := w) (mg := mg) (base := base) D_is_number (PySem.W.mg_none_of X G z_isinstance) (PySem.W.mg_none_of X G z_int) (PySem.W.mg_none_of X G z_bool))
  have G_is_mask := (ok_is_mask (P := l.prog) (w := w) (mg := mg) (base := base) D_is_mask D_is_number G_is_number g_GREATEST_SIZE)
  have G__is_part := (ok__is_part (P := l.prog) (w := w) (mg := mg) (base := base) D__is_part D_is_number D_is_mask G_is_number G_is_mask g_SIGNS g_GREATEST_WORD g_GREATEST_BASE g_REGISTERS (PySem.W.mg_none_of X G z_isinstance) (PySem.W.mg_none_of X G z_str))
  have G_is_row := (ok_is_row (P := l.prog) (w := w) (mg := mg) (base := base) D_is_row D__is_part G__is_part g_CODE_FORMS (PySem.W.mg_none_of X G z_isinstance) (PySem.W.mg_none_of X G z_tuple) (PySem.W.mg_none_of X G z_len) (PySem.W.mg_none_of X G z_str) (PySem.W.mg_none_of X G z_zip))
  have G__part := (ok__part (P := l.prog) (w := w) (mg := mg) (base := base) D__part D__number G__number)
  have G_Listed_m_take := (ok_Listed_m_take (P := l.prog) (w := w) (mg := mg) (base := base) (cA := fun i => ([k_Listed] : List Addr).getD i 0) D_Listed_m_take D_Listed_m_take_region D__part D_is_row G_Listed_m_take_region G__part G_is_row g_MOST_ROWS g_CODE_FORMS (PySem.W.mg_none_of X G z_len) (PySem.W.mg_none_of X G z_tuple) (PySem.W.mg_none_of X G z_zip) X_Listed_take_region fo_rows)
  have G__are_regions := (ok__are_regions (P := l.prog) (w := w) (mg := mg) (base := base) D__are_regions D_is_number D_is_label G_is_number G_is_label g_MOST_REGIONS g_GREATEST_BASE g_GREATEST_SIZE (PySem.W.mg_none_of X G z_isinstance) (PySem.W.mg_none_of X G z_tuple) (PySem.W.mg_none_of X G z_len))
  have G_is_code := (ok_is_code (P := l.prog) (w := w) (mg := mg) (base := base) D_is_code D__are_regions D_is_row G__are_regions G_is_row g_MOST_ROWS (PySem.W.mg_none_of X G z_isinstance) (PySem.W.mg_none_of X G z_tuple) (PySem.W.mg_none_of X G z_len))
  have G_read_listing := (ok_read_listing (P := l.prog) (w := w) (mg := mg) (base := base) (cA := fun i => ([k_Listed] : List Addr).getD i 0) D_read_listing D_Listed_m___init__ D_Listed_m_take D_is_code G_Listed_m___init__ G_Listed_m_take G_is_code (PySem.W.mg_none_of X G z_enumerate) (PySem.W.mg_none_of X G z_tuple) N_Listed M_Listed X_Listed_take fo_rows fo_regions)
  have G_law := (ok_law (P := l.prog) (w := w) (mg := mg) (base := base) (cA := fun i => ([k_Listed] : List Addr).getD i 0) D_law D__law_stream D__law_code D__law_listing D_write_listing D_read_listing G__law_stream G__law_code G__law_listing G_write_listing G_read_listing (PySem.W.mg_none_of X G z_range))
  exact G_law.imp fun vs H Q E h => h _
def fd__law_mix : He.FnD := ⟨("_law_mix", none), "_law_mix", "_law_mix", defArgs s__law_mix, defBody s__law_mix, defScope s__law_mix⟩
def fd__law_stream : He.FnD := ⟨("_law_stream", none), "_law_stream", "_law_stream", defArgs s__law_stream, defBody s__law_stream, defScope s__law_stream⟩
def fd__law_pick : He.FnD := ⟨("_law_pick", none), "_law_pick", "_law_pick", defArgs s__law_pick, defBody s__law_pick, defScope s__law_pick⟩
def fd__law_place : He.FnD := ⟨("_law_place", none), "_law_place", "_law_place", defArgs s__law_place, defBody s__law_place, defScope s__law_place⟩
def fd__law_reg : He.FnD := ⟨("_law_reg", none), "_law_reg", "_law_reg", defArgs s__law_reg, defBody s__law_reg, defScope s__law_reg⟩
def fd__law_row : He.FnD := ⟨("_law_row", none), "_law_row", "_law_row", defArgs s__law_row, defBody s__law_row, defScope s__law_row⟩
def fd__law_code : He.FnD := ⟨("_law_code", none), "_law_code", "_law_code", defArgs s__law_code, defBody s__law_code, defScope s__law_code⟩
def fd__law_listing : He.FnD := ⟨("_law_listing", none), "_law_listing", "_law_listing", defArgs s__law_listing, defBody s__law_listing, defScope s__law_listing⟩
def fd_write_listing : He.FnD := ⟨("write_listing", none), "write_listing", "write_listing", defArgs s_write_listing, defBody s_write_listing, defScope s_write_listing⟩
def fd_Listed_m___init__ : He.FnD := ⟨("Listed", some "__init__"), "__init__", "Listed.__init__", defArgs s_Listed_m___init__, defBody s_Listed_m___init__, defScope s_Listed_m___init__⟩
def fd__number : He.FnD := ⟨("_number", none), "_number", "_number", defArgs s__number, defBody s__number, defScope s__number⟩
def fd_is_label : He.FnD := ⟨("is_label", none), "is_label", "is_label", defArgs s_is_label, defBody s_is_label, defScope s_is_label⟩
def fd_Listed_m_take_region : He.FnD := ⟨("Listed", some "take_region"), "take_region", "Listed.take_region", defArgs s_Listed_m_take_region, defBody s_Listed_m_take_region, defScope s_Listed_m_take_region⟩
def fd_is_number : He.FnD := ⟨("is_number", none), "is_number", "is_number", defArgs s_is_number, defBody s_is_number, defScope s_is_number⟩
def fd_is_mask : He.FnD := ⟨("is_mask", none), "is_mask", "is_mask", defArgs s_is_mask, defBody s_is_mask, defScope s_is_mask⟩
def fd__is_part : He.FnD := ⟨("_is_part", none), "_is_part", "_is_part", defArgs s__is_part, defBody s__is_part, defScope s__is_part⟩
def fd_is_row : He.FnD := ⟨("is_row", none), "is_row", "is_row", defArgs s_is_row, defBody s_is_row, defScope s_is_row⟩
def fd__part : He.FnD := ⟨("_part", none), "_part", "_part", defArgs s__part, defBody s__part, defScope s__part⟩
def fd_Listed_m_take : He.FnD := ⟨("Listed", some "take"), "take", "Listed.take", defArgs s_Listed_m_take, defBody s_Listed_m_take, defScope s_Listed_m_take⟩
def fd__are_regions : He.FnD := ⟨("_are_regions", none), "_are_regions", "_are_regions", defArgs s__are_regions, defBody s__are_regions, defScope s__are_regions⟩
def fd_is_code : He.FnD := ⟨("is_code", none), "is_code", "is_code", defArgs s_is_code, defBody s_is_code, defScope s_is_code⟩
def fd_read_listing : He.FnD := ⟨("read_listing", none), "read_listing", "read_listing", defArgs s_read_listing, defBody s_read_listing, defScope s_read_listing⟩
def fd_law : He.FnD := ⟨("law", none), "law", "law", defArgs s_law, defBody s_law, defScope s_law⟩
def ts_CODE_FORMS : He.Tab := (fun K => He.ga K "CODE_FORMS", ["const", "op", "select", "load", "store", "out", "jump", "branch", "stop"])
def xo_MOST_DIGITS : (PySem.W.Frag → Option (List (Option V))) × List (Option V) := (fun K => oV K "MOST_DIGITS", [some (.int 10)])
def xo_DIGITS : (PySem.W.Frag → Option (List (Option V))) × List (Option V) := (fun K => oV K "DIGITS", [some (.str "0123456789")])
def xo_MOST_REGIONS : (PySem.W.Frag → Option (List (Option V))) × List (Option V) := (fun K => oV K "MOST_REGIONS", [some (.int 1000)])
def xo_GREATEST_BASE : (PySem.W.Frag → Option (List (Option V))) × List (Option V) := (fun K => oV K "GREATEST_BASE", [some (.int 500000)])
def xo_GREATEST_SIZE : (PySem.W.Frag → Option (List (Option V))) × List (Option V) := (fun K => oV K "GREATEST_SIZE", [some (.int 4096)])
def xo_SIGNS : (PySem.W.Frag → Option (List (Option V))) × List (Option V) := (fun K => oT K (He.ga K "SIGNS"), [some (.str "+"), some (.str "-"), some (.str "*"), some (.str "&"), some (.str "|"), some (.str "^"), some (.str "<<"), some (.str ">>"), some (.str "=="), some (.str "<"), some (.str "<="), some (.str "div"), some (.str "mod")])
def xo_GREATEST_WORD : (PySem.W.Frag → Option (List (Option V))) × List (Option V) := (fun K => oV K "GREATEST_WORD", [some (.int 4294967295)])
def xo_REGISTERS : (PySem.W.Frag → Option (List (Option V))) × List (Option V) := (fun K => oV K "REGISTERS", [some (.int 16)])
def xo_ad_CODE_FORMS_0 : (PySem.W.Frag → Option (List (Option V))) × List (Option V) := (fun K => oT K (dcAt K (He.ga K "CODE_FORMS") 0), [some (.str "write"), some (.str "word")])
def xo_ad_CODE_FORMS_1 : (PySem.W.Frag → Option (List (Option V))) × List (Option V) := (fun K => oT K (dcAt K (He.ga K "CODE_FORMS") 1), [some (.str "sign"), some (.str "write"), some (.str "read"), some (.str "read")])
def xo_ad_CODE_FORMS_2 : (PySem.W.Frag → Option (List (Option V))) × List (Option V) := (fun K => oT K (dcAt K (He.ga K "CODE_FORMS") 2), [some (.str "write"), some (.str "read"), some (.str "read"), some (.str "read")])
def xo_ad_CODE_FORMS_3 : (PySem.W.Frag → Option (List (Option V))) × List (Option V) := (fun K => oT K (dcAt K (He.ga K "CODE_FORMS") 3), [some (.str "write"), some (.str "read"), some (.str "base"), some (.str "mask")])
def xo_ad_CODE_FORMS_4 : (PySem.W.Frag → Option (List (Option V))) × List (Option V) := (fun K => oT K (dcAt K (He.ga K "CODE_FORMS") 4), [some (.str "read"), some (.str "base"), some (.str "mask"), some (.str "read")])
def xo_ad_CODE_FORMS_5 : (PySem.W.Frag → Option (List (Option V))) × List (Option V) := (fun K => oT K (dcAt K (He.ga K "CODE_FORMS") 5), [some (.str "read")])
def xo_ad_CODE_FORMS_6 : (PySem.W.Frag → Option (List (Option V))) × List (Option V) := (fun K => oT K (dcAt K (He.ga K "CODE_FORMS") 6), [some (.str "target")])
def xo_ad_CODE_FORMS_7 : (PySem.W.Frag → Option (List (Option V))) × List (Option V) := (fun K => oT K (dcAt K (He.ga K "CODE_FORMS") 7), [some (.str "read"), some (.str "target")])
def xo_ad_CODE_FORMS_8 : (PySem.W.Frag → Option (List (Option V))) × List (Option V) := (fun K => oT K (dcAt K (He.ga K "CODE_FORMS") 8), [some (.str "read")])
def xo_MOST_ROWS : (PySem.W.Frag → Option (List (Option V))) × List (Option V) := (fun K => oV K "MOST_ROWS", [some (.int 100000)])
def xb_vCODE_FORMS : PySem.W.Frag → Bool := fun K => eqVs (dcVs K (He.ga K "CODE_FORMS")) [.ref (dcAt K (He.ga K "CODE_FORMS") 0), .ref (dcAt K (He.ga K "CODE_FORMS") 1), .ref (dcAt K (He.ga K "CODE_FORMS") 2), .ref (dcAt K (He.ga K "CODE_FORMS") 3), .ref (dcAt K (He.ga K "CODE_FORMS") 4), .ref (dcAt K (He.ga K "CODE_FORMS") 5), .ref (dcAt K (He.ga K "CODE_FORMS") 6), .ref (dcAt K (He.ga K "CODE_FORMS") 7), .ref (dcAt K (He.ga K "CODE_FORMS") 8)]
def kFa_0 : List He.Fa := [.glo "Listed", .cls "Listed", .glo "_law_mix", .keep "_law_mix", .glo "_law_stream", .keep "_law_stream", .glo "_law_pick", .keep "_law_pick", .glo "_law_place", .keep "_law_place", .glo "_law_reg", .keep "_law_reg", .glo "_law_row", .keep "_law_row", .glo "_law_code", .keep "_law_code", .glo "_law_listing", .keep "_law_listing", .glo "write_listing", .keep "write_listing"]
def kFa_1 : List He.Fa := [.meth "Listed" "__init__", .glo "_number", .keep "_number", .glo "is_label", .keep "is_label", .meth "Listed" "take_region", .glo "is_number", .keep "is_number", .glo "is_mask", .keep "is_mask", .glo "_is_part", .keep "_is_part", .glo "is_row", .keep "is_row", .glo "_part", .keep "_part", .meth "Listed" "take", .glo "_are_regions", .keep "_are_regions", .glo "is_code"]
def kFa_2 : List He.Fa := [.keep "is_code", .glo "read_listing", .keep "read_listing", .glo "law", .keep "law", .noat "Listed" "regions", .noat "Listed" "base", .noat "Listed" "rows", .mkr "Listed", .glo "SIGNS", .glo "CODE_FORMS", .free "int", .free "range", .free "min", .free "len", .free "tuple", .free "str", .free "enumerate", .free "isinstance", .free "bool"]
def kFa_3 : List He.Fa := [.free "zip"]
def kFa : List He.Fa := kFa_0 ++ kFa_1 ++ kFa_2 ++ kFa_3
def kFn_0 : List He.FnD := [fd__law_mix, fd__law_stream, fd__law_pick, fd__law_place, fd__law_reg, fd__law_row, fd__law_code, fd__law_listing, fd_write_listing, fd_Listed_m___init__, fd__number, fd_is_label, fd_Listed_m_take_region, fd_is_number, fd_is_mask, fd__is_part, fd_is_row, fd__part, fd_Listed_m_take, fd__are_regions]
def kFn_1 : List He.FnD := [fd_is_code, fd_read_listing, fd_law]
def kFn : List He.FnD := kFn_0 ++ kFn_1
def kTs : List He.Tab := [ts_CODE_FORMS]
def kXo : List ((PySem.W.Frag → Option (List (Option V))) × List (Option V)) := [xo_MOST_DIGITS, xo_DIGITS, xo_MOST_REGIONS, xo_GREATEST_BASE, xo_GREATEST_SIZE, xo_SIGNS, xo_GREATEST_WORD, xo_REGISTERS, xo_ad_CODE_FORMS_0, xo_ad_CODE_FORMS_1, xo_ad_CODE_FORMS_2, xo_ad_CODE_FORMS_3, xo_ad_CODE_FORMS_4, xo_ad_CODE_FORMS_5, xo_ad_CODE_FORMS_6, xo_ad_CODE_FORMS_7, xo_ad_CODE_FORMS_8, xo_MOST_ROWS]
def kXb : List (PySem.W.Frag → Bool) := [xb_vCODE_FORMS]
def kNames_0 : List Str := ["is_number", "is_label", "GREATEST_WORD", "MOST_REGIONS", "MOST_ROWS", "GREATEST_BASE", "GREATEST_SIZE", "SIGNS", "REGISTERS", "CODE_FORMS", "is_code", "_are_regions", "is_row", "_is_part", "is_mask", "ClockError", "CodeError", "BadListing", "DIGITS", "MOST_DIGITS"]
def kNames_1 : List Str := ["write_listing", "read_listing", "Listed", "_part", "_number", "_law_mix", "_law_stream", "_law_pick", "_law_reg", "_law_place", "_law_row", "_law_code", "_law_listing"]
def kNames : List Str := kNames_0 ++ kNames_1
def kL : Lk := ⟨kFa, kFn, kTs, kXo, kXb⟩
abbrev kR : PySem.W.OpenRow := PySem.W.OpenLaw.row PySem.Challenge.rw_sameclock_k17_listings_written_and_read
abbrev kQ : Program := PySem.W.view kR.prog [38]
set_option maxHeartbeats 0
theorem k_falseA (w : World) : RunA kR kQ kL 20000 kNames (w.withFollow "special-get-raises" false) := by
  intro os
  kernel_rfl
theorem k_falseB (w : World) : RunB kR kL 20000 (w.withFollow "special-get-raises" false) := by
  intro os
  kernel_rfl
theorem k_trueA (w : World) : RunA kR kQ kL 20000 kNames (w.withFollow "special-get-raises" true) := by
  intro os
  kernel_rfl
theorem k_trueB (w : World) : RunB kR kL 20000 (w.withFollow "special-get-raises" true) := by
  intro os
  kernel_rfl
theorem k_run (w : World) : HandSHeadRun.RunEq kR kQ (hookL kL) (fun s => (obA kL s, obB kL s)) 20000 kNames w := PySem.W.byRow2 "special-get-raises" (fun w => run_ab (k_falseA w) (k_falseB w)) (fun w => run_ab (k_trueA w) (k_trueB w)) w
theorem k_facts {l : PySem.W.OpenLaw} {w : World} {K : PySem.W.Frag} {h : Heap} {mg : Str → Option Value} {fa : Addr} (X : K.In h) (G : h.Ns mainGlobals mg) (hfa : mg "law" = some (.ref fa)) (c : SaysL kL w K) :
    ∃ fd : FuncData, (∀ (s : Shared) (v : Value), BindsTo s fd ⟨[v], []⟩ [("script", v)]) ∧ ∀ base : Heap, K.In base → base.Ns mainGlobals mg → FnOk l.prog w K mg base (L2.CX l.prog w) 7 fa fd ["script"] (spX K 1 (fun cA => m_law cA)) := by
  obtain ⟨oc__law_mix, od__law_mix, sl__law_mix, kV__law_mix, dc__law_mix, pm__law_mix, an__law_mix, cd__law_mix, ct__law_mix, l__law_mix, c__law_mix⟩ := c.def_ 0 (d := fd__law_mix)
  obtain ⟨oc__law_stream, od__law_stream, sl__law_stream, kV__law_stream, dc__law_stream, pm__law_stream, an__law_stream, cd__law_stream, ct__law_stream, l__law_stream, c__law_stream⟩ := c.def_ 1 (d := fd__law_stream)
  obtain ⟨oc__law_pick, od__law_pick, sl__law_pick, kV__law_pick, dc__law_pick, pm__law_pick, an__law_pick, cd__law_pick, ct__law_pick, l__law_pick, c__law_pick⟩ := c.def_ 2 (d := fd__law_pick)
  obtain ⟨oc__law_place, od__law_place, sl__law_place, kV__law_place, dc__law_place, pm__law_place, an__law_place, cd__law_place, ct__law_place, l__law_place, c__law_place⟩ := c.def_ 3 (d := fd__law_place)
  obtain ⟨oc__law_reg, od__law_reg, sl__law_reg, kV__law_reg, dc__law_reg, pm__law_reg, an__law_reg, cd__law_reg, ct__law_reg, l__law_reg, c__law_reg⟩ := c.def_ 4 (d := fd__law_reg)
  obtain ⟨oc__law_row, od__law_row, sl__law_row, kV__law_row, dc__law_row, pm__law_row, an__law_row, cd__law_row, ct__law_row, l__law_row, c__law_row⟩ := c.def_ 5 (d := fd__law_row)
  obtain ⟨oc__law_code, od__law_code, sl__law_code, kV__law_code, dc__law_code, pm__law_code, an__law_code, cd__law_code, ct__law_code, l__law_code, c__law_code⟩ := c.def_ 6 (d := fd__law_code)
  obtain ⟨oc__law_listing, od__law_listing, sl__law_listing, kV__law_listing, dc__law_listing, pm__law_listing, an__law_listing, cd__law_listing, ct__law_listing, l__law_listing, c__law_listing⟩ := c.def_ 7 (d := fd__law_listing)
  obtain ⟨oc_write_listing, od_write_listing, sl_write_listing, kV_write_listing, dc_write_listing, pm_write_listing, an_write_listing, cd_write_listing, ct_write_listing, l_write_listing, c_write_listing⟩ := c.def_ 8 (d := fd_write_listing)
  obtain ⟨oc_Listed_m___init__, od_Listed_m___init__, sl_Listed_m___init__, kV_Listed_m___init__, dc_Listed_m___init__, pm_Listed_m___init__, an_Listed_m___init__, cd_Listed_m___init__, ct_Listed_m___init__, l_Listed_m___init__, c_Listed_m___init__⟩ := c.def_ 9 (d := fd_Listed_m___init__)
  obtain ⟨oc__number, od__number, sl__number, kV__number, dc__number, pm__number, an__number, cd__number, ct__number, l__number, c__number⟩ := c.def_ 10 (d := fd__number)
  obtain ⟨oc_is_label, od_is_label, sl_is_label, kV_is_label, dc_is_label, pm_is_label, an_is_label, cd_is_label, ct_is_label, l_is_label, c_is_label⟩ := c.def_ 11 (d := fd_is_label)
  obtain ⟨oc_Listed_m_take_region, od_Listed_m_take_region, sl_Listed_m_take_region, kV_Listed_m_take_region, dc_Listed_m_take_region, pm_Listed_m_take_region, an_Listed_m_take_region, cd_Listed_m_take_region, ct_Listed_m_take_region, l_Listed_m_take_region, c_Listed_m_take_region⟩ := c.def_ 12 (d := fd_Listed_m_take_region)
  obtain ⟨oc_is_number, od_is_number, sl_is_number, kV_is_number, dc_is_number, pm_is_number, an_is_number, cd_is_number, ct_is_number, l_is_number, c_is_number⟩ := c.def_ 13 (d := fd_is_number)
  obtain ⟨oc_is_mask, od_is_mask, sl_is_mask, kV_is_mask, dc_is_mask, pm_is_mask, an_is_mask, cd_is_mask, ct_is_mask, l_is_mask, c_is_mask⟩ := c.def_ 14 (d := fd_is_mask)
  obtain ⟨oc__is_part, od__is_part, sl__is_part, kV__is_part, dc__is_part, pm__is_part, an__is_part, cd__is_part, ct__is_part, l__is_part, c__is_part⟩ := c.def_ 15 (d := fd__is_part)
  obtain ⟨oc_is_row, od_is_row, sl_is_row, kV_is_row, dc_is_row, pm_is_row, an_is_row, cd_is_row, ct_is_row, l_is_row, c_is_row⟩ := c.def_ 16 (d := fd_is_row)
  obtain ⟨oc__part, od__part, sl__part, kV__part, dc__part, pm__part, an__part, cd__part, ct__part, l__part, c__part⟩ := c.def_ 17 (d := fd__part)
  obtain ⟨oc_Listed_m_take, od_Listed_m_take, sl_Listed_m_take, kV_Listed_m_take, dc_Listed_m_take, pm_Listed_m_take, an_Listed_m_take, cd_Listed_m_take, ct_Listed_m_take, l_Listed_m_take, c_Listed_m_take⟩ := c.def_ 18 (d := fd_Listed_m_take)
  obtain ⟨oc__are_regions, od__are_regions, sl__are_regions, kV__are_regions, dc__are_regions, pm__are_regions, an__are_regions, cd__are_regions, ct__are_regions, l__are_regions, c__are_regions⟩ := c.def_ 19 (d := fd__are_regions)
  obtain ⟨oc_is_code, od_is_code, sl_is_code, kV_is_code, dc_is_code, pm_is_code, an_is_code, cd_is_code, ct_is_code, l_is_code, c_is_code⟩ := c.def_ 20 (d := fd_is_code)
  obtain ⟨oc_read_listing, od_read_listing, sl_read_listing, kV_read_listing, dc_read_listing, pm_read_listing, an_read_listing, cd_read_listing, ct_read_listing, l_read_listing, c_read_listing⟩ := c.def_ 21 (d := fd_read_listing)
  obtain ⟨oc_law, od_law, sl_law, kV_law, dc_law, pm_law, an_law, cd_law, ct_law, l_law, c_law⟩ := c.def_ 22 (d := fd_law)
  obtain ⟨u_MOST_DIGITS, a_MOST_DIGITS, t_MOST_DIGITS⟩ := oV_ok (show oV K "MOST_DIGITS" = some [some (.int 10)] from c.val 0 (t := xo_MOST_DIGITS))
  obtain ⟨u_DIGITS, a_DIGITS, t_DIGITS⟩ := oV_ok (show oV K "DIGITS" = some [some (.str "0123456789")] from c.val 1 (t := xo_DIGITS))
  obtain ⟨u_MOST_REGIONS, a_MOST_REGIONS, t_MOST_REGIONS⟩ := oV_ok (show oV K "MOST_REGIONS" = some [some (.int 1000)] from c.val 2 (t := xo_MOST_REGIONS))
  obtain ⟨u_GREATEST_BASE, a_GREATEST_BASE, t_GREATEST_BASE⟩ := oV_ok (show oV K "GREATEST_BASE" = some [some (.int 500000)] from c.val 3 (t := xo_GREATEST_BASE))
  obtain ⟨u_GREATEST_SIZE, a_GREATEST_SIZE, t_GREATEST_SIZE⟩ := oV_ok (show oV K "GREATEST_SIZE" = some [some (.int 4096)] from c.val 4 (t := xo_GREATEST_SIZE))
  obtain ⟨cd_SIGNS, its_SIGNS, n_SIGNS, sl_SIGNS, l_SIGNS, t_SIGNS⟩ := oT_ok (show oT K (He.ga K "SIGNS") = some [some (.str "+"), some (.str "-"), some (.str "*"), some (.str "&"), some (.str "|"), some (.str "^"), some (.str "<<"), some (.str ">>"), some (.str "=="), some (.str "<"), some (.str "<="), some (.str "div"), some (.str "mod")] from c.val 5 (t := xo_SIGNS))
  obtain ⟨u_GREATEST_WORD, a_GREATEST_WORD, t_GREATEST_WORD⟩ := oV_ok (show oV K "GREATEST_WORD" = some [some (.int 4294967295)] from c.val 6 (t := xo_GREATEST_WORD))
  obtain ⟨u_REGISTERS, a_REGISTERS, t_REGISTERS⟩ := oV_ok (show oV K "REGISTERS" = some [some (.int 16)] from c.val 7 (t := xo_REGISTERS))
  obtain ⟨es_CODE_FORMS, n_CODE_FORMS, l_CODE_FORMS, t_wCODE_FORMS, t_kCODE_FORMS, v_CODE_FORMS⟩ := dicW_look (c.tab 0 (t := ts_CODE_FORMS))
  obtain ⟨oad_CODE_FORMS_0, iad_CODE_FORMS_0, nad_CODE_FORMS_0, sad_CODE_FORMS_0, l_ad_CODE_FORMS_0, t_ad_CODE_FORMS_0⟩ := oT_ok (show oT K (dcAt K (He.ga K "CODE_FORMS") 0) = some [some (.str "write"), some (.str "word")] from c.val 8 (t := xo_ad_CODE_FORMS_0))
  obtain ⟨oad_CODE_FORMS_1, iad_CODE_FORMS_1, nad_CODE_FORMS_1, sad_CODE_FORMS_1, l_ad_CODE_FORMS_1, t_ad_CODE_FORMS_1⟩ := oT_ok (show oT K (dcAt K (He.ga K "CODE_FORMS") 1) = some [some (.str "sign"), some (.str "write"), some (.str "read"), some (.str "read")] from c.val 9 (t := xo_ad_CODE_FORMS_1))
  obtain ⟨oad_CODE_FORMS_2, iad_CODE_FORMS_2, nad_CODE_FORMS_2, sad_CODE_FORMS_2, l_ad_CODE_FORMS_2, t_ad_CODE_FORMS_2⟩ := oT_ok (show oT K (dcAt K (He.ga K "CODE_FORMS") 2) = some [some (.str "write"), some (.str "read"), some (.str "read"), some (.str "read")] from c.val 10 (t := xo_ad_CODE_FORMS_2))
  obtain ⟨oad_CODE_FORMS_3, iad_CODE_FORMS_3, nad_CODE_FORMS_3, sad_CODE_FORMS_3, l_ad_CODE_FORMS_3, t_ad_CODE_FORMS_3⟩ := oT_ok (show oT K (dcAt K (He.ga K "CODE_FORMS") 3) = some [some (.str "write"), some (.str "read"), some (.str "base"), some (.str "mask")] from c.val 11 (t := xo_ad_CODE_FORMS_3))
  obtain ⟨oad_CODE_FORMS_4, iad_CODE_FORMS_4, nad_CODE_FORMS_4, sad_CODE_FORMS_4, l_ad_CODE_FORMS_4, t_ad_CODE_FORMS_4⟩ := oT_ok (show oT K (dcAt K (He.ga K "CODE_FORMS") 4) = some [some (.str "read"), some (.str "base"), some (.str "mask"), some (.str "read")] from c.val 12 (t := xo_ad_CODE_FORMS_4))
  obtain ⟨oad_CODE_FORMS_5, iad_CODE_FORMS_5, nad_CODE_FORMS_5, sad_CODE_FORMS_5, l_ad_CODE_FORMS_5, t_ad_CODE_FORMS_5⟩ := oT_ok (show oT K (dcAt K (He.ga K "CODE_FORMS") 5) = some [some (.str "read")] from c.val 13 (t := xo_ad_CODE_FORMS_5))
  obtain ⟨oad_CODE_FORMS_6, iad_CODE_FORMS_6, nad_CODE_FORMS_6, sad_CODE_FORMS_6, l_ad_CODE_FORMS_6, t_ad_CODE_FORMS_6⟩ := oT_ok (show oT K (dcAt K (He.ga K "CODE_FORMS") 6) = some [some (.str "target")] from c.val 14 (t := xo_ad_CODE_FORMS_6))
  obtain ⟨oad_CODE_FORMS_7, iad_CODE_FORMS_7, nad_CODE_FORMS_7, sad_CODE_FORMS_7, l_ad_CODE_FORMS_7, t_ad_CODE_FORMS_7⟩ := oT_ok (show oT K (dcAt K (He.ga K "CODE_FORMS") 7) = some [some (.str "read"), some (.str "target")] from c.val 15 (t := xo_ad_CODE_FORMS_7))
  obtain ⟨oad_CODE_FORMS_8, iad_CODE_FORMS_8, nad_CODE_FORMS_8, sad_CODE_FORMS_8, l_ad_CODE_FORMS_8, t_ad_CODE_FORMS_8⟩ := oT_ok (show oT K (dcAt K (He.ga K "CODE_FORMS") 8) = some [some (.str "read")] from c.val 16 (t := xo_ad_CODE_FORMS_8))
  obtain ⟨u_MOST_ROWS, a_MOST_ROWS, t_MOST_ROWS⟩ := oV_ok (show oV K "MOST_ROWS" = some [some (.int 100000)] from c.val 17 (t := xo_MOST_ROWS))
  exact all_mk (l := l) (w := w) X G hfa (He.eqO_ok (c.fact (.glo "Listed") 0)) ((He.cls_ok (c.fact (.cls "Listed") 1)).1) ((He.cls_ok (c.fact (.cls "Listed") 1)).2) ((He.cls_ok (c.fact (.cls "Listed") 1)).3) ((He.cls_ok (c.fact (.cls "Listed") 1)).4) (He.eqO_ok (c.fact (.glo "_law_mix") 2)) (l__law_mix) (c__law_mix) (He.keep_ok (c.fact (.keep "_law_mix") 3)) (He.eqO_ok (c.fact (.glo "_law_stream") 4)) (l__law_stream) (c__law_stream) (He.keep_ok (c.fact (.keep "_law_stream") 5)) (He.eqO_ok (c.fact (.glo "_law_pick") 6)) (l__law_pick) (c__law_pick) (He.keep_ok (c.fact (.keep "_law_pick") 7)) (He.eqO_ok (c.fact (.glo "_law_place") 8)) (l__law_place) (c__law_place) (He.keep_ok (c.fact (.keep "_law_place") 9)) (He.eqO_ok (c.fact (.glo "_law_reg") 10)) (l__law_reg) (c__law_reg) (He.keep_ok (c.fact (.keep "_law_reg") 11)) (He.eqO_ok (c.fact (.glo "_law_row") 12)) (l__law_row) (c__law_row) (He.keep_ok (c.fact (.keep "_law_row") 13)) (He.eqO_ok (c.fact (.glo "_law_code") 14)) (l__law_code) (c__law_code) (He.keep_ok (c.fact (.keep "_law_code") 15)) (He.eqO_ok (c.fact (.glo "_law_listing") 16)) (l__law_listing) (c__law_listing) (He.keep_ok (c.fact (.keep "_law_listing") 17)) (He.eqO_ok (c.fact (.glo "write_listing") 18)) (l_write_listing) (c_write_listing) (He.keep_ok (c.fact (.keep "write_listing") 19)) ((He.meth_ok (c.fact (.meth "Listed" "__init__") 20)).1) (l_Listed_m___init__) (c_Listed_m___init__) ((He.meth_ok (c.fact (.meth "Listed" "__init__") 20)).3) ((He.meth_ok (c.fact (.meth "Listed" "__init__") 20)).2) (He.eqO_ok (c.fact (.glo "_number") 21)) (l__number) (c__number) (He.keep_ok (c.fact (.keep "_number") 22)) (He.eqO_ok (c.fact (.glo "is_label") 23)) (l_is_label) (c_is_label) (He.keep_ok (c.fact (.keep "is_label") 24)) ((He.meth_ok (c.fact (.meth "Listed" "take_region") 25)).1) (l_Listed_m_take_region) (c_Listed_m_take_region) ((He.meth_ok (c.fact (.meth "Listed" "take_region") 25)).3) ((He.meth_ok (c.fact (.meth "Listed" "take_region") 25)).2) (He.eqO_ok (c.fact (.glo "is_number") 26)) (l_is_number) (c_is_number) (He.keep_ok (c.fact (.keep "is_number") 27)) (He.eqO_ok (c.fact (.glo "is_mask") 28)) (l_is_mask) (c_is_mask) (He.keep_ok (c.fact (.keep "is_mask") 29)) (He.eqO_ok (c.fact (.glo "_is_part") 30)) (l__is_part) (c__is_part) (He.keep_ok (c.fact (.keep "_is_part") 31)) (He.eqO_ok (c.fact (.glo "is_row") 32)) (l_is_row) (c_is_row) (He.keep_ok (c.fact (.keep "is_row") 33)) (He.eqO_ok (c.fact (.glo "_part") 34)) (l__part) (c__part) (He.keep_ok (c.fact (.keep "_part") 35)) ((He.meth_ok (c.fact (.meth "Listed" "take") 36)).1) (l_Listed_m_take) (c_Listed_m_take) ((He.meth_ok (c.fact (.meth "Listed" "take") 36)).3) ((He.meth_ok (c.fact (.meth "Listed" "take") 36)).2) (He.eqO_ok (c.fact (.glo "_are_regions") 37)) (l__are_regions) (c__are_regions) (He.keep_ok (c.fact (.keep "_are_regions") 38)) (He.eqO_ok (c.fact (.glo "is_code") 39)) (l_is_code) (c_is_code) (He.keep_ok (c.fact (.keep "is_code") 40)) (He.eqO_ok (c.fact (.glo "read_listing") 41)) (l_read_listing) (c_read_listing) (He.keep_ok (c.fact (.keep "read_listing") 42)) (He.eqO_ok (c.fact (.glo "law") 43)) (l_law) (c_law) (He.keep_ok (c.fact (.keep "law") 44)) (He.eqO_ok (c.fact (.noat "Listed" "regions") 45)) (He.eqO_ok (c.fact (.noat "Listed" "base") 46)) (He.eqO_ok (c.fact (.noat "Listed" "rows") 47)) ((He.meth_ok (c.fact (.meth "Listed" "take_region") 25)).1) ((He.mkr_ok (c.fact (.mkr "Listed") 48)).1) ((He.mkr_ok (c.fact (.mkr "Listed") 48)).2) ((He.mkr_ok (c.fact (.mkr "Listed") 48)).4) ((He.meth_ok (c.fact (.meth "Listed" "take") 36)).1) (a_MOST_DIGITS) (t_MOST_DIGITS) (a_DIGITS) (t_DIGITS) (a_MOST_REGIONS) (t_MOST_REGIONS) (a_GREATEST_BASE) (t_GREATEST_BASE) (a_GREATEST_SIZE) (t_GREATEST_SIZE) (He.eqO_ok (c.fact (.glo "SIGNS") 49)) (l_SIGNS) (t_SIGNS) (a_GREATEST_WORD) (t_GREATEST_WORD) (a_REGISTERS) (t_REGISTERS) (He.eqO_ok (c.fact (.glo "CODE_FORMS") 50)) (l_CODE_FORMS) (t_wCODE_FORMS) (t_kCODE_FORMS) (v_CODE_FORMS.symm.trans (of_decide_eq_true (show (eqVs (dcVs K (He.ga K "CODE_FORMS")) [.ref (dcAt K (He.ga K "CODE_FORMS") 0), .ref (dcAt K (He.ga K "CODE_FORMS") 1), .ref (dcAt K (He.ga K "CODE_FORMS") 2), .ref (dcAt K (He.ga K "CODE_FORMS") 3), .ref (dcAt K (He.ga K "CODE_FORMS") 4), .ref (dcAt K (He.ga K "CODE_FORMS") 5), .ref (dcAt K (He.ga K "CODE_FORMS") 6), .ref (dcAt K (He.ga K "CODE_FORMS") 7), .ref (dcAt K (He.ga K "CODE_FORMS") 8)]) = true from c.chk 0 (f := xb_vCODE_FORMS)))) (l_ad_CODE_FORMS_0) (t_ad_CODE_FORMS_0) (l_ad_CODE_FORMS_1) (t_ad_CODE_FORMS_1) (l_ad_CODE_FORMS_2) (t_ad_CODE_FORMS_2) (l_ad_CODE_FORMS_3) (t_ad_CODE_FORMS_3) (l_ad_CODE_FORMS_4) (t_ad_CODE_FORMS_4) (l_ad_CODE_FORMS_5) (t_ad_CODE_FORMS_5) (l_ad_CODE_FORMS_6) (t_ad_CODE_FORMS_6) (l_ad_CODE_FORMS_7) (t_ad_CODE_FORMS_7) (l_ad_CODE_FORMS_8) (t_ad_CODE_FORMS_8) (a_MOST_ROWS) (t_MOST_ROWS) (He.eqO_ok (c.fact (.free "int") 51)) (He.eqO_ok (c.fact (.free "range") 52)) (He.eqO_ok (c.fact (.free "min") 53)) (He.eqO_ok (c.fact (.free "len") 54)) (He.eqO_ok (c.fact (.free "tuple") 55)) (He.eqO_ok (c.fact (.free "str") 56)) (He.eqO_ok (c.fact (.free "enumerate") 57)) (He.eqO_ok (c.fact (.free "isinstance") 58)) (He.eqO_ok (c.fact (.free "bool") 59)) (He.eqO_ok (c.fact (.free "zip") 60))
end GK17
open PySem PySem.W
open PyProof.Rows hiding St
set_option maxHeartbeats 0 in
theorem PySem.Challenge.cw_sameclock_k17_listings_written_and_read_holds : PySem.Challenge.rw_sameclock_k17_listings_written_and_read.Holds := by
  w_on; o_law
  refine HandSHeadRun.head_any (r := GK17.kR) (q := GK17.kQ) (H := Ly.hookL GK17.kL) (ob := fun s => (Ly.obA GK17.kL s, Ly.obB GK17.kL s)) (M := 20000) (loose := GK17.kNames) (d := HandSHeadRun.topDef GK17.kR.prog 38) (kwd := []) Ly.obL_eq (by kernel_rfl) (fun s => by kernel_rfl) GK17.k_run (by kernel_rfl) (by kernel_rfl) (by kernel_rfl) (by rfl) (by first | assumption | decide +kernel) (by decide +kernel) ⟨rfl, rfl, rfl, rfl, rfl, by decide +kernel⟩ ?hw ?hc
  case hw => w_witness2
  case hc =>
    refine Ly.walk_ofL (l := PySem.Challenge.rw_sameclock_k17_listings_written_and_read) (n := 63) (k := 7) (x := "script") (CX := fun w => L2.CX (PySem.Challenge.rw_sameclock_k17_listings_written_and_read).prog w) rfl (by decide) (by kernel_rfl) ⟨rfl, by decide, by decide⟩ ?F (fun w H s e s' => Ly.law_noexc)
    intro w mg fa h Y G hmg0
    obtain ⟨K, KX, c⟩ := Y
    have hmg : mg ("law" : PySem.Str) = some (.ref fa) := by
      have e : (HandSHeadRun.topDef GK17.kR.prog 38).name = ("law" : PySem.Str) := by kernel_rfl
      rw [← e]
      exact hmg0
    obtain ⟨fd, hb, hF⟩ := GK17.k_facts (l := PySem.Challenge.rw_sameclock_k17_listings_written_and_read) (w := w) KX G hmg c
    exact ⟨K, fd, _, KX, hb, fun H a ns hl hb hO hS => Ly.law_endX (m := fun cA => GK17.m_law cA) GK17.law_true hl hb hO hS, hF⟩
